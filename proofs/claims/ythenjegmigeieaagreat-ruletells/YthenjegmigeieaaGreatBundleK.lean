/- Own texts, one behind the other (part 11). -/
import Derived.Test.YthenjegmigeieaaGreatBundleJ
import Derived.Test.YthenjegmigeieaaGreatRows
import Derived.ArgAppend
set_option maxRecDepth 100000
set_option maxHeartbeats 8000000
namespace Go.Proofs.YthenjegmigeieaaGreat
open Go.RowKit
theorem SetOf_low (l:List Rl.Fc) (v:Value) (w0 w:World) (hb0:Below w0.heap.size w0 w) (hV:FactsV w0 v l) (hl:l.length≤2097152) (hf:∀ f,f∈l→FFit f) :
 Calls Tryz.prog 35 #[v] w fun e w'=>∃ v',e=.returned v'∧(∃ q:List Fv,q.map (·.1)=Rl.set l∧w'.ownsRow w.heap.size 55 2 v' q.length (q.map fcCells).flatten∧∀ p,p∈q→FvOk w0 p)∧Below w.heap.size w w':=by
 obtain ⟨i0,hi,hz0,hz1,hz2⟩:=info_parts rl_info49
 obtain ⟨ao,cap,rfl,_,hA⟩:=hV
 have HA:Hid (FactsAt w0 ao l):=hA
 have HB0:Hid (∀ {z:World},Below w.heap.size w z→Below w0.heap.size w0 z):=fun hz=>hb0.trans (hz.mono hb0.size)
 clear hb0
 have HF:Hid (∀ f,f∈l→FFit f):=hf
 clear hA hf
 go_enter Tryz.func35,Tryz.ntmps35
 go_wp2_with fail
 go_loopw [3,4] (fun vs i wr=>∃ (k:Nat) (q:List Fv),k≤l.length∧i=.int .i64 k∧wr.ownsRow w.heap.size 55 2 vs q.length (q.map fcCells).flatten∧Rl.IsSet (q.map (·.1)) (l.take k)∧(∀ p,p∈q→FvOk w0 p)∧Below w.heap.size w wr∧q.length≤k) (fun _ i _=>l.length - (intOf i).toNat)
 case atStart=>exact ⟨0,[],Nat.zero_le _,rfl,World.ownsRow_nil _ _ _ _,⟨List.Pairwise.nil,fun x=>Iff.rfl⟩,fun _ hp=>absurd hp (by simp),Below.refl _ _,Nat.le_refl _⟩
 case round =>
  obtain ⟨wo,hwo⟩:∃ wo,wo=wr:=⟨_,rfl⟩
  subst hwo
  obtain ⟨k,q,hk,rfl,hown,hset,hqo,hb,hqk⟩:=hrel
  have HSET:Hid _:=hset
  have HQO:Hid _:=hqo
  clear hset hqo
  obtain ⟨aos,caps,rfl⟩:=own_slice hown
  by_cases hlt:k<l.length
  · obtain ⟨b,off,rfl,p0,fv,p1,hIv⟩:=facts_at HA.out k hlt
    have hmem:=factD_mem l k hlt
    have HTK:Hid (l.take (k+1)=l.take k++[Rl.factD l k]):=by show _=_; rw [List.take_add_one,factD_get l k hlt]; rfl
    have HIV:Hid (IntsV w0 fv (Rl.factD l k).args):=hIv
    have HFF:Hid (FFit (Rl.factD l k)):=HF.out _ hmem
    obtain ⟨af,cf,rfl,_⟩:=hIv
    have a0:=cell_below (HB0.out hb) p0
    have a1:=cell_below (HB0.out hb) p1
    have HP0:Hid (w0.cell? ⟨b,off+k * 2,none⟩=some (.int .i64 (Rl.factD l k).pred)∧w0.cell? ⟨b,off+k * 2+1,none⟩=some (.slice af (Rl.factD l k).args.length cf)):=⟨p0,p1⟩
    clear p0 p1 hmem
    generalize Rl.factD l k=f at *
    have HHF:Hid (Calls Tryz.prog 26 #[.slice aos q.length caps,fcVal f.pred (.slice af f.args.length cf)] wo fun e w'=>e=.returned (.bool (Rl.has (q.map (·.1)) f))∧Below wo.heap.size wo w'):=by
     exact HasFact_any (q.map (·.1)) f _ _ wo (own_factsV hown HQO.out (HB0.out hb)) (intsV_below HIV.out (HB0.out hb)) (by rw [List.length_map]; omega) (fun g hg=>by obtain ⟨p,hp,rfl⟩:=List.mem_map.mp hg; exact (HQO.out p hp).2) HFF.out
    go_wp2_with fail
    refine Calls.mono HHF.out ?_
    rintro e w1 ⟨rfl,hb1⟩
    have hown1:=ownsRow_below hown hb1
    have hbw1:=hb.trans (hb1.mono hb.size)
    clear hown hb hb1 HHF a0 a1
    cases hh:Rl.has (q.map (·.1)) f
    · have HNF:Hid (f∉q.map (·.1)):=fun h=>by rw [Rl.has_iff.mpr h] at hh; cases hh
      clear hh
      have b0:=cell_below (HB0.out hbw1) HP0.out.1
      have b1:=cell_below (HB0.out hbw1) HP0.out.2
      have hbsz:=hbw1.size
      go_wp2_with (at_builtin; refine wpList_append_own _ rfl (.tmp 20) (.tmp 25) 27 rfl w.heap.size 55 i0 _ 2 32 Tryz.underlying27 hi hz0 hz1 hz2 rfl (by decide) _ _ _ rfl (hown1.alloc _) ⟨w1.heap.size,0,none⟩ 1 1 (fcCells (f,.slice af f.args.length cf)) rfl rfl ?c1 ?c2 ?c3 ?c4 ?c5 ?_)
      case c1=>exact news2 w1 _ _ 55
      case c2=>intro u hu; simp [fcCells] at hu; rcases hu with rfl | rfl <;> rfl
      case c3=>unfold maxLen; omega
      case c4=>omega
      case c5=>simp; omega
      intro vs2 w4 hown4 hgrow4 _
      have hb5:Below w.heap.size w w4:=(hbw1.alloc hbw1.size _).grown hgrow4 (by simp; omega) (fun k hk=>(hown1.lt k hk).1)
      rcases ownsRow_forms9 hown4 with ⟨_,h0⟩ | ⟨g,cap9,hv9⟩
      · exact absurd h0 (by omega)
      subst hv9
      have hrow5:FRow w4 w.heap.size g cap9 (q++[(f,Value.slice af f.args.length cf)]):=by
       unfold FRow
       rw [List.length_append,List.map_append,List.flatten_append]
       simpa using hown4
      have hgl:=hrow5.lt
      clear hown4 hgrow4 hown1 hbw1 b0 b1
      go_wp2_with fail
      go_loopw [5] (fun ik wr=>∃ (m:Nat) (R:List Fv),m≤q.length∧ik=.int .i64 m∧FRow wr w.heap.size g cap9 R∧Gap q R m∧(∀ x,x∈(q.map (·.1)).drop m→Rl.ord x f > 0)∧Below w.heap.size w wr) (fun ik _=>(intOf ik).toNat)
      case atStart=>exact ⟨q.length,_,Nat.le_refl _,rfl,hrow5,Gap.start q _,fun x hx=>by rw [List.drop_of_length_le (by simp)] at hx; simp at hx,hb5⟩
      case round =>
       clear hrow5 hb5
       obtain ⟨wp,hwp⟩:∃ wp,wp=wr:=⟨_,rfl⟩
       subst hwp
       obtain ⟨m,R,hm,rfl,hrow,hgap,hgt,hbp⟩:=hrel
       have HGP:Hid _:=hgap
       have HGT:Hid _:=hgt
       have hRl:=hgap.len
       have HRL:Hid (R.length=q.length+1):=hRl
       have hmR:m<R.length:=by omega
       clear hgap hgt hRl
       have b0:=cell_below (HB0.out hbp) HP0.out.1
       have b1:=cell_below (HB0.out hbp) HP0.out.2
       rcases Nat.eq_zero_or_pos m with hm0 | hm0
       · have HTOP:Hid (m=0∨∃ x,(q.map (·.1))[m - 1]?=some x∧¬ Rl.ord x f > 0):=.inl hm0
         have hmz:decide (0<m)=false:=by simp; omega
         have HM0:Hid (m=0):=hm0
         clear hm0
         go_upto_region 8 with fail
         go_region
         have hrow2:FRow wp.drew w.heap.size g cap9 R:=hrow
         have hbz:Below w.heap.size w wp.drew:=⟨hbp.os,hbp.tape,hbp.output,hbp.size,hbp.block⟩
         clear hrow hbp b0 b1
         generalize wp.drew=wz at *
         have HS2:Hid (Rl.IsSet ((q.take m++(f,Value.slice af f.args.length cf)::q.drop m).map (·.1)) (l.take (k+1))):=by
          rw [HTK.out,List.map_append,List.map_cons,List.map_take,List.map_drop]
          exact isSet_put HSET.out HNF.out (by rw [List.length_map]; exact hm) HGT.out HTOP.out
         have HQ2:Hid (∀ p,p∈q.take m++(f,Value.slice af f.args.length cf)::q.drop m→FvOk w0 p):=by
          intro p hp
          rcases List.mem_append.mp hp with hp | hp
          · exact HQO.out p (List.mem_of_mem_take hp)
          · rcases List.mem_cons.mp hp with rfl | hp
            · exact ⟨HIV.out,HFF.out⟩
            · exact HQO.out p (List.mem_of_mem_drop hp)
         have hput:=hrow2.put m hmR (f,Value.slice af f.args.length cf)
         rw [HGP.out.fin hm] at hput
         have hlen2:(q.take m++(f,Value.slice af f.args.length cf)::q.drop m).length=q.length+1:=by simp; omega
         have hb9:Below w.heap.size w ((wz.setCell ⟨g,m * 2,none⟩ (.int .i64 f.pred)).setCell ⟨g,m * 2+1,none⟩ (.slice af f.args.length cf)) :=
          ⟨hbz.os,hbz.tape,hbz.output,by simpa [World.setCell] using hbz.size,fun k hk=>(Below.heap_setCell _ _ _ _ (show ¬ k=g by omega)).trans ((Below.heap_setCell _ _ _ _ (show ¬ k=g by omega)).trans (hbz.block k hk))⟩
         obtain ⟨r,hr,_⟩:=get_lt (q:=R) (i:=m) hmR
         obtain ⟨r0,r1⟩:=hrow2.cell hr
         have rf0:=hrow2.frozen (m * 2)
         have rf1:=hrow2.frozen (m * 2+1)
         have d0:=cell_below (HB0.out hbz) HP0.out.1
         have d1:=cell_below (HB0.out hbz) HP0.out.2
         unfold FRow at hput
         rw [hlen2] at hput
         have HPUT:Hid _:=hput
         have HLN2:Hid ((q.take m++(f,Value.slice af f.args.length cf)::q.drop m).length=q.length+1):=hlen2
         clear HTK HSET HNF HGT HGP hrow2 hr hput hlen2 HTOP
         go_wp2_with fail
         go_roundw
         case rel=>exact ⟨k+1,_,by omega,by go_num,by rw [HLN2.out]; exact HPUT.out,HS2.out,HQ2.out,hb9,by rw [HLN2.out]; omega⟩
         case measure=>simp [intOf]; omega
       · obtain ⟨m1,hm1e⟩:∃ m1,m1+1=m:=⟨m - 1,by omega⟩
         have hwr2:IntKind.i64.wrap ((m:Int) - 1)=(m1:Int):=by
          have h9:(m:Int) - 1=(m1:Int):=by omega
          rw [h9]
          simp [IntKind.wrap,IntKind.bits,IntKind.signed]
          omega
         obtain ⟨y,hy,hym⟩:=get_lt (q:=q) (i:=m1) (by omega)
         obtain ⟨c0,c1⟩:=hrow.cell ((HGP.out.lo m1 (by omega)).trans hy)
         obtain ⟨ya,yc,hyv⟩:=fv_slice (HQO.out y hym)
         have HY:Hid (q[m1]?=some y∧y.2=.slice ya y.1.args.length yc):=⟨hy,hyv⟩
         rw [hyv] at c1
         have HN:Hid (∀ z,Below wp.heap.size wp z→Calls Tryz.prog 44 #[fcVal y.1.pred (.slice ya y.1.args.length yc),fcVal f.pred (.slice af f.args.length cf)] z fun e w'=>e=.returned (.int .i64 (Rl.ord y.1 f))∧Below wp.heap.size wp w'∧w'.cell? ⟨g,m1 * 2,none⟩=some (.int .i64 y.1.pred)∧w'.cell? ⟨g,m1 * 2+1,none⟩=some (.slice ya y.1.args.length yc)∧w'.cell? ⟨b,off+k * 2,none⟩=some (.int .i64 f.pred)∧w'.cell? ⟨b,off+k * 2+1,none⟩=some (.slice af f.args.length cf)):=by
          intro z hz
          have hzw:=hbp.trans (hz.mono hbp.size)
          refine (OrderOf_any y.1 f _ _ z (by have h3:=intsV_below (HQO.out y hym).1 (HB0.out hzw); rw [hyv] at h3; exact h3) (intsV_below HIV.out (HB0.out hzw)) (HQO.out y hym).2 HFF.out).mono ?_
          rintro e w' ⟨h1,h2⟩
          have h3:=hz.trans (h2.mono hz.size)
          exact ⟨h1,h3,cell_below h3 c0,cell_below h3 c1,cell_below h3 b0,cell_below h3 b1⟩
         clear hy hym hyv
         have hm1':m1<q.length+1:=by omega
         have hm1a:(0:Int)≤(m1:Int):=by omega
         have hm1b:(m1:Int)<((q.length+1:Nat):Int):=by omega
         have hm1c:(m1:Int)<(q.length:Int)+1:=by omega
         have hmpos:(0:Int)<(m:Int):=by omega
         have HM1:Hid (m1+1=m):=hm1e
         clear hm1e
         have HGA:∀ b o,Below wp.heap.size wp b→Below wp.heap.size wp (b.alloc o):=fun _ o h=>h.alloc h.size o
         have HGD:∀ b,Below wp.heap.size wp b→Below wp.heap.size wp b.drew:=fun _ h=>⟨h.os,h.tape,h.output,h.size,h.block⟩
         have HGR:Below wp.heap.size wp wp:=Below.refl _ _
         go_upto_region 8 with fail
         go_region_held3 (fun yy=>yy.cell? ⟨g,m1 * 2,none⟩=some (.int .i64 y.1.pred)∧yy.cell? ⟨g,m1 * 2+1,none⟩=some (.slice ya y.1.args.length yc)∧yy.cell? ⟨b,off+k * 2,none⟩=some (.int .i64 f.pred)∧yy.cell? ⟨b,off+k * 2+1,none⟩=some (.slice af f.args.length cf)∧Below wp.heap.size wp yy) (go_keep) (
          (go_at_call 44; refine Calls.mono (HN.out _ ?_) ?_; (simp [*]); rintro e w2 ⟨rfl,hb2,hz2,hz3,hz4,hz5⟩))
         clear HGA HGD HGR HN hz4 hz5 b0 b1 c0 c1
         have hrow2:=hrow.keep (hb2.block g hrow.lt.2)
         have hbz:=hbp.trans (hb2.mono hbp.size)
         clear hrow hbp hb2
         generalize w2=wz at *
         by_cases ho:0<Rl.ord y.1 f
         · have HG2:Hid (Gap q (R.set m y) m1):=by
            have h3:=HGP.out
            rw [← HM1.out] at h3 ⊢
            exact h3.step HY.out.1
           have HT2:Hid (∀ x,x∈(q.map (·.1)).drop m1→Rl.ord x f > 0):=by
            intro x hx
            have hlt9:m1<(q.map (·.1)).length:=by rw [List.length_map]; have:=HM1.out; omega
            rw [List.drop_eq_getElem_cons hlt9] at hx
            rcases List.mem_cons.mp hx with hx | hx
            · rw [hx,List.getElem_map]
              have h4:q[m1]'(by simpa using hlt9)=y:=by
               have h5:=HY.out.1
               rw [List.getElem?_eq_getElem (by simpa using hlt9)] at h5
               exact Option.some.inj h5
              rw [h4]
              exact ho
            · exact HGT.out x (by rw [← HM1.out]; exact hx)
           have hput:=hrow2.put m hmR y
           rw [HY.out.2] at hput
           have hb9:Below w.heap.size w ((wz.setCell ⟨g,m * 2,none⟩ (.int .i64 y.1.pred)).setCell ⟨g,m * 2+1,none⟩ (.slice ya y.1.args.length yc)) :=
            ⟨hbz.os,hbz.tape,hbz.output,by simpa [World.setCell] using hbz.size,fun k hk=>(Below.heap_setCell _ _ _ _ (show ¬ k=g by omega)).trans ((Below.heap_setCell _ _ _ _ (show ¬ k=g by omega)).trans (hbz.block k hk))⟩
           obtain ⟨r,hr,_⟩:=get_lt (q:=R) (i:=m) hmR
           obtain ⟨r0,r1⟩:=hrow2.cell hr
           have rf0:=hrow2.frozen (m * 2)
           have rf1:=hrow2.frozen (m * 2+1)
           have hmq:m<q.length+1:=by omega
           have HMM:Hid (m1<m):=by have:=HM1.out; show m1<m; omega
           clear hrow2 hr hbz HGP HGT
           go_wp2_with fail
           go_roundw
           case rel=>exact ⟨m1,R.set m y,by have:=HM1.out; omega,by first | rfl | go_num | (simp [*]),hput,HG2.out,HT2.out,hb9⟩
           case measure=>have:=HMM.out; simp [intOf, *]
         · have HTOP:Hid (m=0∨∃ x,(q.map (·.1))[m - 1]?=some x∧¬ Rl.ord x f > 0):=.inr ⟨y.1,by rw [show m - 1=m1 by have:=HM1.out; omega,List.getElem?_map,HY.out.1]; rfl,ho⟩
           clear hz2 hz3
           have HS2:Hid (Rl.IsSet ((q.take m++(f,Value.slice af f.args.length cf)::q.drop m).map (·.1)) (l.take (k+1))):=by
            rw [HTK.out,List.map_append,List.map_cons,List.map_take,List.map_drop]
            exact isSet_put HSET.out HNF.out (by rw [List.length_map]; exact hm) HGT.out HTOP.out
           have HQ2:Hid (∀ p,p∈q.take m++(f,Value.slice af f.args.length cf)::q.drop m→FvOk w0 p):=by
            intro p hp
            rcases List.mem_append.mp hp with hp | hp
            · exact HQO.out p (List.mem_of_mem_take hp)
            · rcases List.mem_cons.mp hp with rfl | hp
              · exact ⟨HIV.out,HFF.out⟩
              · exact HQO.out p (List.mem_of_mem_drop hp)
           have hput:=hrow2.put m hmR (f,Value.slice af f.args.length cf)
           rw [HGP.out.fin hm] at hput
           have hlen2:(q.take m++(f,Value.slice af f.args.length cf)::q.drop m).length=q.length+1:=by simp; omega
           have hb9:Below w.heap.size w ((wz.setCell ⟨g,m * 2,none⟩ (.int .i64 f.pred)).setCell ⟨g,m * 2+1,none⟩ (.slice af f.args.length cf)) :=
            ⟨hbz.os,hbz.tape,hbz.output,by simpa [World.setCell] using hbz.size,fun k hk=>(Below.heap_setCell _ _ _ _ (show ¬ k=g by omega)).trans ((Below.heap_setCell _ _ _ _ (show ¬ k=g by omega)).trans (hbz.block k hk))⟩
           obtain ⟨r,hr,_⟩:=get_lt (q:=R) (i:=m) hmR
           obtain ⟨r0,r1⟩:=hrow2.cell hr
           have rf0:=hrow2.frozen (m * 2)
           have rf1:=hrow2.frozen (m * 2+1)
           have d0:=cell_below (HB0.out hbz) HP0.out.1
           have d1:=cell_below (HB0.out hbz) HP0.out.2
           unfold FRow at hput
           rw [hlen2] at hput
           have HPUT:Hid _:=hput
           have HLN2:Hid ((q.take m++(f,Value.slice af f.args.length cf)::q.drop m).length=q.length+1):=hlen2
           clear HTK HSET HNF HGT HGP hrow2 hr hput hlen2 HTOP
           go_wp2_with fail
           go_roundw
           case rel=>exact ⟨k+1,_,by omega,by go_num,by rw [HLN2.out]; exact HPUT.out,HS2.out,HQ2.out,hb9,by rw [HLN2.out]; omega⟩
           case measure=>simp [intOf]; omega
    · have HS2:Hid (Rl.IsSet (q.map (·.1)) (l.take (k+1))):=by rw [HTK.out]; exact isSet_skip HSET.out (Rl.has_iff.mp hh)
      clear HTK HSET
      go_wp2_with fail
      go_roundw
      case rel=>exact ⟨k+1,q,by omega,by go_num,hown1,HS2.out,HQO.out,hbw1,by omega⟩
      case measure=>simp [intOf]; omega
  · have HFS:Hid (∃ q2:List Fv,q2.map (·.1)=Rl.set l∧wo.ownsRow w.heap.size 55 2 (.slice aos q.length caps) q2.length (q2.map fcCells).flatten∧∀ p,p∈q2→FvOk w0 p):=⟨q,by rw [Rl.isSet_eq HSET.out,List.take_of_length_le (by omega)],hown,HQO.out⟩
    clear hown HSET HQO
    go_wp2_with fail
    go_ret
    exact ⟨_,rfl,HFS.out,hb⟩
end Go.Proofs.YthenjegmigeieaaGreat
namespace Go.Proofs.YthenjegmigeieaaGreat
namespace Ru
def gapL (Q:List Nv) (x:Nv) (i k:Nat):List Nv:=Q.take k++x::((Q.take i).drop k++Q.drop (i+1))
def Srtd (l:List Nv):Prop:=l.Pairwise fun a b=>¬ Rl.cmpL b.1 a.1<0
section
variable {Q:List Nv} {x:Nv} {i k:Nat}
theorem gap_start (hx:Q[i]?=some x):gapL Q x i i=Q:=by
 unfold gapL
 have hi:i<Q.length:=(List.getElem?_eq_some_iff.mp hx).1
 rw [List.drop_of_length_le (by rw [List.length_take]; omega),List.nil_append]
 have hd:Q.drop i=x::Q.drop (i+1):=by rw [List.drop_eq_getElem_cons hi,(List.getElem?_eq_some_iff.mp hx).2]
 rw [← hd,List.take_append_drop]
theorem gap_length (hx:Q[i]?=some x) (hk:k≤i):(gapL Q x i k).length=Q.length:=by
 have hi:i<Q.length:=(List.getElem?_eq_some_iff.mp hx).1
 unfold gapL
 simp only [List.length_append,List.length_cons,List.length_take,List.length_drop]
 omega
theorem gap_at (hx:Q[i]?=some x) (hk:k≤i):(gapL Q x i k)[k]?=some x:=by
 have hi:i<Q.length:=(List.getElem?_eq_some_iff.mp hx).1
 unfold gapL
 rw [List.getElem?_append_right (by rw [List.length_take]; omega),List.length_take,show k - min k Q.length=0 by omega]
 rfl
theorem gap_pred (hx:Q[i]?=some x) (hk:k+1≤i):(gapL Q x i (k+1))[k]?=Q[k]?:=by
 have hi:i<Q.length:=(List.getElem?_eq_some_iff.mp hx).1
 unfold gapL
 rw [List.getElem?_append_left (by rw [List.length_take]; omega),List.getElem?_take,if_pos (by omega)]
theorem gap_swap {y:Nv} (hx:Q[i]?=some x) (hk:k+1≤i) (hy:Q[k]?=some y):((gapL Q x i (k+1)).set (k+1) y).set k x=gapL Q x i k:=by
 have hi:i<Q.length:=(List.getElem?_eq_some_iff.mp hx).1
 have e1:Q.take (k+1)=Q.take k++[y]:=by rw [List.take_add_one,hy]; rfl
 have e2:(Q.take i).drop k=y::(Q.take i).drop (k+1):=by
  rw [List.drop_eq_getElem_cons (by rw [List.length_take]; omega)]
  congr 1
  rw [List.getElem_take]
  exact (List.getElem?_eq_some_iff.mp hy).2
 have hl:(Q.take k).length=k:=by rw [List.length_take]; omega
 unfold gapL
 rw [e1,e2,List.append_assoc,List.set_append_right _ _ (by omega),List.set_append_right _ _ (by omega),hl,show k+1 - k=1 by omega,Nat.sub_self]
 rfl
theorem gap_perm (hx:Q[i]?=some x) (hk:k≤i):(gapL Q x i k).Perm Q:=by
 have hi:i<Q.length:=(List.getElem?_eq_some_iff.mp hx).1
 have h1:(gapL Q x i k).Perm (x::(Q.take k++((Q.take i).drop k++Q.drop (i+1)))):=List.perm_middle
 have h2:Q.take k++((Q.take i).drop k++Q.drop (i+1))=Q.take i++Q.drop (i+1):=by
  rw [← List.append_assoc]
  congr 1
  have:Q.take k=(Q.take i).take k:=by rw [List.take_take,Nat.min_eq_left hk]
  rw [this,List.take_append_drop]
 rw [h2] at h1
 refine h1.trans ?_
 have h3:Q=Q.take i++x::Q.drop (i+1):=by
  have hd:Q.drop i=x::Q.drop (i+1):=by rw [List.drop_eq_getElem_cons hi,(List.getElem?_eq_some_iff.mp hx).2]
  rw [← hd,List.take_append_drop]
 exact (List.perm_middle.symm).trans (by rw [← h3])
theorem gap_take (hx:Q[i]?=some x) (hk:k≤i):(gapL Q x i k).take (i+1)=Q.take k++x::(Q.take i).drop k:=by
 have hi:i<Q.length:=(List.getElem?_eq_some_iff.mp hx).1
 have:gapL Q x i k=(Q.take k++x::(Q.take i).drop k)++Q.drop (i+1):=by unfold gapL; simp
 rw [this,List.take_append_of_le_length (by simp only [List.length_append,List.length_cons,List.length_take,List.length_drop]; omega),List.take_of_length_le (by simp only [List.length_append,List.length_cons,List.length_take,List.length_drop]; omega)]
theorem gap_sorted (hx:Q[i]?=some x) (hk:k≤i) (hs:Srtd (Q.take i)) (hgt:∀ y,y∈(Q.take i).drop k→Rl.cmpL x.1 y.1<0) (htop:k=0∨∃ y,Q[k - 1]?=some y∧¬ Rl.cmpL x.1 y.1<0):Srtd ((gapL Q x i k).take (i+1)):=by
 have hi:i<Q.length:=(List.getElem?_eq_some_iff.mp hx).1
 rw [gap_take hx hk]
 have hsp:Q.take i=Q.take k++(Q.take i).drop k:=by
  have:Q.take k=(Q.take i).take k:=by rw [List.take_take,Nat.min_eq_left hk]
  rw [this,List.take_append_drop]
 unfold Srtd at hs ⊢
 rw [hsp,List.pairwise_append] at hs
 obtain ⟨h1,h2,h3⟩:=hs
 rw [List.pairwise_append]
 refine ⟨h1,List.pairwise_cons.mpr ⟨fun y hy=>?_,h2⟩,fun a ha b hb=>?_⟩
 · have:=hgt y hy
   have h9:=Rl.cmpL_flip x.1 y.1
   omega
 · rcases List.mem_cons.mp hb with rfl | hb
   · rcases htop with h0 | ⟨y,hy,hny⟩
     · rw [h0] at ha; simp at ha
     · have hk0:0<k:=by
        rcases Nat.eq_zero_or_pos k with h | h
        · rw [h] at ha; simp at ha
        · exact h
       have hyt:Q.take k=Q.take (k - 1)++[y]:=by
        conv=>lhs; rw [show k=(k - 1)+1 by omega,List.take_add_one,hy]
        rfl
       rw [hyt] at ha h1
       rcases List.mem_append.mp ha with ha | ha
       · have hay:¬ Rl.cmpL y.1 a.1<0:=(List.pairwise_append.mp h1).2.2 a ha y (by simp)
         intro hlt
         have h5:=Rl.cmpL_flip y.1 a.1
         have h6:=Rl.cmpL_flip b.1 y.1
         have h7:Rl.cmpL a.1 y.1≤0:=by omega
         by_cases h8:Rl.cmpL a.1 y.1=0
         · rw [Rl.cmpL_zero.mp h8] at hlt
           exact hny hlt
         · exact hny (Rl.cmpL_trans hlt (by omega))
       · rw [List.mem_singleton.mp ha]
         exact hny
   · exact h3 a ha b hb
end
end Ru
end Go.Proofs.YthenjegmigeieaaGreat
namespace Go.Proofs.YthenjegmigeieaaGreat
open Go.RowKit
def SetRow (w:World) (B:Nat) (facts:List Rl.Fc) (v:Value) (W:World):Prop:=∃ q:List Fv,q.map (·.1)=Rl.set facts∧W.ownsRow B 55 2 v q.length (q.map fcCells).flatten∧∀ p,p∈q→FvOk w p
theorem SetRow.below {w:World} {B:Nat} {facts:List Rl.Fc} {v:Value} {W W':World} (h:SetRow w B facts v W) (hb:Below W.heap.size W W'):SetRow w B facts v W':=by
 obtain ⟨q,h1,h2,h3⟩:=h
 exact ⟨q,h1,ownsRow_below h2 hb,h3⟩
theorem SetRow.keep {w:World} {B n0 FB:Nat} {facts:List Rl.Fc} {v:Value} {W W':World} (h:SetRow w B facts v W) (hne:∀ c,¬ W.heap[FB]?=some (.cells c 55)) (hk:Kp n0 FB W W'):SetRow w B facts v W':=by
 obtain ⟨q,h1,h2,h3⟩:=h
 exact ⟨q,h1,own_type h2 (fun k c hc=>hk.keep k c 55 hc (fun e=>hne c (by rw [← e]; exact hc)) (by decide)),h3⟩
theorem SetRow.toV {w:World} {B:Nat} {facts:List Rl.Fc} {v:Value} {W:World} (h:SetRow w B facts v W) (hb:Below w.heap.size w W):FactsV W v (Rl.set facts):=by
 obtain ⟨q,h1,h2,h3⟩:=h
 rw [← h1]
 exact own_factsV h2 h3 hb
theorem opW_store100 {o:Oper} {a:Act} {w:World} {K:Act→World→Prop} {Q:Exit→Act→World→Prop} (x u:Operand) (ho:o.op=.store 100 x u) (b:Nat) (hx:a.eval x=.pointer (some ⟨b,0,none⟩)) (old new:Array Value) (hu:a.eval u=.agg new) (hW:w.heap[b]?=some (.cells old 100)) (ho8:old.size=8) (hn8:new.size=8) (h1:new.all (·.oneCell')=true) (hk:K (a.put o.dst undef) (w.setRow b new)):o.wp Tryz.prog a w K Q:=by
 have hinfo:(Tryz.prog.info? 100).map (·.size)=some 8:=by kernel_rfl
 have hr:=run_storeVar_row (P:=Tryz.prog) w b 100 100 old new hW (by rw [hn8]; exact hinfo) (by rw [ho8,hn8]) h1
 unfold Oper.wp execOp
 simp only [ho,hx,hu,Instr.storeAt,Instr.sureAddr,Sem.run_bind,Sem.run_pure,Result.andThen_ok,hr]
 exact hk
theorem opW_call {o:Oper} {a:Act} {w:World} {f:FuncId} {args:Array Value} {K:Act→World→Prop} {Q:Exit→Act→World→Prop} (hr:(execOp a.eval o).run Tryz.prog w=.ok (.enter f args) w) (hc:Calls Tryz.prog f args w fun e w'=>∃ v,e=.returned v∧K (a.put o.dst v) w'):o.wp Tryz.prog a w K Q:=by
 unfold Oper.wp
 rw [hr,Oper.upon_enter]
 refine Calls.mono hc ?_
 rintro e w' ⟨v,rfl,h⟩
 exact h
theorem made3:∀ {m:Nat},m≤8→(madeCells (Value.int .i64 0).cells (m * 1)).toList=(Ru.wayV m).nums.map (Value.int .i64)
 | 0,_=>by kernel_rfl | 1,_=>by kernel_rfl | 2,_=>by kernel_rfl | 3,_=>by kernel_rfl | 4,_=>by kernel_rfl | 5,_=>by kernel_rfl | 6,_=>by kernel_rfl | 7,_=>by kernel_rfl | 8,_=>by kernel_rfl
 | n+9,h=>absurd h (by omega)
theorem made4:∀ {m:Nat},m≤8→(madeCells (Value.bool false).cells (m * 1)).toList=(Ru.wayV m).known.map Value.bool
 | 0,_=>by kernel_rfl | 1,_=>by kernel_rfl | 2,_=>by kernel_rfl | 3,_=>by kernel_rfl | 4,_=>by kernel_rfl | 5,_=>by kernel_rfl | 6,_=>by kernel_rfl | 7,_=>by kernel_rfl | 8,_=>by kernel_rfl
 | n+9,h=>absurd h (by omega)
namespace Ru
def refOk (facts:List Rl.Fc) (r:Sc.Rule):Bool:=decide ((refWays (Rl.set facts) r).length≤2000)
def refOut (facts:List Rl.Fc) (r:Sc.Rule):List (List Int):=if refOk facts r=true then srt (refWays (Rl.set facts) r) else []
theorem runO_full:∀ (L:List (List Int)) (sl:List (List Int)),sl.length≤2000→runO (sl,false) L=((sl++L).take 2000,decide (2000<(sl++L).length))
 | [],sl,h=>by
  show (sl,false)=_
  rw [List.append_nil,List.take_of_length_le h,decide_eq_false (by omega)]
 | x::L,sl,h=>by
  show runO (stepO (sl,false) x) L=_
  unfold stepO
  rw [if_neg (by simp)]
  by_cases h2:sl.length=2000
  · rw [if_pos h2,runO_many rfl,List.take_append_of_le_length (by omega),List.take_of_length_le (by omega),decide_eq_true (by rw [List.length_append,List.length_cons]; omega)]
  · rw [if_neg h2,runO_full L (sl++[x]) (by rw [List.length_append,List.length_singleton]; omega),List.append_assoc]
    rfl
end Ru
def wo1T (w:World) (B:Nat) (r:Sc.Rule) (vt vb VF:Value) (facts:List Rl.Fc) (tQ:Nat) (vQ:Value) (WQ:World):Prop :=
 if tQ=9 then vQ=.agg #[.int .i64 r.pred,vt,.int .i64 r.fold,vb,.int .i64 r.vars]
 else if tQ=10 then vQ=VF
 else if tQ=11 then SetRow w B facts vQ WQ
 else if tQ=12 then ∃ u,vQ=.agg #[.int .i64 r.pred,vt,.int .i64 r.fold,vb,.int .i64 r.vars,u,.slice none 0 0,.bool false]∧SetRow w B facts u WQ
 else ∃ FB,vQ=.pointer (some ⟨FB,0,none⟩)∧B≤FB∧WQ.heap[FB]?=some (.cells #[.int .i64 0,.slice none 0 0,.int .i64 0,.slice none 0 0,.int .i64 0,.slice none 0 0,.slice none 0 0,.bool false] 100)
theorem wo1T_mono (w:World) (B:Nat) (r:Sc.Rule) (vt vb VF:Value) (facts:List Rl.Fc) (tQ:Nat) (vQ:Value) (W W':World) (hb:Below W.heap.size W W') (h:wo1T w B r vt vb VF facts tQ vQ W):wo1T w B r vt vb VF facts tQ vQ W':=by
 unfold wo1T at h ⊢
 by_cases h1:tQ=9
 · rw [if_pos h1] at h ⊢; exact h
 · rw [if_neg h1] at h ⊢
   by_cases h2:tQ=10
   · rw [if_pos h2] at h ⊢; exact h
   · rw [if_neg h2] at h ⊢
     by_cases h3:tQ=11
     · rw [if_pos h3] at h ⊢; exact h.below hb
     · rw [if_neg h3] at h ⊢
       by_cases h4:tQ=12
       · rw [if_pos h4] at h ⊢
         obtain ⟨u,g1,g2⟩:=h
         exact ⟨u,g1,g2.below hb⟩
       · rw [if_neg h4] at h ⊢
         obtain ⟨FB,g1,g2,g3⟩:=h
         exact ⟨FB,g1,g2,(hb.block _ (heap_lt g3)).trans g3⟩
def wo2T (B m RB:Nat) (tQ:Nat) (vQ:Value) (WQ:World):Prop :=
 if tQ=13 then vQ=.pointer (some ⟨RB,4,none⟩)
 else if tQ=14 then vQ=.int .i64 (m:Nat)
 else if tQ=15 then WQ.ownsRow B 3 1 vQ m ((Ru.wayV m).nums.map (Value.int .i64))
 else if tQ=16 then vQ=.pointer (some ⟨RB,4,none⟩)
 else if tQ=17 then vQ=.int .i64 (m:Nat)
 else WQ.ownsRow B 4 1 vQ m ((Ru.wayV m).known.map Value.bool)
theorem wo2T_mono (B m RB:Nat) (tQ:Nat) (vQ:Value) (W W':World) (hb:Below W.heap.size W W') (h:wo2T B m RB tQ vQ W):wo2T B m RB tQ vQ W':=by
 unfold wo2T at h ⊢
 by_cases h1:tQ=13
 · rw [if_pos h1] at h ⊢; exact h
 · rw [if_neg h1] at h ⊢
   by_cases h2:tQ=14
   · rw [if_pos h2] at h ⊢; exact h
   · rw [if_neg h2] at h ⊢
     by_cases h3:tQ=15
     · rw [if_pos h3] at h ⊢; exact ownsRow_below h hb
     · rw [if_neg h3] at h ⊢
       by_cases h4:tQ=16
       · rw [if_pos h4] at h ⊢; exact h
       · rw [if_neg h4] at h ⊢
         by_cases h5:tQ=17
         · rw [if_pos h5] at h ⊢; exact h
         · rw [if_neg h5] at h ⊢; exact ownsRow_below h hb
theorem lessInts_q (x y:List Int) (v u:Value) (w:World) (hV:IntsV w v x) (hU:IntsV w u y) (hlen:x.length=y.length) (hl:x.length≤1000000):Calls Tryz.prog 61 #[v,u] w fun e w'=>e=.returned (.bool (Ru.lessI x y))∧∃ n,w'=w.drewN n:=by
 obtain ⟨ao,cap,rfl,hA⟩:=hV
 obtain ⟨bo,cbp,rfl,hB⟩:=hU
 have HA:Hid _:=hA
 have HB:Hid _:=hB
 have HLEN:Hid _:=hlen
 clear hA hB hlen
 go_enter Tryz.func61,Tryz.ntmps61
 go_wp2_with fail
 go_loopw [5] (fun iv wr=>∃ k:Nat,k≤x.length∧iv=.int .i64 k∧Hid (Ru.lessI x y=Ru.lessI (x.drop k) (y.drop k))∧Hid (∃ n,wr=w.drewN n)) (fun iv _=>x.length - (intOf iv).toNat)
 case atStart=>exact ⟨0,by omega,rfl,rfl,0,rfl⟩
 case round =>
  obtain ⟨k,hk,rfl,HR,HD⟩:=hrel
  have HBr:Hid (Below w.heap.size w wr):=by obtain ⟨n,rfl⟩:=HD.out; exact blw_drewN _ _
  by_cases hlt:k<x.length
  · have hlt2:k<y.length:=by have:=HLEN.out; omega
    obtain ⟨b',off',rfl,hck⟩:=ints_cell HA.out hlt
    obtain ⟨b2,off2,rfl,hck2⟩:=ints_cell HB.out hlt2
    have q1:=cell_below HBr.out hck
    have q2:=cell_below HBr.out hck2
    have HS:Hid _:=Ru.lessI_drop HLEN.out hlt
    clear hck hck2
    generalize Sc.intD x k=a at *
    generalize Sc.intD y k=c at *
    by_cases hac:a=c
    · have gx:(a != c)=false:=by simpa using hac
      have HR2:Hid (Ru.lessI x y=Ru.lessI (x.drop (k+1)) (y.drop (k+1))):=by show _=_; rw [HR.out,HS.out,if_pos hac]
      clear hac
      go_upto_region 4 with fail
      go_quiet (fail)
      go_wp2_with fail
      go_roundw
      case rel=>exact ⟨k+1,hlt,by go_num,HR2.out,by obtain ⟨n,rfl⟩:=HD.out; exact ⟨_,World.drewN_drewN _ _ _⟩⟩
      case measure=>simp [intOf]; omega
    · have gx:(a != c)=true:=by simpa using hac
      have HE:Hid (Ru.lessI x y=decide (a<c)):=by show _=_; rw [HR.out,HS.out,if_neg hac]
      clear hac
      go_upto_region 4 with fail
      go_quiet (fail)
      go_upto_region 5 with fail
      go_quiet (fail)
      go_wp2_with fail
      go_ret
      exact ⟨by rw [HE.out]; rfl,by obtain ⟨n,rfl⟩:=HD.out; exact ⟨_,by rw [World.drewN_drewN,World.drewN_drewN]⟩⟩
  · have hdd:decide (k<x.length)=false:=decide_eq_false hlt
    have HE:Hid (Ru.lessI x y=false):=by
     show _=_
     have:=HLEN.out
     rw [HR.out,List.drop_of_length_le (by omega)]
     unfold Ru.lessI
     rfl
    go_wp2_with fail
    go_ret
    exact ⟨by rw [HE.out]; rfl,HD.out⟩
def wo11W (i:Nat):Bool:=i==19
def wo11Tv (FB GB k:Nat) (VO XV YV:Value):Nat→Value
 | 48=>.pointer (some ⟨FB,6,none⟩)
 | 49=>VO
 | 50=>.int .i64 ((k:Int)+1)
 | 51=>.pointer (some ⟨FB,6,none⟩)
 | 52=>VO
 | 53=>.int .i64 ((k:Int)+1)
 | 54=>.int .i64 (k:Nat)
 | 55=>.pointer (some ⟨FB,6,none⟩)
 | 56=>VO
 | 57=>.int .i64 ((k:Int)+1)
 | 58=>.int .i64 (k:Nat)
 | 59=>.pointer (some ⟨GB,k,none⟩)
 | 60=>YV
 | 61=>.pointer (some ⟨FB,6,none⟩)
 | 62=>VO
 | 63=>.int .i64 ((k:Int)+1)
 | 64=>.pointer (some ⟨GB,k+1,none⟩)
 | 65=>XV
 | 66=>.pointer (some ⟨GB,k+1,none⟩)
 | 67=>.pointer (some ⟨GB,k,none⟩)
 | _=>.bool false
theorem WaysOf_any (facts:List Rl.Fc) (r:Sc.Rule) (vt vb vf:Value) (w:World) (hT:PTermsV w vt r.terms) (hB:PLitsV w vb r.body) (hF:FactsV w vf facts) (hFl:facts.length≤60) (hFF:∀ f,f∈facts→FFit f) (m:Nat) (hm:r.vars=m) (hm8:m≤8) (hb4:r.body.length≤4) (hFN:∀ f,f∈Rl.set facts→∀ n,n∈f.args→Sc.isNum n=true) (hLF:∀ l,l∈r.body→Ru.LitFine (Rl.set facts) m l) (hND:(Ru.refWays (Rl.set facts) r).Nodup) (hLEN:∀ x,x∈Ru.refWays (Rl.set facts) r→x.length=m) :
 Calls Tryz.prog 17 #[pruleVal r vt vb,vf] w fun e w'=>∃ v q,e=.returned (.tuple #[v,.bool (Ru.refOk facts r)])∧NumsP w.heap.size w' v q∧q.map (·.1)=Ru.refOut facts r∧Below w.heap.size w w':=by
 obtain ⟨at_,ct,rfl,_⟩:=id hT
 obtain ⟨ab,cb,rfl,_⟩:=id hB
 obtain ⟨af,cf,rfl,_⟩:=id hF
 have hb1:=new_below w (.cells #[.int .i64 r.pred,.slice at_ r.terms.length ct,.int .i64 r.fold,.slice ab r.body.length cb,.int .i64 r.vars] 40)
 have HRB:Hid _:=heap_alloc_new w (.cells #[.int .i64 r.pred,.slice at_ r.terms.length ct,.int .i64 r.fold,.slice ab r.body.length cb,.int .i64 r.vars] 40)
 have HB1:Hid _:=hb1
 have HFV:Hid (FactsV w (.slice af facts.length cf) facts):=hF
 have HFF:Hid _:=hFF
 have HM:Hid _:=hm
 have HFN:Hid _:=hFN
 have HLF:Hid _:=hLF
 have HND:Hid ((Ru.refWays (Rl.set facts) r).Nodup):=hND
 have HLEN:Hid _:=hLEN
 have HPB:Hid (PLitsV w (.slice ab r.body.length cb) r.body):=hB
 obtain ⟨p0,p1,p2,p3,p4⟩:=info_parts rl_info3
 obtain ⟨b0,b1,b2,b3,b4⟩:=info_parts ru_info4
 clear hT hB hF hFF hb1 hm hFN hLF hND hLEN
 go_enter Tryz.func17,Tryz.ntmps17
 go_upto_region 1 with fail
 generalize w.alloc (.cells #[.int .i64 r.pred,.slice at_ r.terms.length ct,.int .i64 r.fold,.slice ab r.body.length cb,.int .i64 r.vars] 40)=w1 at *
 generalize hRBn:w.heap.size=RB at *
 have c0:w1.cell? ⟨RB,0,none⟩=some (.int .i64 r.pred):=by rw [Lib.cell_of_heap HRB.out]; rfl
 have c1:w1.cell? ⟨RB,1,none⟩=some (.slice at_ r.terms.length ct):=by rw [Lib.cell_of_heap HRB.out]; rfl
 have c2:w1.cell? ⟨RB,2,none⟩=some (.int .i64 r.fold):=by rw [Lib.cell_of_heap HRB.out]; rfl
 have c3:w1.cell? ⟨RB,3,none⟩=some (.slice ab r.body.length cb):=by rw [Lib.cell_of_heap HRB.out]; rfl
 have c4:w1.cell? ⟨RB,4,none⟩=some (.int .i64 r.vars):=by rw [Lib.cell_of_heap HRB.out]; rfl
 rw [← hRBn] at HB1
 refine wp_region_tail (wo1T w w1.heap.size r (.slice at_ r.terms.length ct) (.slice ab r.body.length cb) (.slice af facts.length cf) facts) 5 (by decide) (by kernel_rfl) (by kernel_rfl) (by kernel_rfl) (wo1T_mono w w1.heap.size r (.slice at_ r.terms.length ct) (.slice ab r.body.length cb) (.slice af facts.length cf) facts) ?hopA ?htailA
 case hopA =>
  refine AllOps.cons (fun a y_ h=>?_) ?_
  · have e2:a.eval (.tmp 2)=(.pointer (some ⟨RB,0,none⟩):Value):=h.old 2 (by kernel_rfl)
    have x0:=cell_below h.below c0
    have x1:=cell_below h.below c1
    have x2:=cell_below h.below c2
    have x3:=cell_below h.below c3
    have x4:=cell_below h.below c4
    refine opOk_val (v:=.agg #[.int .i64 r.pred,.slice at_ r.terms.length ct,.int .i64 r.fold,.slice ab r.body.length cb,.int .i64 r.vars]) (w':=y_) (wanted_none rfl) ?_ (fun t ht=>by cases ht; exact rfl) (Below.refl _ _)
    have ec:=evc a
    generalize a.eval=ev at *
    clear h
    go_simp
  refine AllOps.cons (fun a y_ h=>?_) ?_
  · have e1:a.eval (.tmp 1)=(.slice af facts.length cf:Value):=h.old 1 (by kernel_rfl)
    refine opOk_val (v:=.slice af facts.length cf) (w':=y_) (wanted_none rfl) ?_ (fun t ht=>by cases ht; exact rfl) (Below.refl _ _)
    have ec:=evc a
    generalize a.eval=ev at *
    clear h
    go_simp
  refine AllOps.cons (fun a y_ h=>?_) ?_
  · have e10:a.eval (.tmp 10)=(.slice af facts.length cf:Value):=h.of 10 (by kernel_rfl)
    refine opOk_call (f:=35) (args:=#[.slice af facts.length cf]) (wanted_none rfl) ?_ ?_
    · have ec:=evc a
      have ef:=evf a
      generalize a.eval=ev at *
      clear h
      go_simp
    · refine Calls.mono (SetOf_low facts _ w y_ (HB1.out.trans (h.below.mono HB1.out.size)) HFV.out (by omega) HFF.out) ?_
      rintro _ y2 ⟨v',rfl,⟨q,h1,h2,h3⟩,hb2⟩
      refine ⟨_,rfl,fun t ht=>?_,hb2⟩
      cases ht
      exact ⟨q,h1,rl_own_le h2 h.below.size,h3⟩
  refine AllOps.cons (fun a y_ h=>?_) ?_
  · have e9:a.eval (.tmp 9)=(.agg #[.int .i64 r.pred,.slice at_ r.terms.length ct,.int .i64 r.fold,.slice ab r.body.length cb,.int .i64 r.vars]:Value):=h.of 9 (by kernel_rfl)
    have h11:SetRow w w1.heap.size facts (a.eval (.tmp 11)) y_:=h.of 11 (by kernel_rfl)
    obtain ⟨q,g1,g2,g3⟩:=h11
    obtain ⟨a9,c9,e11⟩:=own_slice g2
    rw [e11] at g2
    refine opOk_val (v:=.agg #[.int .i64 r.pred,.slice at_ r.terms.length ct,.int .i64 r.fold,.slice ab r.body.length cb,.int .i64 r.vars,.slice a9 q.length c9,.slice none 0 0,.bool false]) (w':=y_) (wanted_none rfl) ?_ (fun t ht=>by cases ht; exact ⟨_,rfl,q,g1,g2,g3⟩) (Below.refl _ _)
    have ec:=evc a
    generalize a.eval=ev at *
    clear h
    go_simp
  refine AllOps.cons (fun a y_ h=>?_) ?_
  · refine opOk_val (v:=.pointer (some ⟨y_.heap.size,0,none⟩)) (w':=y_.alloc (.cells #[.int .i64 0,.slice none 0 0,.int .i64 0,.slice none 0 0,.int .i64 0,.slice none 0 0,.slice none 0 0,.bool false] 100)) (wanted_none rfl) ?_ (fun t ht=>by cases ht; exact ⟨_,rfl,h.below.size,heap_alloc_new y_ _⟩) ((Below.refl _ _).alloc (Nat.le_refl _) _)
    have ec:=evc a
    generalize a.eval=ev at *
    clear h
    go_simp
  exact AllOps.nil
 case htailA =>
  rintro ⟨tm0,df⟩ y_ hI
  obtain ⟨u,e12,hsr⟩:∃ u,Act.eval ⟨tm0,df⟩ (.tmp 12)=.agg #[.int .i64 r.pred,.slice at_ r.terms.length ct,.int .i64 r.fold,.slice ab r.body.length cb,.int .i64 r.vars,u,.slice none 0 0,.bool false]∧SetRow w w1.heap.size facts u y_:=hI.all 3 _ 12 (by decide) rfl rfl
  obtain ⟨FB,e6,hFBl,hFBz⟩:∃ FB,Act.eval ⟨tm0,df⟩ (.tmp 6)=.pointer (some ⟨FB,0,none⟩)∧w1.heap.size≤FB∧y_.heap[FB]?=some (.cells #[.int .i64 0,.slice none 0 0,.int .i64 0,.slice none 0 0,.int .i64 0,.slice none 0 0,.slice none 0 0,.bool false] 100):=hI.all 4 _ 6 (by decide) rfl rfl
  obtain ⟨q,g1,g2,g3⟩:=hsr
  obtain ⟨a9,c9,rfl⟩:=own_slice g2
  have z0:∀ k:Nat,k<8→∃ v,y_.cell? ⟨FB,k,none⟩=some v:=fun k hk=>by
   rw [Lib.cell_of_heap hFBz]
   exact ⟨_,Array.getElem?_eq_getElem (by simpa using hk)⟩
  show wpOps Tryz.prog _ _ [5] _ _
  rw [wpOps_cons]
  refine wpOp_wp rfl (wanted_none rfl) (opW_store100 (.tmp 6) (.tmp 12) rfl FB e6 _ _ e12 hFBz rfl rfl (by simp [Value.oneCell']) ?_)
  have HFB:Hid ((y_.setRow FB #[.int .i64 r.pred,.slice at_ r.terms.length ct,.int .i64 r.fold,.slice ab r.body.length cb,.int .i64 r.vars,.slice a9 q.length c9,.slice none 0 0,.bool false]).heap[FB]?=some (.cells #[.int .i64 r.pred,.slice at_ r.terms.length ct,.int .i64 r.fold,.slice ab r.body.length cb,.int .i64 r.vars,.slice a9 q.length c9,.slice none 0 0,.bool false] 100)):=setRow_heap _ _ _ _ _ _ hFBz
  have hKS:Kp w.heap.size FB y_ (y_.setRow FB #[.int .i64 r.pred,.slice at_ r.terms.length ct,.int .i64 r.fold,.slice ab r.body.length cb,.int .i64 r.vars,.slice a9 q.length c9,.slice none 0 0,.bool false]):=⟨rfl,rfl,rfl,by simp [World.setRow],fun k hk=>setRow_other _ _ _ _ (by have:=HB1.out.size; omega),fun k c t hk hne _=>(setRow_other _ _ _ _ hne).trans hk⟩
  have HBF:Hid (Below w.heap.size w (y_.setRow FB #[.int .i64 r.pred,.slice at_ r.terms.length ct,.int .i64 r.fold,.slice ab r.body.length cb,.int .i64 r.vars,.slice a9 q.length c9,.slice none 0 0,.bool false])):=Kp.below hKS (HB1.out.trans (hI.below.mono HB1.out.size))
  have HSR:Hid (SetRow w w1.heap.size facts (.slice a9 q.length c9) (y_.setRow FB #[.int .i64 r.pred,.slice at_ r.terms.length ct,.int .i64 r.fold,.slice ab r.body.length cb,.int .i64 r.vars,.slice a9 q.length c9,.slice none 0 0,.bool false])):=SetRow.keep ⟨q,g1,g2,g3⟩ (fun c hc=>by rw [hFBz] at hc; injection hc with hc; injection hc with _ hc; cases hc) hKS
  have HRBF:Hid ((y_.setRow FB #[.int .i64 r.pred,.slice at_ r.terms.length ct,.int .i64 r.fold,.slice ab r.body.length cb,.int .i64 r.vars,.slice a9 q.length c9,.slice none 0 0,.bool false]).heap[RB]?=some (.cells #[.int .i64 r.pred,.slice at_ r.terms.length ct,.int .i64 r.fold,.slice ab r.body.length cb,.int .i64 r.vars] 40)):=(setRow_other _ _ _ _ (by have:=heap_lt HRB.out; omega)).trans ((hI.below.block _ (heap_lt HRB.out)).trans HRB.out)
  have HFBl:Hid (w1.heap.size≤FB):=hFBl
  have hsN:tm0.size=70:=hI.size
  have hst:∀ t,t∉[9,10,11,12,6]→tm0.getD t undef=_:=fun t ht=>hI.still t ht
  have h6:tm0.getD 6 undef=.pointer (some ⟨FB,0,none⟩):=e6
  have HQL:Hid (q.map (·.1)=Rl.set facts):=g1
  obtain rfl:df=[]:=hI.defers
  clear hI e12 e6 hFBz z0 g1 g2 g3 hKS hFBl c0 c1 c2 c3 c4
  show Exit.then _ _ Exit.normal ⟨tm0,[]⟩ (y_.setRow FB #[.int .i64 r.pred,.slice at_ r.terms.length ct,.int .i64 r.fold,.slice ab r.body.length cb,.int .i64 r.vars,.slice a9 q.length c9,.slice none 0 0,.bool false])
  generalize y_.setRow FB #[.int .i64 r.pred,.slice at_ r.terms.length ct,.int .i64 r.fold,.slice ab r.body.length cb,.int .i64 r.vars,.slice a9 q.length c9,.slice none 0 0,.bool false]=wF at *
  have hF8:=tmps_fold [9,10,11,12,6] tm0 _ (hsN.trans (by rfl)) hst
  clear hsN hst
  simp only [List.foldl_cons,List.foldl_nil,h6] at hF8
  clear h6
  generalize tm0.getD 9 undef=x9 at hF8
  generalize tm0.getD 10 undef=x10 at hF8
  generalize tm0.getD 11 undef=x11 at hF8
  generalize tm0.getD 12 undef=x12 at hF8
  simp only [List.setIfInBounds_toArray,List.set_cons_zero,List.set_cons_succ] at hF8
  subst hF8
  have r4:wF.cell? ⟨RB,4,none⟩=some (.int .i64 r.vars):=by rw [Lib.cell_of_heap HRBF.out]; rfl
  go_upto_region 2 with fail
  refine wp_region_tail (wo2T wF.heap.size m RB) 6 (by decide) (by kernel_rfl) (by kernel_rfl) (by kernel_rfl) (wo2T_mono wF.heap.size m RB) ?hopB ?htailB
  case hopB =>
   refine AllOps.cons (fun a y_ h=>?_) ?_
   · have e2:a.eval (.tmp 2)=(.pointer (some ⟨RB,0,none⟩):Value):=h.old 2 (by kernel_rfl)
     refine opOk_val (v:=.pointer (some ⟨RB,4,none⟩)) (w':=y_) (wanted_none rfl) ?_ (fun t ht=>by cases ht; exact rfl) (Below.refl _ _)
     have ec:=evc a
     generalize a.eval=ev at *
     clear h
     go_simp
   refine AllOps.cons (fun a y_ h=>?_) ?_
   · have e13:a.eval (.tmp 13)=(.pointer (some ⟨RB,4,none⟩):Value):=h.of 13 (by kernel_rfl)
     have x4:=cell_below h.below r4
     rw [HM.out] at x4
     refine opOk_val (v:=.int .i64 (m:Nat)) (w':=y_) (wanted_none rfl) ?_ (fun t ht=>by cases ht; exact rfl) (Below.refl _ _)
     have ec:=evc a
     generalize a.eval=ev at *
     clear h
     go_simp
   refine AllOps.cons (fun a y_ h=>?_) ?_
   · have e14:a.eval (.tmp 14)=(.int .i64 (m:Nat):Value):=h.of 14 (by kernel_rfl)
     obtain ⟨w',hr,ho,hg⟩:=run_makeSlice_full (P:=Tryz.prog) y_ wF.heap.size 22 3 p0 _ 1 Tryz.underlying22 p1 p2 p3 .i64 .i64 m (by omega) (by rw [p4]; omega) (by unfold maxLen; omega) h.below.size
     rw [made3 hm8] at ho
     refine opOk_val (v:=.slice (some ⟨y_.heap.size,0,none⟩) m m) (w':=w') (wanted_none rfl) ?_ (fun t ht=>by cases ht; exact ho) ⟨hg.os,hg.tape,hg.output,hg.size,fun k hk=>hg.block k hk (by simp)⟩
     unfold execOp
     simp only [e14]
     rw [Sem.run_bind,hr]
     rfl
   refine AllOps.cons (fun a y_ h=>?_) ?_
   · have e2:a.eval (.tmp 2)=(.pointer (some ⟨RB,0,none⟩):Value):=h.old 2 (by kernel_rfl)
     refine opOk_val (v:=.pointer (some ⟨RB,4,none⟩)) (w':=y_) (wanted_none rfl) ?_ (fun t ht=>by cases ht; exact rfl) (Below.refl _ _)
     have ec:=evc a
     generalize a.eval=ev at *
     clear h
     go_simp
   refine AllOps.cons (fun a y_ h=>?_) ?_
   · have e16:a.eval (.tmp 16)=(.pointer (some ⟨RB,4,none⟩):Value):=h.of 16 (by kernel_rfl)
     have x4:=cell_below h.below r4
     rw [HM.out] at x4
     refine opOk_val (v:=.int .i64 (m:Nat)) (w':=y_) (wanted_none rfl) ?_ (fun t ht=>by cases ht; exact rfl) (Below.refl _ _)
     have ec:=evc a
     generalize a.eval=ev at *
     clear h
     go_simp
   refine AllOps.cons (fun a y_ h=>?_) ?_
   · have e17:a.eval (.tmp 17)=(.int .i64 (m:Nat):Value):=h.of 17 (by kernel_rfl)
     obtain ⟨w',hr,ho,hg⟩:=run_makeSlice_full (P:=Tryz.prog) y_ wF.heap.size 57 4 b0 _ 1 Tryz.underlying57 b1 b2 b3 .i64 .i64 m (by omega) (by rw [b4]; omega) (by unfold maxLen; omega) h.below.size
     rw [made4 hm8] at ho
     refine opOk_val (v:=.slice (some ⟨y_.heap.size,0,none⟩) m m) (w':=w') (wanted_none rfl) ?_ (fun t ht=>by cases ht; exact ho) ⟨hg.os,hg.tape,hg.output,hg.size,fun k hk=>hg.block k hk (by simp)⟩
     unfold execOp
     simp only [e17]
     rw [Sem.run_bind,hr]
     rfl
   exact AllOps.nil
  case htailB =>
   rintro ⟨tm1,df⟩ y_ hI
   have o15:y_.ownsRow wF.heap.size 3 1 (Act.eval ⟨tm1,df⟩ (.tmp 15)) m ((Ru.wayV m).nums.map (Value.int .i64)):=hI.all 2 _ 15 (by decide) rfl rfl
   have o18:y_.ownsRow wF.heap.size 4 1 (Act.eval ⟨tm1,df⟩ (.tmp 18)) m ((Ru.wayV m).known.map Value.bool):=hI.all 5 _ 18 (by decide) rfl rfl
   obtain ⟨an,cn,e15⟩:=own_slice o15
   obtain ⟨as_,cs,e18⟩:=own_slice o18
   rw [e15] at o15
   rw [e18] at o18
   have e6:Act.eval ⟨tm1,df⟩ (.tmp 6)=.pointer (some ⟨FB,0,none⟩):=hI.still 6 (by decide)
   have hFBF:FB<wF.heap.size:=heap_lt HFB.out
   have hIn:FromIn w wF m FB (.slice ab r.body.length cb) (.slice a9 q.length c9) r (Rl.set facts):=⟨Nat.le_trans HB1.out.size HFBl.out,HPB.out,fun z hz=>(HSR.out.keep (fun c hc=>by rw [HFB.out] at hc; injection hc with hc; injection hc with _ hc; cases hc) hz).toV (Kp.below hz HBF.out),HBF.out,Nat.le_trans (set_length facts) (by omega),fun f hf=>HFF.out f (Rl.mem_set.mp hf),HFN.out,HLF.out,hb4,hm8⟩
   have hfr:=From_any w wF m FB (.slice at_ r.terms.length ct) (.slice ab r.body.length cb) (.slice a9 q.length c9) r (Rl.set facts) hIn (r.body.length+1) 0 (Ru.wayV m) ([],false) [] (.slice none 0 0) wF.heap.size (.slice an m cn) (.slice as_ m cs) y_ (Kp.of_below hI.below HBF.out.size) (FindI.below ⟨rfl,HFB.out,World.ownsRow_nil _ _ _ _,fun _ hp=>absurd hp (by simp)⟩ hI.below) hFBF ⟨o15,o18,Ru.wayV_wf m,fun n hn=>by rw [List.eq_of_mem_replicate hn]; decide⟩ (Nat.zero_le _) (by omega) (by simp)
   have HRF:Hid (Ru.fromN (Rl.set facts) r.body (r.body.length+1) 0 (Ru.wayV m)=Ru.refWays (Rl.set facts) r):=by
    show _=Ru.fromN _ _ _ _ (Ru.wayV r.vars.toNat)
    rw [HM.out,Int.toNat_natCast]
   rw [HRF.out,Ru.runO_full _ _ (by simp),List.nil_append] at hfr
   have HFR:Hid _:=hfr
   have hsN:tm1.size=70:=hI.size
   show wpOps Tryz.prog _ _ [6] _ _
   rw [wpOps_cons]
   refine wpOp_wp rfl (wanted_none rfl) (opW_call (f:=60) (args:=#[.pointer (some ⟨FB,0,none⟩),.int .i64 0,.slice an m cn,.slice as_ m cs]) ?_ (Calls.mono HFR.out ?_))
   · have ec:=evc ⟨tm1,df⟩
     have ef:=evf ⟨tm1,df⟩
     clear hfr
     generalize Act.eval ⟨tm1,df⟩=ev at *
     clear hI
     go_simp
   rintro _ w5 ⟨rfl,⟨q5,vo5,hFI5⟩,hK5⟩
   have HFI5:Hid _:=hFI5
   have HB5:Hid (Below w.heap.size w w5):=Kp.below hK5 (HBF.out.trans (hI.below.mono HBF.out.size))
   have hst:∀ t,t∉[13,14,15,16,17,18,19]→(tm1.setIfInBounds 19 (.tuple #[])).getD t undef=_:=fun t ht=>by
    have hA:t≠19:=fun e=>ht (by rw [e]; decide)
    exact (put_get_ne (a:=⟨tm1,df⟩) hA).trans (hI.still t ht)
   have hs3:(tm1.setIfInBounds 19 (.tuple #[])).size=70:=by simp [hsN]
   obtain rfl:df=[]:=hI.defers
   refine ⟨_,rfl,?_⟩
   clear hI o15 o18 e15 e18 e6 hIn hfr hFI5 hK5 r4 HFR hsN
   show Exit.then _ _ Exit.normal ⟨tm1.setIfInBounds 19 (.tuple #[]),[]⟩ w5
   generalize tm1.setIfInBounds 19 (.tuple #[])=tm at *
   have hF8:=tmps_fold [13,14,15,16,17,18,19] tm _ (hs3.trans (by rfl)) hst
   clear hs3 hst
   simp only [List.foldl_cons,List.foldl_nil] at hF8
   generalize tm.getD 13 undef=x13 at hF8
   generalize tm.getD 14 undef=x14 at hF8
   generalize tm.getD 15 undef=x15 at hF8
   generalize tm.getD 16 undef=x16 at hF8
   generalize tm.getD 17 undef=x17 at hF8
   generalize tm.getD 18 undef=x18 at hF8
   generalize tm.getD 19 undef=x19 at hF8
   simp only [List.setIfInBounds_toArray,List.set_cons_zero,List.set_cons_succ] at hF8
   subst hF8
   obtain ⟨LW,HLW⟩:∃ LW,Hid (Ru.refWays (Rl.set facts) r=LW):=⟨_,rfl⟩
   rw [HLW.out] at HFI5
   have f7:w5.cell? ⟨FB,7,none⟩=some (.bool (decide (2000<LW.length))):=by rw [Lib.cell_of_heap HFI5.out.b]; rfl
   by_cases hbig:2000<LW.length
   · rw [decide_eq_true hbig] at f7
     have HBIG:Hid _:=hbig
     clear hbig
     go_wp2_with fail
     refine bodyPost_ret (results_tmp2 rfl _ _ _) rfl ?_
     have HOK:Hid (Ru.refOk facts r=false):=by show _=_; unfold Ru.refOk; rw [HLW.out]; exact decide_eq_false (by have:=HBIG.out; omega)
     have HOU:Hid (Ru.refOut facts r=[]):=by show _=_; unfold Ru.refOut; rw [HOK.out]; rfl
     exact ⟨_,[],by rw [HOK.out]; rfl,⟨World.ownsRow_nil _ _ _ _,fun p hp=>absurd hp (by simp)⟩,by rw [HOU.out]; rfl,HB5.out⟩
   · rw [decide_eq_false hbig] at f7
     have HQ5:Hid (q5.map (·.1)=LW):=by
      show _=_
      have h9:q5.map (·.1)=LW.take 2000:=HFI5.out.hq
      rw [h9,List.take_of_length_le (by omega)]
     have HOK:Hid (Ru.refOk facts r=true):=by show _=_; unfold Ru.refOk; rw [HLW.out]; exact decide_eq_true (by omega)
     have HOU:Hid (Ru.refOut facts r=Ru.srt LW):=by show _=_; unfold Ru.refOut; rw [HOK.out,HLW.out]; rfl
     have HNL:Hid LW.Nodup:=by show LW.Nodup; rw [← HLW.out]; exact HND.out
     have HWL:Hid (∀ p,p∈q5→p.1.length=m):=fun p hp=>HLEN.out p.1 (by rw [HLW.out,← HQ5.out]; exact List.mem_map_of_mem hp)
     obtain ⟨ao,co,hvo⟩:=own_slice HFI5.out.o
     subst hvo
     have hn2:q5.length≤2000:=by have:q5.length=LW.length:=(by rw [← HQ5.out,List.length_map]); omega
     have HFI6:Hid (FindI FB (.slice at_ r.terms.length ct) (.slice ab r.body.length cb) (.slice a9 q.length c9) r (q5.map (·.1),false) q5 (.slice ao q5.length co) w5):=⟨rfl,by have h9:=HFI5.out.b; unfold FindB at h9 ⊢; rw [h9,decide_eq_false hbig],HFI5.out.o,HFI5.out.hr⟩
     have HFW:Hid (w.heap.size≤FB):=Nat.le_trans HB1.out.size HFBl.out
     clear hbig HFI5
     generalize hnn:q5.length=nn at *
     have HNN:Hid _:=hnn
     clear hnn
     go_wp2_with fail
     go_loopw [7] (fun iv wr=>∃ (i:Nat) (qc:List Nv),1≤i∧i≤nn+1∧iv=.int .i64 i∧Hid (qc.Perm q5)∧Hid (FindI FB (.slice at_ r.terms.length ct) (.slice ab r.body.length cb) (.slice a9 q.length c9) r (qc.map (·.1),false) qc (.slice ao nn co) wr)∧Hid (Ru.Srtd (qc.take i))∧Hid (Below w.heap.size w wr)) (fun iv _=>nn+1 - (intOf iv).toNat)
     case atStart=>exact ⟨1,q5,Nat.le_refl _,by omega,rfl,List.Perm.refl _,HFI6.out,by
      show Ru.Srtd _
      unfold Ru.Srtd
      cases q5 with
      | nil=>exact List.Pairwise.nil
      | cons a l=>exact List.pairwise_singleton _ _,HB5.out⟩
     case round =>
      obtain ⟨i,qc,hi1,hin,rfl,HPE,HFC,HSO,HBC⟩:=hrel
      have HQL2:Hid (qc.length=nn):=by show _=_; rw [HPE.out.length_eq,HNN.out]
      have f6o:wr.cell? ⟨FB,6,none⟩=some (.slice ao nn co):=by rw [Lib.cell_of_heap HFC.out.b]; rfl
      by_cases hlt:i<nn
      · have gil:decide (i<nn)=true:=decide_eq_true hlt
        obtain ⟨x,hx⟩:∃ x,qc[i]?=some x:=⟨_,List.getElem?_eq_getElem (by have:=HQL2.out; omega)⟩
        have HX:Hid _:=hx
        have hxm:x∈qc:=List.mem_of_getElem? hx
        have HXM:Hid _:=hxm
        have hrow:=HFC.out.o
        obtain ⟨GB,co2,hv⟩:∃ g c,(Value.slice ao nn co)=.slice (some ⟨g,0,none⟩) nn c:=by
         rcases ownsRow_forms9 (show wr.ownsRow (FB+1) 22 1 (.slice ao nn co) nn (qc.map (·.2)) from by have h9:=hrow; rw [HQL2.out] at h9; exact h9) with ⟨_,h0⟩ | ⟨g,c,h⟩
         · omega
         · exact ⟨g,c,h⟩
        injection hv with e1 _ e3
        subst e1 e3
        have HGW:Hid (w.heap.size≤GB):=by have:=(hrow.lt GB rfl).1; have:=HFW.out; show _≤_; omega
        have HFG:Hid (¬ FB=GB):=by have:=(hrow.lt GB rfl).1; show ¬ _; omega
        clear hx hxm hrow
        go_wp2_with fail
        go_loopw [8] (fun kv wr=>∃ k:Nat,k≤i∧kv=.int .i64 k∧Hid (FindI FB (.slice at_ r.terms.length ct) (.slice ab r.body.length cb) (.slice a9 q.length c9) r ((Ru.gapL qc x i k).map (·.1),false) (Ru.gapL qc x i k) (.slice (some ⟨GB,0,none⟩) nn co) wr)∧Hid (∀ y,y∈(qc.take i).drop k→Rl.cmpL x.1 y.1<0)∧Hid (Below w.heap.size w wr)) (fun kv _=>(intOf kv).toNat)
        case atStart=>exact ⟨i,Nat.le_refl _,rfl,by show FindI _ _ _ _ _ _ _ _ _; rw [Ru.gap_start HX.out]; exact HFC.out,(fun y hy=>by rw [List.drop_of_length_le (by rw [List.length_take]; omega)] at hy; cases hy),HBC.out⟩
        case round =>
         clear f6o
         obtain ⟨wk,hwk⟩:∃ wk,wk=wr:=⟨_,rfl⟩
         subst hwk
         obtain ⟨k0,hki,rfl,HFK,HGT,HBK⟩:=hrel
         have f6:wk.cell? ⟨FB,6,none⟩=some (.slice (some ⟨GB,0,none⟩) nn co):=by rw [Lib.cell_of_heap HFK.out.b]; rfl
         cases k0 with
         | zero =>
          have HS2:Hid (Ru.Srtd ((Ru.gapL qc x i 0).take (i+1))):=Ru.gap_sorted HX.out (Nat.zero_le _) HSO.out HGT.out (.inl rfl)
          have HP2:Hid ((Ru.gapL qc x i 0).Perm q5):=(Ru.gap_perm HX.out (Nat.zero_le _)).trans HPE.out
          go_upto_region 9 with fail
          go_quiet (fail)
          go_wp2_with fail
          go_roundw
          case rel=>exact ⟨i+1,_,by omega,by omega,by go_num,HP2.out,HFK.out.below (blw_drewN _ _),HS2.out,HBK.out.trans ((blw_drewN _ _).mono HBK.out.size)⟩
          case measure=>simp [intOf]; omega
         | succ k =>
          obtain ⟨yv,hy⟩:∃ yv,qc[k]?=some yv:=⟨_,List.getElem?_eq_getElem (by have:=HQL2.out; omega)⟩
          have HY:Hid _:=hy
          have hym:yv∈qc:=List.mem_of_getElem? hy
          have HRL:Hid ((Ru.gapL qc x i (k+1)).length=nn):=by show _=_; rw [Ru.gap_length HX.out hki,HQL2.out]
          have hro:=HFK.out.o
          rw [HRL.out] at hro
          have ck:wk.cell? ⟨GB,k+1,none⟩=some x.2:=by
           rw [World.ownsRow.cellAt hro (k+1) (by omega),List.getElem?_map,Ru.gap_at HX.out hki]
           rfl
          have ck0:wk.cell? ⟨GB,k,none⟩=some yv.2:=by
           rw [World.ownsRow.cellAt hro k (by omega),List.getElem?_map,Ru.gap_pred HX.out hki,HY.out]
           rfl
          have HGP0:Hid (∀ p,p∈qc→p∈Ru.gapL qc x i (k+1)):=fun p hp=>(Ru.gap_perm HX.out hki).mem_iff.mpr hp
          have hox:=HFK.out.hr x (HGP0.out _ HXM.out)
          have hoy:=HFK.out.hr yv (HGP0.out _ hym)
          have hlx:x.1.length=m:=HWL.out x (HPE.out.mem_iff.mp HXM.out)
          have hly:yv.1.length=m:=HWL.out yv (HPE.out.mem_iff.mp hym)
          have HQ9:Hid (∀ j,Calls Tryz.prog 61 #[x.2,yv.2] (wk.drewN j) fun e w'=>e=.returned (.bool (Ru.lessI x.1 yv.1))∧∃ n,w'=(wk.drewN j).drewN n):=fun j=>lessInts_q _ _ _ _ _ (intsV_below (own_ints hox) (blw_drewN _ _)) (intsV_below (own_ints hoy) (blw_drewN _ _)) (by omega) (by omega)
          have HLC:Hid _:=Ru.lessI_cmp (x:=x.1) (y:=yv.1) (by omega)
          have HXV:Hid (∃ a c,x.2=.slice a m c):=by obtain ⟨a,c,h⟩:=own_slice hox; exact ⟨a,c,by rw [h,hlx]⟩
          have HYV:Hid (∃ a c,yv.2=.slice a m c):=by obtain ⟨a,c,h⟩:=own_slice hoy; exact ⟨a,c,by rw [h,hly]⟩
          clear hy hym hro hox hoy hlx hly
          cases hle:Ru.lessI x.1 yv.1
          · rw [hle] at HQ9 HLC
            have HNT:Hid (¬ Rl.cmpL x.1 yv.1<0):=of_decide_eq_false HLC.out.symm
            have HS2:Hid (Ru.Srtd ((Ru.gapL qc x i (k+1)).take (i+1))):=Ru.gap_sorted HX.out hki HSO.out HGT.out (.inr ⟨yv,by rw [Nat.add_sub_cancel]; exact HY.out,HNT.out⟩)
            have HP2:Hid ((Ru.gapL qc x i (k+1)).Perm q5):=(Ru.gap_perm HX.out hki).trans HPE.out
            obtain ⟨ax,cx,hxv⟩:=HXV.out
            obtain ⟨ay,cy,hyv⟩:=HYV.out
            rw [hxv] at ck
            rw [hyv] at ck0
            rw [hxv,hyv] at HQ9
            clear hle
            go_upto_region 9 with fail
            go_quiet (first | (go_at_call 61; exact Calls.quiet_of (HQ9.out _)))
            go_wp2_with fail
            go_roundw
            case rel=>exact ⟨i+1,_,by omega,by omega,by go_num,HP2.out,HFK.out.below (blw_drewN _ _),HS2.out,HBK.out.trans ((blw_drewN _ _).mono HBK.out.size)⟩
            case measure=>simp [intOf]; omega
          · rw [hle] at HQ9 HLC
            have HLT:Hid (Rl.cmpL x.1 yv.1<0):=by
             have h9:=HLC.out
             show Rl.cmpL x.1 yv.1<0
             exact of_decide_eq_true h9.symm
            have HGT2:Hid (∀ y,y∈(qc.take i).drop k→Rl.cmpL x.1 y.1<0):=by
             intro y hy
             obtain ⟨hkq,hyk⟩:=List.getElem?_eq_some_iff.mp HY.out
             have hkl:k<(qc.take i).length:=by rw [List.length_take]; omega
             rw [List.drop_eq_getElem_cons hkl] at hy
             rcases List.mem_cons.mp hy with h | h
             · rw [h,List.getElem_take,hyk]; exact HLT.out
             · exact HGT.out y h
            have HGL:Hid ((Ru.gapL qc x i k).length=nn):=by show _=_; rw [Ru.gap_length HX.out (by omega),HQL2.out]
            have HGP:Hid ((Ru.gapL qc x i k).Perm (Ru.gapL qc x i (k+1))):=(Ru.gap_perm HX.out (by omega)).trans (Ru.gap_perm HX.out hki).symm
            obtain ⟨ax,cx,hxv⟩:=HXV.out
            obtain ⟨ay,cy,hyv⟩:=HYV.out
            have HGS:Hid ((((Ru.gapL qc x i (k+1)).map (·.2)).set (k+1) (Value.slice ay m cy)).set k (Value.slice ax m cx)=(Ru.gapL qc x i k).map (·.2)):=by
             show _=_
             rw [← Ru.gap_swap HX.out hki HY.out,List.map_set,List.map_set]
             show _=((_:List Value).set (k+1) yv.2).set k x.2
             rw [hxv,hyv]
            rw [hxv] at ck
            rw [hyv] at ck0
            rw [hxv,hyv] at HQ9
            clear hle hxv hyv HXV HYV
            go_upto_region 9 with fail
            go_quiet (first | (go_at_call 61; exact Calls.quiet_of (HQ9.out _)))
            have hdr:=blw_drewN wk nq
            replace HFK:=show Hid (FindI FB (.slice at_ r.terms.length ct) (.slice ab r.body.length cb) (.slice a9 q.length c9) r ((Ru.gapL qc x i (k+1)).map (·.1),false) (Ru.gapL qc x i (k+1)) (.slice (some ⟨GB,0,none⟩) nn co) (wk.drewN nq)) from HFK.out.below hdr
            replace HBK:=show Hid (Below w.heap.size w (wk.drewN nq)) from HBK.out.trans (hdr.mono HBK.out.size)
            replace f6:=cell_below hdr f6
            replace ck:=cell_below hdr ck
            replace ck0:=cell_below hdr ck0
            clear hdr HQ9
            generalize wk.drewN nq=w0k at *
            generalize Ru.gapL qc x i (k+1)=R at *
            have HRO:Hid (w0k.ownsRow (FB+1) 22 1 (.slice (some ⟨GB,0,none⟩) nn co) nn (R.map (·.2))):=by
             have h9:=HFK.out.o
             rw [HRL.out] at h9
             exact h9
            generalize hXVe:Value.slice ax m cx=XV at *
            generalize hYVe:Value.slice ay m cy=YV at *
            have HXV:Hid (∃ a c,XV=Value.slice a m c):=⟨ax,cx,hXVe.symm⟩
            have HYV:Hid (∃ a c,YV=Value.slice a m c):=⟨ay,cy,hYVe.symm⟩
            clear hXVe hYVe
            obtain ⟨cG,hoG⟩:=(own_at HRO.out).2
            have HGB0:Hid (w0k.heap[GB]?=some (.cells cG 22)):=hoG
            obtain ⟨oN,hoN⟩:∃ o,(w0k.setCell ⟨GB,k+1,none⟩ YV).heap[GB]?=some o:=⟨_,Lib.heap_setCell_same hoG _⟩
            have HON:Hid ((w0k.setCell ⟨GB,k+1,none⟩ YV).heap[GB]?=some oN):=hoN
            clear hoG hoN
            go_upto_region 11 with fail
            refine wp_region_write (NbR GB) (fun _ _ _ h k=>h.trans k) (fun _ _ h=>NbR.of_below h) (fun tQ vQ _=>vQ=wo11Tv FB GB k (.slice (some ⟨GB,0,none⟩) nn co) XV YV tQ) (fun _ wQ=>wQ.heap[GB]?=some oN) 21 wo11W (fun _ _=>true) (by decide) (by kernel_rfl) (by kernel_rfl) (by kernel_rfl) (fun _ _ _ _ _ h=>h) (fun _ _ _ hb h=>(hb.block _ (heap_lt h)).trans h) (fun _ _ _ _ _ _ _ _ h=>h) ?hopC ?htailC
            case hopC =>
             refine AllOpsI.cons (fun a y_ h hO=>?_) ?_
             · rw [if_neg (by decide)]
               have e6:a.eval (.tmp 6)=(.pointer (some ⟨FB,0,none⟩):Value):=h.old 6 (by kernel_rfl)
               refine opOk_val (v:=.pointer (some ⟨FB,6,none⟩)) (w':=y_) (wanted_none rfl) ?_ (fun t ht=>by cases ht; exact rfl) (Below.refl _ _)
               have ec:=evc a
               generalize a.eval=ev at *
               clear h hO
               go_simp
             refine AllOpsI.cons (fun a y_ h hO=>?_) ?_
             · rw [if_neg (by decide)]
               have e48:a.eval (.tmp 48)=(.pointer (some ⟨FB,6,none⟩):Value):=h.of 48 (by kernel_rfl)
               have c0:=h.below.cell f6 HFG.out
               refine opOk_val (v:=.slice (some ⟨GB,0,none⟩) nn co) (w':=y_) (wanted_none rfl) ?_ (fun t ht=>by cases ht; exact rfl) (Below.refl _ _)
               have ec:=evc a
               generalize a.eval=ev at *
               clear h hO
               go_simp
             refine AllOpsI.cons (fun a y_ h hO=>?_) ?_
             · rw [if_neg (by decide)]
               have e8:a.eval (.tmp 8)=(.int .i64 ((k:Int)+1):Value):=h.old 8 (by kernel_rfl)
               refine opOk_val (v:=.int .i64 ((k:Int)+1)) (w':=y_) (wanted_none rfl) ?_ (fun t ht=>by cases ht; exact rfl) (Below.refl _ _)
               have ec:=evc a
               generalize a.eval=ev at *
               clear h hO
               go_simp
             refine AllOpsI.cons (fun a y_ h hO=>?_) ?_
             · rw [if_neg (by decide)]
               have e6:a.eval (.tmp 6)=(.pointer (some ⟨FB,0,none⟩):Value):=h.old 6 (by kernel_rfl)
               refine opOk_val (v:=.pointer (some ⟨FB,6,none⟩)) (w':=y_) (wanted_none rfl) ?_ (fun t ht=>by cases ht; exact rfl) (Below.refl _ _)
               have ec:=evc a
               generalize a.eval=ev at *
               clear h hO
               go_simp
             refine AllOpsI.cons (fun a y_ h hO=>?_) ?_
             · rw [if_neg (by decide)]
               have e51:a.eval (.tmp 51)=(.pointer (some ⟨FB,6,none⟩):Value):=h.of 51 (by kernel_rfl)
               have c0:=h.below.cell f6 HFG.out
               refine opOk_val (v:=.slice (some ⟨GB,0,none⟩) nn co) (w':=y_) (wanted_none rfl) ?_ (fun t ht=>by cases ht; exact rfl) (Below.refl _ _)
               have ec:=evc a
               generalize a.eval=ev at *
               clear h hO
               go_simp
             refine AllOpsI.cons (fun a y_ h hO=>?_) ?_
             · rw [if_neg (by decide)]
               have e8:a.eval (.tmp 8)=(.int .i64 ((k:Int)+1):Value):=h.old 8 (by kernel_rfl)
               refine opOk_val (v:=.int .i64 ((k:Int)+1)) (w':=y_) (wanted_none rfl) ?_ (fun t ht=>by cases ht; exact rfl) (Below.refl _ _)
               have ec:=evc a
               generalize a.eval=ev at *
               clear h hO
               go_simp
             refine AllOpsI.cons (fun a y_ h hO=>?_) ?_
             · rw [if_neg (by decide)]
               have e53:a.eval (.tmp 53)=(.int .i64 ((k:Int)+1):Value):=h.of 53 (by kernel_rfl)
               refine opOk_val (v:=.int .i64 (k:Nat)) (w':=y_) (wanted_none rfl) ?_ (fun t ht=>by cases ht; exact rfl) (Below.refl _ _)
               have ec:=evc a
               generalize a.eval=ev at *
               clear h hO
               go_simp
               simp [IntKind.wrap,IntKind.bits,IntKind.signed]
               omega
             refine AllOpsI.cons (fun a y_ h hO=>?_) ?_
             · rw [if_neg (by decide)]
               have e6:a.eval (.tmp 6)=(.pointer (some ⟨FB,0,none⟩):Value):=h.old 6 (by kernel_rfl)
               refine opOk_val (v:=.pointer (some ⟨FB,6,none⟩)) (w':=y_) (wanted_none rfl) ?_ (fun t ht=>by cases ht; exact rfl) (Below.refl _ _)
               have ec:=evc a
               generalize a.eval=ev at *
               clear h hO
               go_simp
             refine AllOpsI.cons (fun a y_ h hO=>?_) ?_
             · rw [if_neg (by decide)]
               have e55:a.eval (.tmp 55)=(.pointer (some ⟨FB,6,none⟩):Value):=h.of 55 (by kernel_rfl)
               have c0:=h.below.cell f6 HFG.out
               refine opOk_val (v:=.slice (some ⟨GB,0,none⟩) nn co) (w':=y_) (wanted_none rfl) ?_ (fun t ht=>by cases ht; exact rfl) (Below.refl _ _)
               have ec:=evc a
               generalize a.eval=ev at *
               clear h hO
               go_simp
             refine AllOpsI.cons (fun a y_ h hO=>?_) ?_
             · rw [if_neg (by decide)]
               have e8:a.eval (.tmp 8)=(.int .i64 ((k:Int)+1):Value):=h.old 8 (by kernel_rfl)
               refine opOk_val (v:=.int .i64 ((k:Int)+1)) (w':=y_) (wanted_none rfl) ?_ (fun t ht=>by cases ht; exact rfl) (Below.refl _ _)
               have ec:=evc a
               generalize a.eval=ev at *
               clear h hO
               go_simp
             refine AllOpsI.cons (fun a y_ h hO=>?_) ?_
             · rw [if_neg (by decide)]
               have e57:a.eval (.tmp 57)=(.int .i64 ((k:Int)+1):Value):=h.of 57 (by kernel_rfl)
               refine opOk_val (v:=.int .i64 (k:Nat)) (w':=y_) (wanted_none rfl) ?_ (fun t ht=>by cases ht; exact rfl) (Below.refl _ _)
               have ec:=evc a
               generalize a.eval=ev at *
               clear h hO
               go_simp
               simp [IntKind.wrap,IntKind.bits,IntKind.signed]
               omega
             refine AllOpsI.cons (fun a y_ h hO=>?_) ?_
             · rw [if_neg (by decide)]
               have e56:a.eval (.tmp 56)=(.slice (some ⟨GB,0,none⟩) nn co:Value):=h.of 56 (by kernel_rfl)
               have e58:a.eval (.tmp 58)=(.int .i64 (k:Nat):Value):=h.of 58 (by kernel_rfl)
               refine opOk_val (v:=.pointer (some ⟨GB,k,none⟩)) (w':=y_) (wanted_none rfl) ?_ (fun t ht=>by cases ht; exact rfl) (Below.refl _ _)
               have ec:=evc a
               generalize a.eval=ev at *
               clear h hO
               go_simp
               intro h9
               exfalso
               omega
             refine AllOpsI.cons (fun a y_ h hO=>?_) ?_
             · rw [if_neg (by decide)]
               have e59:a.eval (.tmp 59)=(.pointer (some ⟨GB,k,none⟩):Value):=h.of 59 (by kernel_rfl)
               have c0:=cell_below (h.pre (by kernel_rfl)) ck0
               refine opOk_val (v:=YV) (w':=y_) (wanted_none rfl) ?_ (fun t ht=>by cases ht; exact rfl) (Below.refl _ _)
               obtain ⟨ay,cy,hYV⟩:=HYV.out
               subst hYV
               have ec:=evc a
               generalize a.eval=ev at *
               clear h hO
               go_simp
             refine AllOpsI.cons (fun a y_ h hO=>?_) ?_
             · rw [if_neg (by decide)]
               have e6:a.eval (.tmp 6)=(.pointer (some ⟨FB,0,none⟩):Value):=h.old 6 (by kernel_rfl)
               refine opOk_val (v:=.pointer (some ⟨FB,6,none⟩)) (w':=y_) (wanted_none rfl) ?_ (fun t ht=>by cases ht; exact rfl) (Below.refl _ _)
               have ec:=evc a
               generalize a.eval=ev at *
               clear h hO
               go_simp
             refine AllOpsI.cons (fun a y_ h hO=>?_) ?_
             · rw [if_neg (by decide)]
               have e61:a.eval (.tmp 61)=(.pointer (some ⟨FB,6,none⟩):Value):=h.of 61 (by kernel_rfl)
               have c0:=h.below.cell f6 HFG.out
               refine opOk_val (v:=.slice (some ⟨GB,0,none⟩) nn co) (w':=y_) (wanted_none rfl) ?_ (fun t ht=>by cases ht; exact rfl) (Below.refl _ _)
               have ec:=evc a
               generalize a.eval=ev at *
               clear h hO
               go_simp
             refine AllOpsI.cons (fun a y_ h hO=>?_) ?_
             · rw [if_neg (by decide)]
               have e8:a.eval (.tmp 8)=(.int .i64 ((k:Int)+1):Value):=h.old 8 (by kernel_rfl)
               refine opOk_val (v:=.int .i64 ((k:Int)+1)) (w':=y_) (wanted_none rfl) ?_ (fun t ht=>by cases ht; exact rfl) (Below.refl _ _)
               have ec:=evc a
               generalize a.eval=ev at *
               clear h hO
               go_simp
             refine AllOpsI.cons (fun a y_ h hO=>?_) ?_
             · rw [if_neg (by decide)]
               have e62:a.eval (.tmp 62)=(.slice (some ⟨GB,0,none⟩) nn co:Value):=h.of 62 (by kernel_rfl)
               have e63:a.eval (.tmp 63)=(.int .i64 ((k:Int)+1):Value):=h.of 63 (by kernel_rfl)
               refine opOk_val (v:=.pointer (some ⟨GB,k+1,none⟩)) (w':=y_) (wanted_none rfl) ?_ (fun t ht=>by cases ht; exact rfl) (Below.refl _ _)
               have ec:=evc a
               generalize a.eval=ev at *
               clear h hO
               go_simp
               intro h9
               have:=h9 (by omega)
               exfalso
               omega
             refine AllOpsI.cons (fun a y_ h hO=>?_) ?_
             · rw [if_neg (by decide)]
               have e64:a.eval (.tmp 64)=(.pointer (some ⟨GB,k+1,none⟩):Value):=h.of 64 (by kernel_rfl)
               have c0:=cell_below (h.pre (by kernel_rfl)) ck
               refine opOk_val (v:=XV) (w':=y_) (wanted_none rfl) ?_ (fun t ht=>by cases ht; exact rfl) (Below.refl _ _)
               obtain ⟨ay,cy,hYV⟩:=HXV.out
               subst hYV
               have ec:=evc a
               generalize a.eval=ev at *
               clear h hO
               go_simp
             refine AllOpsI.cons (fun a y_ h hO=>?_) ?_
             · rw [if_neg (by decide)]
               have e49:a.eval (.tmp 49)=(.slice (some ⟨GB,0,none⟩) nn co:Value):=h.of 49 (by kernel_rfl)
               have e50:a.eval (.tmp 50)=(.int .i64 ((k:Int)+1):Value):=h.of 50 (by kernel_rfl)
               refine opOk_val (v:=.pointer (some ⟨GB,k+1,none⟩)) (w':=y_) (wanted_none rfl) ?_ (fun t ht=>by cases ht; exact rfl) (Below.refl _ _)
               have ec:=evc a
               generalize a.eval=ev at *
               clear h hO
               go_simp
               intro h9
               have:=h9 (by omega)
               exfalso
               omega
             refine AllOpsI.cons (fun a y_ h hO=>?_) ?_
             · rw [if_pos (by decide)]
               have e66:a.eval (.tmp 66)=(.pointer (some ⟨GB,k+1,none⟩):Value):=h.of 66 (by kernel_rfl)
               have e60:a.eval (.tmp 60)=(YV:Value):=h.of 60 (by kernel_rfl)
               have hpre:=h.pre (by kernel_rfl)
               have cc:=cell_below hpre ck
               have hy:=(hpre.block _ (heap_lt HGB0.out)).trans HGB0.out
               have ff:=Lib.frozen_of_heap hy (k+1)
               have hnew:(y_.setCell ⟨GB,k+1,none⟩ YV).heap[GB]?=some oN:=by rw [Lib.heap_setCell_same hy,← HON.out,Lib.heap_setCell_same HGB0.out]
               refine ⟨wanted_none rfl,opW_void (w':=y_.setCell ⟨GB,k+1,none⟩ YV) ?_ ⟨undef,rfl,fun t ht=>(by cases ht),NbR.set _ _ _,fun _ _=>hnew,hnew⟩⟩
               obtain ⟨ay,cy,hYV⟩:=HYV.out
               subst hYV
               have ec:=evc a
               generalize a.eval=ev at *
               clear h hO
               go_simp
             refine AllOpsI.cons (fun a y_ h hO=>?_) ?_
             · rw [if_neg (by decide)]
               have e52:a.eval (.tmp 52)=(.slice (some ⟨GB,0,none⟩) nn co:Value):=h.of 52 (by kernel_rfl)
               have e54:a.eval (.tmp 54)=(.int .i64 (k:Nat):Value):=h.of 54 (by kernel_rfl)
               refine opOk_val (v:=.pointer (some ⟨GB,k,none⟩)) (w':=y_) (wanted_none rfl) ?_ (fun t ht=>by cases ht; exact rfl) (Below.refl _ _)
               have ec:=evc a
               generalize a.eval=ev at *
               clear h hO
               go_simp
               intro h9
               exfalso
               omega
             exact AllOpsI.nil
            case htailC =>
             rintro ⟨tm2,df⟩ w8 hI _
             have e67:Act.eval ⟨tm2,df⟩ (.tmp 67)=.pointer (some ⟨GB,k,none⟩):=hI.of 20 _ 67 (by decide) rfl rfl (by kernel_rfl)
             have e65:Act.eval ⟨tm2,df⟩ (.tmp 65)=XV:=hI.of 17 _ 65 (by decide) rfl rfl (by kernel_rfl)
             have hG8:w8.heap[GB]?=some oN:=hI.wrote 19 (by decide) rfl
             have hR1:=(World.ownsRow.stored HRO.out (k+1) YV).1
             have hG8':w8.heap[GB]?=(w0k.setCell ⟨GB,k+1,none⟩ YV).heap[GB]?:=by rw [hG8,HON.out]
             have hR8:w8.ownsRow (FB+1) 22 1 (.slice (some ⟨GB,0,none⟩) nn co) nn ((R.map (·.2)).set (k+1) YV):=rl_own_alone hR1 (fun g hg=>by
              have hgN:GB=g:=(by simpa [Value.ownBlock] using hg)
              subst hgN
              exact hG8')
             have hR9:=(World.ownsRow.stored hR8 k XV).1
             have hlen8:((R.map (·.2)).set (k+1) YV).length=nn:=by rw [List.length_set,List.length_map]; exact HRL.out
             obtain ⟨u8,c8⟩:∃ u8,w8.cell? ⟨GB,k,none⟩=some u8:=⟨_,(World.ownsRow.cellAt hR8 k (by omega)).trans (List.getElem?_eq_getElem (by omega))⟩
             have f8:w8.frozen? ⟨GB,k,none⟩=false:=World.ownsRow.frozenAt hR8 k
             have hsN:tm2.size=70:=hI.size
             show wpOps Tryz.prog _ _ [21] _ _
             rw [wpOps_cons]
             refine wpOp_void rfl (wanted_none rfl) rfl (w':=w8.setCell ⟨GB,k,none⟩ XV) ?_ ?_
             · obtain ⟨ay,cy,hXV⟩:=HXV.out
               subst hXV
               show Sem.run Tryz.prog (execOp (Act.eval ⟨tm2,df⟩) _) w8=_
               have ec:=evc ⟨tm2,df⟩
               generalize Act.eval ⟨tm2,df⟩=ev at *
               clear hI
               go_simp
             have hKN:∀ (kQ:Nat) (c:Array Value) (t:TypeId),w0k.heap[kQ]?=some (.cells c t)→¬ kQ=GB→(w8.setCell ⟨GB,k,none⟩ XV).heap[kQ]?=some (.cells c t):=fun kQ c t hk hne=>(heap_set_other hne).trans ((hI.below.block kQ (heap_lt hk) hne).trans hk)
             have HF9:Hid (FindI FB (.slice at_ r.terms.length ct) (.slice ab r.body.length cb) (.slice a9 q.length c9) r ((Ru.gapL qc x i k).map (·.1),false) (Ru.gapL qc x i k) (.slice (some ⟨GB,0,none⟩) nn co) (w8.setCell ⟨GB,k,none⟩ XV)):=by
              refine ⟨rfl,hKN _ _ _ HFK.out.b HFG.out,?_,fun p hp=>?_⟩
              · rw [HGL.out,← HGS.out]
                exact hR9
              · have hp':p∈R:=(HGP.out.mem_iff).mp hp
                exact own_type (HFK.out.hr p hp') (fun kQ c hk=>hKN kQ c 3 hk (fun e=>by
                 have:=own_ty HFK.out.o (k:=GB) rfl (by rw [← e]; exact hk)
                 cases this))
             have HB9:Hid (Below w.heap.size w (w8.setCell ⟨GB,k,none⟩ XV)):=by
              have h1:Below w.heap.size w w8:=⟨hI.below.os.trans HBK.out.os,hI.below.tape.trans HBK.out.tape,hI.below.output.trans HBK.out.output,Nat.le_trans HBK.out.size hI.below.size,fun j hj=>(hI.below.block j (Nat.lt_of_lt_of_le hj HBK.out.size) (by have:=HGW.out; omega)).trans (HBK.out.block j hj)⟩
              exact h1.setCell (p:=⟨GB,k,none⟩) HGW.out _
             have hst:∀ t,t∉[48,49,50,51,52,53,54,55,56,57,58,59,60,61,62,63,64,65,66,67]→tm2.getD t undef=_:=fun t ht=>hI.still t ht
             obtain rfl:df=[]:=hI.defers
             clear hI e67 e65 hG8 hR1 hG8' hR8 hR9 hlen8 c8 f8 hKN f6 ck ck0
             show Exit.inBlock _ _ Exit.normal ⟨tm2,[]⟩ (w8.setCell ⟨GB,k,none⟩ XV)
             generalize w8.setCell ⟨GB,k,none⟩ XV=w9 at *
             have hF8:=tmps_fold [48,49,50,51,52,53,54,55,56,57,58,59,60,61,62,63,64,65,66,67] tm2 _ (hsN.trans (by rfl)) hst
             clear hsN hst
             simp only [List.foldl_cons,List.foldl_nil] at hF8
             generalize tm2.getD 48 undef=x48 at hF8
             generalize tm2.getD 49 undef=x49 at hF8
             generalize tm2.getD 50 undef=x50 at hF8
             generalize tm2.getD 51 undef=x51 at hF8
             generalize tm2.getD 52 undef=x52 at hF8
             generalize tm2.getD 53 undef=x53 at hF8
             generalize tm2.getD 54 undef=x54 at hF8
             generalize tm2.getD 55 undef=x55 at hF8
             generalize tm2.getD 56 undef=x56 at hF8
             generalize tm2.getD 57 undef=x57 at hF8
             generalize tm2.getD 58 undef=x58 at hF8
             generalize tm2.getD 59 undef=x59 at hF8
             generalize tm2.getD 60 undef=x60 at hF8
             generalize tm2.getD 61 undef=x61 at hF8
             generalize tm2.getD 62 undef=x62 at hF8
             generalize tm2.getD 63 undef=x63 at hF8
             generalize tm2.getD 64 undef=x64 at hF8
             generalize tm2.getD 65 undef=x65 at hF8
             generalize tm2.getD 66 undef=x66 at hF8
             generalize tm2.getD 67 undef=x67 at hF8
             simp only [List.setIfInBounds_toArray,List.set_cons_zero,List.set_cons_succ] at hF8
             subst hF8
             go_wp2_with fail
             go_roundw
             case rel=>exact ⟨k,by omega,by go_num,HF9.out,HGT2.out,HB9.out⟩
             case measure=>simp [intOf]
      · have gil:decide (i<nn)=false:=decide_eq_false hlt
        have HFIN:Hid (qc.map (·.1)=Ru.srt LW):=by
         show _=_
         refine Ru.sorted_srt (by rw [← HQ5.out]; exact HPE.out.map _) HNL.out ?_
         have h9:=HSO.out
         rw [List.take_of_length_le (by have:=HQL2.out; omega)] at h9
         exact List.pairwise_map.mpr h9
        have HNP:Hid (NumsP w.heap.size wr (.slice ao nn co) qc):=⟨rl_own_le HFC.out.o (by have:=HFW.out; omega),fun p hp=>rl_own_le (HFC.out.hr p hp) (by have:=HFW.out; omega)⟩
        go_wp2_with fail
        refine bodyPost_ret (results_tmp2 rfl _ _ _) rfl ?_
        exact ⟨_,qc,by rw [HOK.out]; rfl,HNP.out,by rw [HOU.out]; exact HFIN.out,HBC.out⟩
end Go.Proofs.YthenjegmigeieaaGreat
namespace Go.Proofs.YthenjegmigeieaaGreat
namespace Ru
theorem minL_snoc (ns:List Int) (x:Int):minL (ns++[x])=if ns.length=0∨x<minL ns then x else minL ns:=by
 cases ns with
 | nil=>rfl
 | cons a l =>
  have h1:minL ((a::l)++[x])=if x<minL (a::l) then x else minL (a::l):=by
   show (l++[x]).foldl _ a=_
   rw [List.foldl_append]
   rfl
  rw [h1]
  by_cases h:x<minL (a::l)
  · rw [if_pos h,if_pos (Or.inr h)]
  · have h2:¬ ((a::l).length=0∨x<minL (a::l)):=by
     rintro (e | e)
     · simp at e
     · exact h e
    rw [if_neg h,if_neg h2]
theorem maxL_snoc (ns:List Int) (x:Int):maxL (ns++[x])=if ns.length=0∨maxL ns<x then x else maxL ns:=by
 cases ns with
 | nil=>rfl
 | cons a l =>
  have h1:maxL ((a::l)++[x])=if maxL (a::l)<x then x else maxL (a::l):=by
   show (l++[x]).foldl _ a=_
   rw [List.foldl_append]
   rfl
  rw [h1]
  by_cases h:maxL (a::l)<x
  · rw [if_pos h,if_pos (Or.inr h)]
  · have h2:¬ ((a::l).length=0∨maxL (a::l)<x):=by
     rintro (e | e)
     · simp at e
     · exact h e
    rw [if_neg h,if_neg h2]
theorem foldN_nil (f:Int):foldN f []=0:=by
 unfold foldN
 split
 · rfl
 · split
   · rfl
   · split <;> rfl
theorem foldN_one (ns:List Int):foldN 1 ns=ns.length:=rfl
theorem foldN_two (ns:List Int) (x:Int):foldN 2 (ns++[x])=foldN 2 ns+x:=by
 show (ns++[x]).sum=ns.sum+x
 simp
theorem foldN_three (ns:List Int) (x:Int):foldN 3 (ns++[x])=if ns.length=0∨x<foldN 3 ns then x else foldN 3 ns:=minL_snoc ns x
theorem foldN_four (ns:List Int) (x:Int):foldN 4 (ns++[x])=if ns.length=0∨foldN 4 ns<x then x else foldN 4 ns:=maxL_snoc ns x
theorem group_nil (p:List Int):group [] p=[]:=rfl
theorem group_yes {H:List Rl.Fc} {g:Rl.Fc} {p:List Int} (h:pre g.args=p):group (H++[g]) p=group H p++[lst g.args]:=by
 unfold group
 rw [List.filter_append,List.map_append,List.filter_cons_of_pos (by simpa using h)]
 rfl
theorem group_no {H:List Rl.Fc} {g:Rl.Fc} {p:List Int} (h:¬ pre g.args=p):group (H++[g]) p=group H p:=by
 unfold group
 rw [List.filter_append,List.map_append,List.filter_cons_of_neg (by simpa using h)]
 simp
theorem group_le (H:List Rl.Fc) (p:List Int):(group H p).length≤H.length:=by
 unfold group
 rw [List.length_map]
 exact List.length_filter_le _ _
theorem group_num {H:List Rl.Fc} {p:List Int} (hH:∀ g,g∈H→0<g.args.length∧∀ n,n∈g.args→Sc.isNum n=true):∀ n,n∈group H p→Sc.isNum n=true:=by
 intro n hn
 unfold group at hn
 obtain ⟨g,hg,rfl⟩:=List.mem_map.mp hn
 have h:=hH g (List.mem_filter.mp hg).1
 exact lst_num h.1 h.2
def gave (r:Sc.Rule) (H:List Rl.Fc) (h:Rl.Fc):List Rl.Fc:=if r.fold=0 then [h] else emit r.fold r.pred (pre h.args) (group H (pre h.args))
theorem gave_flat (r:Sc.Rule) (W:List (List Int)):((W.map (head r)).map (gave r (W.map (head r)))).flatten=headsL r W:=by
 unfold headsL
 by_cases hf:r.fold=0
 · rw [if_pos hf]
   have:gave r (W.map (head r))=fun h=>[h]:=by funext h; unfold gave; rw [if_pos hf]
   rw [this]
   generalize W.map (head r)=L
   induction L with
   | nil=>rfl
   | cons a l ih=>rw [List.map_cons,List.flatten_cons,ih]; rfl
 · rw [if_neg hf]
   generalize hH:W.map (head r)=H
   have hp:∀ h,h∈H→h.pred=r.pred:=fun h hh=>by
    rw [← hH] at hh
    obtain ⟨y,_,rfl⟩:=List.mem_map.mp hh
    rfl
   suffices ∀ L:List Rl.Fc,(∀ h,h∈L→h.pred=r.pred)→(L.map (gave r H)).flatten=L.filterMap (foldH r.fold H) from this H hp
   intro L
   induction L with
   | nil=>intro _; rfl
   | cons a l ih =>
    intro hL
    rw [List.map_cons,List.flatten_cons,ih (fun h hh=>hL h (List.mem_cons_of_mem _ hh)),List.filterMap_cons]
    unfold gave foldH emit
    rw [if_neg hf,hL a List.mem_cons_self]
    by_cases hn:Sc.isNum (foldN r.fold (group H (pre a.args)))=true
    · rw [if_pos hn]
      simp only [hn,if_true]
      rfl
    · rw [if_neg hn]
      simp only [hn]
      rfl
end Ru
end Go.Proofs.YthenjegmigeieaaGreat
namespace Go.Proofs.YthenjegmigeieaaGreat
open Go.RowKit
theorem run_append_copy {P:Program} {w:World} (base:Nat) (t ty e:TypeId) (i:TypeInfo) (z:Value) (size bytes:Nat) (ht:P.underlying t=some (.slice e)) (hi:P.info? e=some i) (hz:i.zero=some z)
 (hsize:i.size=size) (hby:i.bytes=bytes) (hzs:z.cells.size=size) (hsz:0<size) (g:Nat) (hown:w.ownsRow base e size (.slice (some ⟨g,0,none⟩) 0 0) 0 [])
 (a:Addr) (m c:Nat) (news:List Value) (hl:news.length=m * size) (hnews:∀ j u,news[j]?=some u→w.cell? (a.add j)=some u) (h63:m≤maxLen) (hbytes:m * bytes≤140737488355328) (hbase:base≤w.heap.size) :
 ∃ v' w',(Builtin.append_ #[t,t] ty #[.slice (some ⟨g,0,none⟩) 0 0,.slice (some a) m c]).run P w=.ok v' w'∧w'.ownsRow base e size v' m news∧Below w.heap.size w w':=by
 by_cases hm:m=0
 · subst hm
   have hn:news=[]:=List.eq_nil_of_length_eq_zero (by simpa using hl)
   subst hn
   refine ⟨_,w,?_,hown,Below.refl _ _⟩
   simp [Builtin.append_,run_underlying ht,sizeOf,typeInfo,hi,Builtin.lenOf,Builtin.firstCells,loadCells,loadCellsFrom,storeCells]
 · obtain ⟨v',w',h1,h2,h3⟩:=run_append_arg_grows (P:=P) w t ty e i z size bytes ht hi hz hsize hby hzs hsz ⟨g,0,none⟩ 0 0 [] (by simp) (fun j u h=>by simp at h) a m c news hl hnews (by omega) (by rw [Nat.zero_add]; exact h63) (by rw [Nat.zero_add]; exact hbytes)
   rw [Nat.zero_add,List.nil_append] at h2
   exact ⟨v',w',h1,rl_own_le h2 hbase,h3.os,h3.tape,h3.output,h3.size,fun k hk=>h3.block k hk (fun e=>by cases e)⟩
section
variable {P:Program} {ops:Array Oper} {Q:Exit→Act→World→Prop} {T:Nat→Value→World→Prop} {a:Act} {w:World} {o:Oper}
theorem opOk_copy (hw:Region.wanted o (yielded ops a.tmps)=true) (s x:Operand) (t:TypeId) (ho:o.op=.call { callee:=.builtin .append,args:=#[s,x],argTypes:=#[t,t] })
 (base:Nat) (e:TypeId) (i:TypeInfo) (z:Value) (size bytes:Nat) (ht:P.underlying t=some (.slice e)) (hi:P.info? e=some i) (hz:i.zero=some z)
 (hsize:i.size=size) (hby:i.bytes=bytes) (hzs:z.cells.size=size) (hsz:0<size) (g:Nat) (hs:a.eval s=.slice (some ⟨g,0,none⟩) 0 0) (hown:w.ownsRow base e size (.slice (some ⟨g,0,none⟩) 0 0) 0 [])
 (ad:Addr) (m c:Nat) (news:List Value) (hx:a.eval x=.slice (some ad) m c) (hl:news.length=m * size) (hnews:∀ j u,news[j]?=some u→w.cell? (ad.add j)=some u) (h63:m≤1000) (hb8:bytes≤64) (hbase:base≤w.heap.size)
 (hT:∀ v' w',w'.ownsRow base e size v' m news→Below w.heap.size w w'→∀ t,o.dst=some t→T t v' w'):OpOk P ops Q T o a w:=by
 obtain ⟨v',w',hr,h1,h2⟩:=run_append_copy (P:=P) base t o.type e i z size bytes ht hi hz hsize hby hzs hsz g hown ad m c news hl hnews (by unfold maxLen; omega) (Nat.le_trans (Nat.mul_le_mul h63 hb8) (by decide)) hbase
 refine opOk_val (v:=v') (w':=w') hw ?_ (hT v' w' h1 h2) h2
 unfold execOp
 simp only [ho,resolve,invoke,builtin,Sem.run_bind,Sem.run_pure,Result.andThen_ok,List.map_toArray,List.map_cons,List.map_nil,hs,hx,hr]
end
theorem ints_news {w:World} {g:Nat} {m c:Nat} {l:List Int} (h:IntsV w (.slice (some ⟨g,0,none⟩) m c) l):∀ j u,(l.map (Value.int .i64))[j]?=some u→w.cell? ((⟨g,0,none⟩:Addr).add j)=some u:=by
 intro j u hj
 obtain ⟨ao,cap,hv,hA⟩:=h
 injection hv with e1 e2 e3
 subst e1
 have hlt:j<l.length:=by
  rcases Nat.lt_or_ge j l.length with h | h
  · exact h
  · rw [List.getElem?_eq_none (by rw [List.length_map]; exact h)] at hj; cases hj
 obtain ⟨b,off,hb,hc⟩:=ints_at hA j hlt
 injection hb with hb
 injection hb with e1 e2
 subst e1 e2
 rw [Addr.add_lit,hc,← hj,List.getElem?_map,List.getElem?_eq_getElem hlt]
 unfold Sc.intD
 rw [List.getD_eq_getElem?_getD,List.getElem?_eq_getElem hlt]
 rfl
theorem row_phi {wr:World} {B A:Nat} {v:Value} {qo:List Fv} {b off n cap k:Nat} {u:Value} (ho:wr.ownsRow B 55 2 v qo.length (qo.map fcCells).flatten) (hr:∀ p,p∈qo→wr.ownsRow A 3 1 p.2 p.1.args.length (p.1.args.map (Value.int .i64))) (hv:v=.slice (some ⟨b,off,none⟩) n cap) (hk:k<qo.length) (hc:wr.cell? ⟨b,off+k * 2+1,none⟩=some u) :
 wr.ownsRow A 3 1 (Rl.factD (qo.map (·.1)) k,u).2 (Rl.factD (qo.map (·.1)) k,u).1.args.length ((Rl.factD (qo.map (·.1)) k,u).1.args.map (Value.int .i64)):=by
 rcases ownsRow_forms9 ho with ⟨_,h0⟩ | ⟨g,cap2,hv2⟩
 · omega
 · rw [hv2] at ho
   rw [hv] at hv2
   injection hv2 with e1 _ _
   injection e1 with e1
   injection e1 with e1 e4 _
   subst e1 e4
   rw [Nat.zero_add] at hc
   obtain ⟨x,hx,hx2⟩:=fc_at qo (k * 2+1) (by omega)
   rw [World.ownsRow.cellAt ho (k * 2+1) (by omega),hx2,show (k * 2+1) % 2=1 by omega] at hc
   rw [show (k * 2+1) / 2=k by omega] at hx
   have hu:x.2=u:=by
    have:(fcCells x)[1]?=some x.2:=rfl
    rw [this] at hc
    injection hc
   have hf:Rl.factD (qo.map (·.1)) k=x.1:=by
    unfold Rl.factD
    rw [List.getD_eq_getElem?_getD,List.getElem?_map,hx]
    rfl
   rw [hf,← hu]
   exact hr x (List.mem_of_getElem? hx)
theorem SetOf_phi (Φ:Fv→Prop) (l:List Rl.Fc) (v:Value) (w0 w:World) (hΦ:∀ (b off cap k:Nat),v=.slice (some ⟨b,off,none⟩) l.length cap→k<l.length→∀ u,w0.cell? ⟨b,off+k * 2+1,none⟩=some u→Φ (Rl.factD l k,u)) (hb0:Below w0.heap.size w0 w) (hV:FactsV w0 v l) (hl:l.length≤2097152) (hf:∀ f,f∈l→FFit f) :
 Calls Tryz.prog 35 #[v] w fun e w'=>∃ v',e=.returned v'∧(∃ q:List Fv,q.map (·.1)=Rl.set l∧w'.ownsRow w.heap.size 55 2 v' q.length (q.map fcCells).flatten∧∀ p,p∈q→(FvOk w0 p∧Φ p))∧Below w.heap.size w w':=by
 obtain ⟨i0,hi,hz0,hz1,hz2⟩:=info_parts rl_info49
 obtain ⟨ao,cap,rfl,_,hA⟩:=hV
 have HA:Hid (FactsAt w0 ao l):=hA
 have HΦ:Hid (∀ (b off cap' k:Nat),Value.slice ao l.length cap=.slice (some ⟨b,off,none⟩) l.length cap'→k<l.length→∀ u,w0.cell? ⟨b,off+k * 2+1,none⟩=some u→Φ (Rl.factD l k,u)):=hΦ
 clear hΦ
 have HB0:Hid (∀ {z:World},Below w.heap.size w z→Below w0.heap.size w0 z):=fun hz=>hb0.trans (hz.mono hb0.size)
 clear hb0
 have HF:Hid (∀ f,f∈l→FFit f):=hf
 clear hA hf
 go_enter Tryz.func35,Tryz.ntmps35
 go_wp2_with fail
 go_loopw [3,4] (fun vs i wr=>∃ (k:Nat) (q:List Fv),k≤l.length∧i=.int .i64 k∧wr.ownsRow w.heap.size 55 2 vs q.length (q.map fcCells).flatten∧Rl.IsSet (q.map (·.1)) (l.take k)∧(∀ p,p∈q→(FvOk w0 p∧Φ p))∧Below w.heap.size w wr∧q.length≤k) (fun _ i _=>l.length - (intOf i).toNat)
 case atStart=>exact ⟨0,[],Nat.zero_le _,rfl,World.ownsRow_nil _ _ _ _,⟨List.Pairwise.nil,fun x=>Iff.rfl⟩,fun _ hp=>absurd hp (by simp),Below.refl _ _,Nat.le_refl _⟩
 case round =>
  obtain ⟨wo,hwo⟩:∃ wo,wo=wr:=⟨_,rfl⟩
  subst hwo
  obtain ⟨k,q,hk,rfl,hown,hset,hqo,hb,hqk⟩:=hrel
  have HSET:Hid _:=hset
  have HQO:Hid _:=hqo
  clear hset hqo
  obtain ⟨aos,caps,rfl⟩:=own_slice hown
  by_cases hlt:k<l.length
  · obtain ⟨b,off,rfl,p0,fv,p1,hIv⟩:=facts_at HA.out k hlt
    have hmem:=factD_mem l k hlt
    have HTK:Hid (l.take (k+1)=l.take k++[Rl.factD l k]):=by show _=_; rw [List.take_add_one,factD_get l k hlt]; rfl
    have HIV:Hid (IntsV w0 fv (Rl.factD l k).args):=hIv
    have HFF:Hid (FFit (Rl.factD l k)):=HF.out _ hmem
    obtain ⟨af,cf,rfl,_⟩:=hIv
    have a0:=cell_below (HB0.out hb) p0
    have a1:=cell_below (HB0.out hb) p1
    have HP0:Hid (w0.cell? ⟨b,off+k * 2,none⟩=some (.int .i64 (Rl.factD l k).pred)∧w0.cell? ⟨b,off+k * 2+1,none⟩=some (.slice af (Rl.factD l k).args.length cf)):=⟨p0,p1⟩
    have HPH:Hid (Φ (Rl.factD l k,Value.slice af (Rl.factD l k).args.length cf)):=HΦ.out b off cap k rfl hlt _ p1
    clear p0 p1 hmem
    generalize Rl.factD l k=f at *
    have HHF:Hid (Calls Tryz.prog 26 #[.slice aos q.length caps,fcVal f.pred (.slice af f.args.length cf)] wo fun e w'=>e=.returned (.bool (Rl.has (q.map (·.1)) f))∧Below wo.heap.size wo w'):=by
     exact HasFact_any (q.map (·.1)) f _ _ wo (own_factsV hown (fun p hp=>(HQO.out p hp).1) (HB0.out hb)) (intsV_below HIV.out (HB0.out hb)) (by rw [List.length_map]; omega) (fun g hg=>by obtain ⟨p,hp,rfl⟩:=List.mem_map.mp hg; exact (HQO.out p hp).1.2) HFF.out
    go_wp2_with fail
    refine Calls.mono HHF.out ?_
    rintro e w1 ⟨rfl,hb1⟩
    have hown1:=ownsRow_below hown hb1
    have hbw1:=hb.trans (hb1.mono hb.size)
    clear hown hb hb1 HHF a0 a1
    cases hh:Rl.has (q.map (·.1)) f
    · have HNF:Hid (f∉q.map (·.1)):=fun h=>by rw [Rl.has_iff.mpr h] at hh; cases hh
      clear hh
      have b0:=cell_below (HB0.out hbw1) HP0.out.1
      have b1:=cell_below (HB0.out hbw1) HP0.out.2
      have hbsz:=hbw1.size
      go_wp2_with (at_builtin; refine wpList_append_own _ rfl (.tmp 20) (.tmp 25) 27 rfl w.heap.size 55 i0 _ 2 32 Tryz.underlying27 hi hz0 hz1 hz2 rfl (by decide) _ _ _ rfl (hown1.alloc _) ⟨w1.heap.size,0,none⟩ 1 1 (fcCells (f,.slice af f.args.length cf)) rfl rfl ?c1 ?c2 ?c3 ?c4 ?c5 ?_)
      case c1=>exact news2 w1 _ _ 55
      case c2=>intro u hu; simp [fcCells] at hu; rcases hu with rfl | rfl <;> rfl
      case c3=>unfold maxLen; omega
      case c4=>omega
      case c5=>simp; omega
      intro vs2 w4 hown4 hgrow4 _
      have hb5:Below w.heap.size w w4:=(hbw1.alloc hbw1.size _).grown hgrow4 (by simp; omega) (fun k hk=>(hown1.lt k hk).1)
      rcases ownsRow_forms9 hown4 with ⟨_,h0⟩ | ⟨g,cap9,hv9⟩
      · exact absurd h0 (by omega)
      subst hv9
      have hrow5:FRow w4 w.heap.size g cap9 (q++[(f,Value.slice af f.args.length cf)]):=by
       unfold FRow
       rw [List.length_append,List.map_append,List.flatten_append]
       simpa using hown4
      have hgl:=hrow5.lt
      clear hown4 hgrow4 hown1 hbw1 b0 b1
      go_wp2_with fail
      go_loopw [5] (fun ik wr=>∃ (m:Nat) (R:List Fv),m≤q.length∧ik=.int .i64 m∧FRow wr w.heap.size g cap9 R∧Gap q R m∧(∀ x,x∈(q.map (·.1)).drop m→Rl.ord x f > 0)∧Below w.heap.size w wr) (fun ik _=>(intOf ik).toNat)
      case atStart=>exact ⟨q.length,_,Nat.le_refl _,rfl,hrow5,Gap.start q _,fun x hx=>by rw [List.drop_of_length_le (by simp)] at hx; simp at hx,hb5⟩
      case round =>
       clear hrow5 hb5
       obtain ⟨wp,hwp⟩:∃ wp,wp=wr:=⟨_,rfl⟩
       subst hwp
       obtain ⟨m,R,hm,rfl,hrow,hgap,hgt,hbp⟩:=hrel
       have HGP:Hid _:=hgap
       have HGT:Hid _:=hgt
       have hRl:=hgap.len
       have HRL:Hid (R.length=q.length+1):=hRl
       have hmR:m<R.length:=by omega
       clear hgap hgt hRl
       have b0:=cell_below (HB0.out hbp) HP0.out.1
       have b1:=cell_below (HB0.out hbp) HP0.out.2
       rcases Nat.eq_zero_or_pos m with hm0 | hm0
       · have HTOP:Hid (m=0∨∃ x,(q.map (·.1))[m - 1]?=some x∧¬ Rl.ord x f > 0):=.inl hm0
         have hmz:decide (0<m)=false:=by simp; omega
         have HM0:Hid (m=0):=hm0
         clear hm0
         go_upto_region 8 with fail
         go_region
         have hrow2:FRow wp.drew w.heap.size g cap9 R:=hrow
         have hbz:Below w.heap.size w wp.drew:=⟨hbp.os,hbp.tape,hbp.output,hbp.size,hbp.block⟩
         clear hrow hbp b0 b1
         generalize wp.drew=wz at *
         have HS2:Hid (Rl.IsSet ((q.take m++(f,Value.slice af f.args.length cf)::q.drop m).map (·.1)) (l.take (k+1))):=by
          rw [HTK.out,List.map_append,List.map_cons,List.map_take,List.map_drop]
          exact isSet_put HSET.out HNF.out (by rw [List.length_map]; exact hm) HGT.out HTOP.out
         have HQ2:Hid (∀ p,p∈q.take m++(f,Value.slice af f.args.length cf)::q.drop m→(FvOk w0 p∧Φ p)):=by
          intro p hp
          rcases List.mem_append.mp hp with hp | hp
          · exact HQO.out p (List.mem_of_mem_take hp)
          · rcases List.mem_cons.mp hp with rfl | hp
            · exact ⟨⟨HIV.out,HFF.out⟩,HPH.out⟩
            · exact HQO.out p (List.mem_of_mem_drop hp)
         have hput:=hrow2.put m hmR (f,Value.slice af f.args.length cf)
         rw [HGP.out.fin hm] at hput
         have hlen2:(q.take m++(f,Value.slice af f.args.length cf)::q.drop m).length=q.length+1:=by simp; omega
         have hb9:Below w.heap.size w ((wz.setCell ⟨g,m * 2,none⟩ (.int .i64 f.pred)).setCell ⟨g,m * 2+1,none⟩ (.slice af f.args.length cf)) :=
          ⟨hbz.os,hbz.tape,hbz.output,by simpa [World.setCell] using hbz.size,fun k hk=>(Below.heap_setCell _ _ _ _ (show ¬ k=g by omega)).trans ((Below.heap_setCell _ _ _ _ (show ¬ k=g by omega)).trans (hbz.block k hk))⟩
         obtain ⟨r,hr,_⟩:=get_lt (q:=R) (i:=m) hmR
         obtain ⟨r0,r1⟩:=hrow2.cell hr
         have rf0:=hrow2.frozen (m * 2)
         have rf1:=hrow2.frozen (m * 2+1)
         have d0:=cell_below (HB0.out hbz) HP0.out.1
         have d1:=cell_below (HB0.out hbz) HP0.out.2
         unfold FRow at hput
         rw [hlen2] at hput
         have HPUT:Hid _:=hput
         have HLN2:Hid ((q.take m++(f,Value.slice af f.args.length cf)::q.drop m).length=q.length+1):=hlen2
         clear HTK HSET HNF HGT HGP hrow2 hr hput hlen2 HTOP
         go_wp2_with fail
         go_roundw
         case rel=>exact ⟨k+1,_,by omega,by go_num,by rw [HLN2.out]; exact HPUT.out,HS2.out,HQ2.out,hb9,by rw [HLN2.out]; omega⟩
         case measure=>simp [intOf]; omega
       · obtain ⟨m1,hm1e⟩:∃ m1,m1+1=m:=⟨m - 1,by omega⟩
         have hwr2:IntKind.i64.wrap ((m:Int) - 1)=(m1:Int):=by
          have h9:(m:Int) - 1=(m1:Int):=by omega
          rw [h9]
          simp [IntKind.wrap,IntKind.bits,IntKind.signed]
          omega
         obtain ⟨y,hy,hym⟩:=get_lt (q:=q) (i:=m1) (by omega)
         obtain ⟨c0,c1⟩:=hrow.cell ((HGP.out.lo m1 (by omega)).trans hy)
         obtain ⟨ya,yc,hyv⟩:=fv_slice (HQO.out y hym).1
         have HY:Hid (q[m1]?=some y∧y.2=.slice ya y.1.args.length yc):=⟨hy,hyv⟩
         rw [hyv] at c1
         have HN:Hid (∀ z,Below wp.heap.size wp z→Calls Tryz.prog 44 #[fcVal y.1.pred (.slice ya y.1.args.length yc),fcVal f.pred (.slice af f.args.length cf)] z fun e w'=>e=.returned (.int .i64 (Rl.ord y.1 f))∧Below wp.heap.size wp w'∧w'.cell? ⟨g,m1 * 2,none⟩=some (.int .i64 y.1.pred)∧w'.cell? ⟨g,m1 * 2+1,none⟩=some (.slice ya y.1.args.length yc)∧w'.cell? ⟨b,off+k * 2,none⟩=some (.int .i64 f.pred)∧w'.cell? ⟨b,off+k * 2+1,none⟩=some (.slice af f.args.length cf)):=by
          intro z hz
          have hzw:=hbp.trans (hz.mono hbp.size)
          refine (OrderOf_any y.1 f _ _ z (by have h3:=intsV_below (HQO.out y hym).1.1 (HB0.out hzw); rw [hyv] at h3; exact h3) (intsV_below HIV.out (HB0.out hzw)) (HQO.out y hym).1.2 HFF.out).mono ?_
          rintro e w' ⟨h1,h2⟩
          have h3:=hz.trans (h2.mono hz.size)
          exact ⟨h1,h3,cell_below h3 c0,cell_below h3 c1,cell_below h3 b0,cell_below h3 b1⟩
         clear hy hym hyv
         have hm1':m1<q.length+1:=by omega
         have hm1a:(0:Int)≤(m1:Int):=by omega
         have hm1b:(m1:Int)<((q.length+1:Nat):Int):=by omega
         have hm1c:(m1:Int)<(q.length:Int)+1:=by omega
         have hmpos:(0:Int)<(m:Int):=by omega
         have HM1:Hid (m1+1=m):=hm1e
         clear hm1e
         have HGA:∀ b o,Below wp.heap.size wp b→Below wp.heap.size wp (b.alloc o):=fun _ o h=>h.alloc h.size o
         have HGD:∀ b,Below wp.heap.size wp b→Below wp.heap.size wp b.drew:=fun _ h=>⟨h.os,h.tape,h.output,h.size,h.block⟩
         have HGR:Below wp.heap.size wp wp:=Below.refl _ _
         go_upto_region 8 with fail
         go_region_held3 (fun yy=>yy.cell? ⟨g,m1 * 2,none⟩=some (.int .i64 y.1.pred)∧yy.cell? ⟨g,m1 * 2+1,none⟩=some (.slice ya y.1.args.length yc)∧yy.cell? ⟨b,off+k * 2,none⟩=some (.int .i64 f.pred)∧yy.cell? ⟨b,off+k * 2+1,none⟩=some (.slice af f.args.length cf)∧Below wp.heap.size wp yy) (go_keep) (
          (go_at_call 44; refine Calls.mono (HN.out _ ?_) ?_; (simp [*]); rintro e w2 ⟨rfl,hb2,hz2,hz3,hz4,hz5⟩))
         clear HGA HGD HGR HN hz4 hz5 b0 b1 c0 c1
         have hrow2:=hrow.keep (hb2.block g hrow.lt.2)
         have hbz:=hbp.trans (hb2.mono hbp.size)
         clear hrow hbp hb2
         generalize w2=wz at *
         by_cases ho:0<Rl.ord y.1 f
         · have HG2:Hid (Gap q (R.set m y) m1):=by
            have h3:=HGP.out
            rw [← HM1.out] at h3 ⊢
            exact h3.step HY.out.1
           have HT2:Hid (∀ x,x∈(q.map (·.1)).drop m1→Rl.ord x f > 0):=by
            intro x hx
            have hlt9:m1<(q.map (·.1)).length:=by rw [List.length_map]; have:=HM1.out; omega
            rw [List.drop_eq_getElem_cons hlt9] at hx
            rcases List.mem_cons.mp hx with hx | hx
            · rw [hx,List.getElem_map]
              have h4:q[m1]'(by simpa using hlt9)=y:=by
               have h5:=HY.out.1
               rw [List.getElem?_eq_getElem (by simpa using hlt9)] at h5
               exact Option.some.inj h5
              rw [h4]
              exact ho
            · exact HGT.out x (by rw [← HM1.out]; exact hx)
           have hput:=hrow2.put m hmR y
           rw [HY.out.2] at hput
           have hb9:Below w.heap.size w ((wz.setCell ⟨g,m * 2,none⟩ (.int .i64 y.1.pred)).setCell ⟨g,m * 2+1,none⟩ (.slice ya y.1.args.length yc)) :=
            ⟨hbz.os,hbz.tape,hbz.output,by simpa [World.setCell] using hbz.size,fun k hk=>(Below.heap_setCell _ _ _ _ (show ¬ k=g by omega)).trans ((Below.heap_setCell _ _ _ _ (show ¬ k=g by omega)).trans (hbz.block k hk))⟩
           obtain ⟨r,hr,_⟩:=get_lt (q:=R) (i:=m) hmR
           obtain ⟨r0,r1⟩:=hrow2.cell hr
           have rf0:=hrow2.frozen (m * 2)
           have rf1:=hrow2.frozen (m * 2+1)
           have hmq:m<q.length+1:=by omega
           have HMM:Hid (m1<m):=by have:=HM1.out; show m1<m; omega
           clear hrow2 hr hbz HGP HGT
           go_wp2_with fail
           go_roundw
           case rel=>exact ⟨m1,R.set m y,by have:=HM1.out; omega,by first | rfl | go_num | (simp [*]),hput,HG2.out,HT2.out,hb9⟩
           case measure=>have:=HMM.out; simp [intOf, *]
         · have HTOP:Hid (m=0∨∃ x,(q.map (·.1))[m - 1]?=some x∧¬ Rl.ord x f > 0):=.inr ⟨y.1,by rw [show m - 1=m1 by have:=HM1.out; omega,List.getElem?_map,HY.out.1]; rfl,ho⟩
           clear hz2 hz3
           have HS2:Hid (Rl.IsSet ((q.take m++(f,Value.slice af f.args.length cf)::q.drop m).map (·.1)) (l.take (k+1))):=by
            rw [HTK.out,List.map_append,List.map_cons,List.map_take,List.map_drop]
            exact isSet_put HSET.out HNF.out (by rw [List.length_map]; exact hm) HGT.out HTOP.out
           have HQ2:Hid (∀ p,p∈q.take m++(f,Value.slice af f.args.length cf)::q.drop m→(FvOk w0 p∧Φ p)):=by
            intro p hp
            rcases List.mem_append.mp hp with hp | hp
            · exact HQO.out p (List.mem_of_mem_take hp)
            · rcases List.mem_cons.mp hp with rfl | hp
              · exact ⟨⟨HIV.out,HFF.out⟩,HPH.out⟩
              · exact HQO.out p (List.mem_of_mem_drop hp)
           have hput:=hrow2.put m hmR (f,Value.slice af f.args.length cf)
           rw [HGP.out.fin hm] at hput
           have hlen2:(q.take m++(f,Value.slice af f.args.length cf)::q.drop m).length=q.length+1:=by simp; omega
           have hb9:Below w.heap.size w ((wz.setCell ⟨g,m * 2,none⟩ (.int .i64 f.pred)).setCell ⟨g,m * 2+1,none⟩ (.slice af f.args.length cf)) :=
            ⟨hbz.os,hbz.tape,hbz.output,by simpa [World.setCell] using hbz.size,fun k hk=>(Below.heap_setCell _ _ _ _ (show ¬ k=g by omega)).trans ((Below.heap_setCell _ _ _ _ (show ¬ k=g by omega)).trans (hbz.block k hk))⟩
           obtain ⟨r,hr,_⟩:=get_lt (q:=R) (i:=m) hmR
           obtain ⟨r0,r1⟩:=hrow2.cell hr
           have rf0:=hrow2.frozen (m * 2)
           have rf1:=hrow2.frozen (m * 2+1)
           have d0:=cell_below (HB0.out hbz) HP0.out.1
           have d1:=cell_below (HB0.out hbz) HP0.out.2
           unfold FRow at hput
           rw [hlen2] at hput
           have HPUT:Hid _:=hput
           have HLN2:Hid ((q.take m++(f,Value.slice af f.args.length cf)::q.drop m).length=q.length+1):=hlen2
           clear HTK HSET HNF HGT HGP hrow2 hr hput hlen2 HTOP
           go_wp2_with fail
           go_roundw
           case rel=>exact ⟨k+1,_,by omega,by go_num,by rw [HLN2.out]; exact HPUT.out,HS2.out,HQ2.out,hb9,by rw [HLN2.out]; omega⟩
           case measure=>simp [intOf]; omega
    · have HS2:Hid (Rl.IsSet (q.map (·.1)) (l.take (k+1))):=by rw [HTK.out]; exact isSet_skip HSET.out (Rl.has_iff.mp hh)
      clear HTK HSET
      go_wp2_with fail
      go_roundw
      case rel=>exact ⟨k+1,q,by omega,by go_num,hown1,HS2.out,HQO.out,hbw1,by omega⟩
      case measure=>simp [intOf]; omega
  · have HFS:Hid (∃ q2:List Fv,q2.map (·.1)=Rl.set l∧wo.ownsRow w.heap.size 55 2 (.slice aos q.length caps) q2.length (q2.map fcCells).flatten∧∀ p,p∈q2→(FvOk w0 p∧Φ p)):=⟨q,by rw [Rl.isSet_eq HSET.out,List.take_of_length_le (by omega)],hown,HQO.out⟩
    clear hown HSET HQO
    go_wp2_with fail
    go_ret
    exact ⟨_,rfl,HFS.out,hb⟩
section
variable {P:Program} {ops:Array Oper} {Q:Exit→Act→World→Prop}
theorem wp_region_tailS2 (T T1:Nat→Value→World→Prop) (L S:Nat) (early:Nat→Bool) {id:Nat} {a0:Act} {w0:World} (hL:L<ops.size) (hSz:S<ops.size) (htf:tailFine ops L=true) (hm:P.follows .mixedOrders=true)
 (hf:tabFine ops a0.tmps.size=true) (hear:earlyFine ops S early=true)
 (hmono:∀ t v w w',Below w.heap.size w w'→T t v w→T t v w') (hmono1:∀ t v w w',Below w.heap.size w w'→T1 t v w→T1 t v w')
 (hmonoE:∀ t v w w',early t=true→Below w0.heap.size w w'→T t v w→T t v w')
 (hop:AllOpsI (fun i o=>∀ a w,OpIn ops T a0 w0 o a w→(∀ t,t∉(ops.toList.take L).filterMap (·.dst)→a.tmps.getD t undef=a0.tmps.getD t undef)→if i=S then (OpIn ops T1 a0 w0 o a w→Region.wanted o (yielded ops a.tmps)=true∧o.wp P a w (fun a' w'=>∃ v,a'=a.put o.dst v∧(∀ t,o.dst=some t→T t v w')∧w.heap.size≤w'.heap.size∧Below w0.heap.size w w') Q) else ((reach ops 12 S i=true→OpIn ops T1 a0 w0 o a w)→OpOk P ops Q (fun t v w=>T t v w∧T1 t v w) o a w)) 0 (ops.toList.take L))
 (htail:∀ a w,OpInT ops T a0 w0 L a w→(∀ t,t∉(ops.toList.take L).filterMap (·.dst)→a.tmps.getD t undef=a0.tmps.getD t undef)→wpOps P ops Q (List.range' L (ops.size - L)) a w) :
 (Code.region id ops true).wp P Q a0 w0:=by
 have hear':∀ (i:Nat) (o:Oper) (t:Nat),ops[i]?=some o→o.dst=some t→¬ i=S→reach ops 12 i S=false→early t=true:=fun i o t ho hd hne hr=>by
  unfold earlyFine at hear
  have h:=List.all_eq_true.mp hear i (List.mem_range.mpr (Array.getElem?_eq_some_iff.mp ho).1)
  rw [ho,hr] at h
  simp only [Option.map_some,Option.getD_some,hd,Bool.or_false,Bool.or_eq_true,beq_iff_eq] at h
  rcases h with h | h
  · exact absurd h hne
  · exact h
 unfold tailFine at htf
 rw [Bool.and_eq_true] at htf
 have ht1:∀ j,j<L→reach ops 12 L j=true:=fun j hj=>List.all_eq_true.mp htf.1 j (List.mem_range.mpr hj)
 have ht2:∀ i,i<ops.size→L<i→reach ops 12 i (i - 1)=true:=fun i hi hLi=>by
  have h:=List.all_eq_true.mp htf.2 i (List.mem_range.mpr hi)
  rw [decide_eq_true hLi] at h
  simpa using h
 unfold tabFine at hf
 rw [Bool.and_eq_true,Bool.and_eq_true] at hf
 obtain ⟨⟨hnd,hlt⟩,hah⟩:=hf
 have hnd:=of_decide_eq_true hnd
 have hlt':∀ t,t∈ops.toList.filterMap (·.dst)→t<a0.tmps.size:=fun t ht=>of_decide_eq_true (List.all_eq_true.mp hlt t ht)
 have hah':∀ (i:Nat) (o:Oper),ops[i]?=some o→∀ e,e∈o.after→e.on<i:=fun i o ho e he=>by
  have hi:i<ops.size:=(Array.getElem?_eq_some_iff.mp ho).1
  have h:=List.all_eq_true.mp hah i (List.mem_range.mpr hi)
  rw [ho,Option.map_some,Option.getD_some] at h
  exact of_decide_eq_true (List.all_eq_true.mp h e (by simpa using he))
 refine wp_region_inv (fun s a w=>(s.size=ops.size∧Closed ops s)∧(((∀ i,L≤i→i<ops.size→s[i]?=some false)∧(∀ t,t∉(ops.toList.take L).filterMap (·.dst)→a.tmps.getD t undef=a0.tmps.getD t undef)∧(s[S]?=some false→Tabbed ops T1 a0 w0 s a w)∧Tabbed ops T a0 w0 s a w) ∨
  (∃ m,L≤m∧m≤ops.size∧(∀ i,i<m→s[i]?=some true)∧(∀ i,m≤i→i<ops.size→s[i]?=some false)∧wpOps P ops Q (List.range' m (ops.size - m)) a w))) hm ?_ ?_ ?_
 · rintro s a w hr ⟨⟨hs,hC⟩,hI⟩
   have hall:∀ n:Nat,n≤ops.size→∀ i:Nat,i<n→s[i]?=some true:=by
    intro n
    induction n with
    | zero=>intro _ i hi; exact absurd hi (Nat.not_lt_zero _)
    | succ n ih =>
     intro hn i hi
     have ih:=ih (by omega)
     by_cases hin:i<n
     · exact ih i hin
     · have hin:i=n:=by omega
       subst hin
       cases hsi:s[i]? with
       | none=>rw [Array.getElem?_eq_none_iff] at hsi; omega
       | some b =>
        cases b with
        | true=>rfl
        | false =>
         exfalso
         have hio:i<ops.size:=by omega
         have:i∈Region.ready .any ops s:=by
          unfold Region.ready
          refine List.mem_filter.mpr ⟨List.mem_range.mpr hio,?_⟩
          rw [Bool.and_eq_true]
          refine ⟨by simp [Array.getD_eq_getD_getElem?,hsi],?_⟩
          have ho:ops[i]?=some ops[i]:=Array.getElem?_eq_getElem hio
          rw [ho,Option.map_some,Option.getD_some,Array.all_eq_true_iff_forall_mem]
          intro e he
          have h1:=ih e.on (hah' i _ ho e he)
          simp [Array.getD_eq_getD_getElem?,h1]
         rw [hr] at this
         exact absurd this (by simp)
   have hd:=hall ops.size (Nat.le_refl _)
   rcases hI with ⟨hF,_,_,_⟩ | ⟨m,_,hm1,_,hF,hW⟩
   · have h1:=hF L (Nat.le_refl _) hL
     rw [hd L hL] at h1
     cases h1
   · by_cases hme:m=ops.size
     · subst hme
       rw [Nat.sub_self] at hW
       exact hW
     · have h1:=hF m (Nat.le_refl _) (by omega)
       rw [hd m (by omega)] at h1
       cases h1
 · rintro s a w i hi ⟨⟨hs,hC⟩,hI⟩
   obtain ⟨hsi,o,ho,haf⟩:=ready_mem hi
   have his:i<ops.size:=(Array.getElem?_eq_some_iff.mp ho).1
   have hup:∀ j,s[j]?=some true→(s.setIfInBounds i true)[j]?=some true:=fun j hj=>by
    rw [Array.getElem?_setIfInBounds]
    by_cases hij:i=j
    · rw [if_pos hij,if_pos (by omega)]
    · rw [if_neg hij]; exact hj
   have hss:(s.setIfInBounds i true).size=ops.size∧Closed ops (s.setIfInBounds i true):=by
    refine ⟨by simp [hs],fun i' o' hi' ho' e he hb=>?_⟩
    by_cases hii:i=i'
    · subst hii
      rw [ho] at ho'
      cases ho'
      exact hup _ (haf e he hb)
    · rw [Array.getElem?_setIfInBounds,if_neg hii] at hi'
      exact hup _ (hC i' o' hi' ho' e he hb)
   have go:∀ m,L≤m→m<ops.size→i=m→(∀ j,j<m→s[j]?=some true)→(∀ j,m≤j→j<ops.size→s[j]?=some false)→wpOps P ops Q (List.range' m (ops.size - m)) a w →
    wpOp P ops Q i (fun a' w'=>((s.setIfInBounds i true).size=ops.size∧Closed ops (s.setIfInBounds i true))∧(((∀ j,L≤j→j<ops.size→(s.setIfInBounds i true)[j]?=some false)∧(∀ t,t∉(ops.toList.take L).filterMap (·.dst)→a'.tmps.getD t undef=a0.tmps.getD t undef)∧((s.setIfInBounds i true)[S]?=some false→Tabbed ops T1 a0 w0 (s.setIfInBounds i true) a' w')∧Tabbed ops T a0 w0 (s.setIfInBounds i true) a' w') ∨
     (∃ m,L≤m∧m≤ops.size∧(∀ j,j<m→(s.setIfInBounds i true)[j]?=some true)∧(∀ j,m≤j→j<ops.size→(s.setIfInBounds i true)[j]?=some false)∧wpOps P ops Q (List.range' m (ops.size - m)) a' w'))) a w:=by
    intro m hLm hms him hT hF hW
    subst him
    obtain ⟨d,hd⟩:∃ d,ops.size - i=d+1:=⟨ops.size - i - 1,by omega⟩
    rw [hd,List.range'_succ,wpOps_cons] at hW
    refine wpOp_mono (fun a' w' h'=>⟨hss,.inr ⟨i+1,by omega,by omega,fun j hj=>?_,fun j hj hjs=>?_,?_⟩⟩) hW
    · by_cases hji:j=i
      · subst hji
        rw [Array.getElem?_setIfInBounds,if_pos rfl,if_pos (by omega)]
      · exact hup j (hT j (by omega))
    · rw [Array.getElem?_setIfInBounds,if_neg (by omega)]
      exact hF j (by omega) hjs
    · rw [show ops.size - (i+1)=d by omega]
      exact h'
   rcases hI with ⟨hF,hO,hI1,hI⟩ | ⟨m,hLm,hm1,hT,hF,hW⟩
   · by_cases hiL:L≤i
     · have hiL2:i=L:=by
        rcases Nat.lt_or_ge L i with h | h
        · have h1:=reach_done hC 12 i (i - 1) o ho haf (ht2 i his h)
          rw [hF (i - 1) (by omega) (by omega)] at h1
          cases h1
        · omega
       subst hiL2
       have hdn:∀ j,j<i→s[j]?=some true:=fun j hj=>reach_done hC 12 i j o ho haf (ht1 j hj)
       exact go i (Nat.le_refl _) his rfl hdn (fun j hj hjs=>hF j hj hjs) (htail a w ⟨hI.below,hI.defers,hI.size,hI.still,fun j oj t hj hoj hd=>hI.done j oj t (hdn j hj) hoj hd⟩ hO)
     · have hmo:o∈ops.toList.take L:=by
        rw [← Array.getElem?_toList] at ho
        refine List.mem_of_getElem? (i:=i) ?_
        rw [List.getElem?_take,if_pos (by omega)]
        exact ho
       have hopI:=AllOpsI.get _ 0 hop i o (by
        rw [List.getElem?_take,if_pos (by omega),Array.getElem?_toList]
        exact ho) a w ⟨hI.below,hI.still,fun e he hb o' t ho' hd=>hI.done e.on o' t (haf e he hb) ho' hd⟩ hO
       rw [Nat.zero_add] at hopI
       have hOset:∀ (v:Value) t,t∉(ops.toList.take L).filterMap (·.dst)→(a.put o.dst v).tmps.getD t undef=a0.tmps.getD t undef:=fun v t ht=>by
        cases hd:o.dst with
        | none=>exact hO t ht
        | some u =>
         have hne:t≠u:=fun h=>ht (h ▸ List.mem_filterMap.mpr ⟨o,hmo,hd⟩)
         rw [put_get_ne hne]
         exact hO t ht
       have hset:∀ {T:Nat→Value→World→Prop} {v:Value} {w':World},Tabbed ops T a0 w0 s a w→(∀ t,o.dst=some t→T t v w')→w.heap.size≤w'.heap.size→Below w0.heap.size w w'→(∀ (j:Nat) (oj:Oper) (t:Nat),s[j]?=some true→ops[j]?=some oj→oj.dst=some t→∀ u,T t u w→T t u w')→Tabbed ops T a0 w0 (s.setIfInBounds i true) (a.put o.dst v) w':=by
        intro T v w' hI hv hsz hb hmono
        refine ⟨hI.below.trans hb,by rw [put_defers]; exact hI.defers,by rw [put_size]; exact hI.size,fun t ht=>?_,fun j oj t hj hoj hd=>?_⟩
        · cases hd:o.dst with
          | none=>exact hI.still t ht
          | some u =>
           have hne:t≠u:=fun h=>ht (h ▸ dst_mem ho hd)
           rw [put_get_ne hne]
           exact hI.still t ht
        · by_cases hij:j=i
          · subst hij
            rw [ho] at hoj
            cases hoj
            rw [hd,put_get_self (by rw [hI.size]; exact hlt' t (dst_mem ho hd))]
            exact hv t hd
          · have hj':s[j]?=some true:=by
             rw [Array.getElem?_setIfInBounds,if_neg (fun h=>hij h.symm)] at hj
             exact hj
            have h1:=hmono j oj t hj' hoj hd _ (hI.done j oj t hj' hoj hd)
            cases hd2:o.dst with
            | none=>exact h1
            | some u =>
             have hne:t≠u:=fun h=>hij (dst_inj ops.toList hnd j i oj o t (by rw [Array.getElem?_toList]; exact hoj) (by rw [Array.getElem?_toList]; exact ho) hd (h ▸ hd2))
             rw [put_get_ne hne]
             exact h1
       have hF':∀ j,L≤j→j<ops.size→(s.setIfInBounds i true)[j]?=some false:=fun j hj hjs=>by
        rw [Array.getElem?_setIfInBounds,if_neg (by omega)]
        exact hF j hj hjs
       by_cases hiS:i=S
       · rw [if_pos hiS] at hopI
         have hT1:=hI1 (by rw [← hiS]; exact hsi)
         obtain ⟨hw,hwp⟩:=hopI ⟨hT1.below,hT1.still,fun e he hb o' t ho' hd=>hT1.done e.on o' t (haf e he hb) ho' hd⟩
         unfold wpOp
         rw [ho]
         dsimp only
         rw [if_pos hw]
         refine .inl (Oper.wp_mono ?_ hwp)
         rintro a' w' ⟨v,rfl,hv,hsz,hb⟩
         refine ⟨hss,.inl ⟨hF',hOset v,fun h=>?_,hset hI hv hsz hb (fun j oj t hj hoj hd u hu=>?_)⟩⟩
         · rw [hiS,Array.getElem?_setIfInBounds,if_pos rfl,if_pos (by omega)] at h
           cases h
         · have hjS:¬ j=S:=fun e=>by rw [e,← hiS,hsi] at hj; cases hj
           have hr:reach ops 12 j S=false:=by
            cases hr:reach ops 12 j S with
            | false=>rfl
            | true =>
             have h1:=reach_done hC 12 j S oj hoj (fun e he hb=>hC j oj hj hoj e he hb) hr
             rw [← hiS,hsi] at h1
             cases h1
           exact hmonoE t u w w' (hear' j oj t hoj hd hjS hr) hb hu
       · rw [if_neg hiS] at hopI
         replace hopI:=hopI (fun hrS=>by
          have hsS:s[S]?=some false:=by
           cases hsS:s[S]? with
           | none=>rw [Array.getElem?_eq_none_iff] at hsS; omega
           | some b =>
            cases b with
            | false=>rfl
            | true =>
             have hoS:ops[S]?=some ops[S]:=Array.getElem?_eq_getElem hSz
             have h1:=reach_done hC 12 S i _ hoS (fun e he hb=>hC S _ hsS hoS e he hb) hrS
             rw [hsi] at h1
             cases h1
          have hT1:=hI1 hsS
          exact ⟨hT1.below,hT1.still,fun e he hb o' t ho' hd=>hT1.done e.on o' t (haf e he hb) ho' hd⟩)
         have hSs:(s.setIfInBounds i true)[S]?=some false→s[S]?=some false:=fun h=>by
          rw [Array.getElem?_setIfInBounds,if_neg hiS] at h
          exact h
         have hlow:∀ {w':World},Below w.heap.size w w'→Below w0.heap.size w w':=fun hb=>hb.mono hI.below.size
         unfold OpOk at hopI
         unfold wpOp
         rw [ho]
         dsimp only
         by_cases hw:Region.wanted o (yielded ops a.tmps)=true
         · rw [if_pos hw] at hopI ⊢
           refine hopI.imp (Oper.wp_mono ?_) (fun h=>h)
           rintro a' w' ⟨v,rfl,hv,hb⟩
           exact ⟨hss,.inl ⟨hF',hOset v,fun h=>hset (hI1 (hSs h)) (fun t ht=>(hv t ht).2) hb.size (hlow hb) (fun _ _ t _ _ _ u hu=>hmono1 t u w w' hb hu),hset hI (fun t ht=>(hv t ht).1) hb.size (hlow hb) (fun _ _ t _ _ _ u hu=>hmono t u w w' hb hu)⟩⟩
         · rw [if_neg hw] at hopI ⊢
           exact ⟨hss,.inl ⟨hF',hOset _,fun h=>hset (hI1 (hSs h)) (fun t ht=>(hopI t ht).2) (Nat.le_refl _) (hlow (Below.refl _ _)) (fun _ _ t _ _ _ u hu=>hu),hset hI (fun t ht=>(hopI t ht).1) (Nat.le_refl _) (hlow (Below.refl _ _)) (fun _ _ t _ _ _ u hu=>hu)⟩⟩
   · have him:m≤i:=by
      rcases Nat.lt_or_ge i m with h | h
      · have h1:=hT i h
        rw [hsi] at h1
        cases h1
      · exact h
     have him2:i=m:=by
      rcases Nat.lt_or_ge m i with h | h
      · have h1:=reach_done hC 12 i (i - 1) o ho haf (ht2 i his (by omega))
        rw [hF (i - 1) (by omega) (by omega)] at h1
        cases h1
      · omega
     exact go m hLm (by omega) him2 hT hF hW
 · refine ⟨⟨by simp,fun i o h=>?_⟩,.inl ⟨fun i _ hi=>?_,fun _ _=>rfl,fun _=>⟨⟨rfl,rfl,rfl,Nat.le_refl _,fun _ _=>rfl⟩,rfl,rfl,fun _ _=>rfl,fun i o t h _ _=>?_⟩,⟨⟨rfl,rfl,rfl,Nat.le_refl _,fun _ _=>rfl⟩,rfl,rfl,fun _ _=>rfl,fun i o t h _ _=>?_⟩⟩⟩
   · rw [Array.getElem?_replicate] at h
     split at h <;> simp at h
   · rw [Array.getElem?_replicate,if_pos hi]
   · rw [Array.getElem?_replicate] at h
     split at h <;> simp at h
   · rw [Array.getElem?_replicate] at h
     split at h <;> simp at h
end
end Go.Proofs.YthenjegmigeieaaGreat
