/- Own texts, one behind the other (part 10). -/
import Derived.Test.YthenjegmigeieaaGreatBundleI
import Derived.Test.YthenjegmigeieaaGreatRows
import Derived.Laws.AppendOwnNone
set_option maxRecDepth 100000
set_option maxHeartbeats 8000000
namespace Go.Proofs.YthenjegmigeieaaGreat
open Go.RowKit
namespace Ru
structure WayOk (m:Nat) (y:Way):Prop where
 wf:Wf m y
 nm:∀ n,n∈y.nums→Sc.isNum n=true
theorem reckR_drop {body:List Sc.Lit} {k:Nat} (hk:k<body.length) (y:Way):reckR (body.drop k) y=match reck1 y (Sc.litD body k) with | none=>none | some y'=>reckR (body.drop (k+1)) y':=by
 have:body.drop k=Sc.litD body k::body.drop (k+1):=by
  rw [List.drop_eq_getElem_cons hk]
  unfold Sc.litD
  rw [List.getD_eq_getElem?_getD,List.getElem?_eq_getElem hk]
  rfl
 rw [this]
 rfl
theorem mem_set_or {l:List Int} {i:Nat} {v n:Int} (h:n∈l.set i v):n∈l∨n=v:=List.mem_or_eq_of_mem_set h
theorem reck1_skip {y:Way} {l:Sc.Lit} (h:¬ (l.kind=4∧(l.terms.take 2).all (Sc.known y.known)=true∧¬ (l.terms.drop 2).all (Sc.known y.known)=true)):reck1 y l=some y:=by unfold reck1; rw [if_neg h]
theorem reck1_none {y:Way} {l:Sc.Lit} (h:l.kind=4∧(l.terms.take 2).all (Sc.known y.known)=true∧¬ (l.terms.drop 2).all (Sc.known y.known)=true) (hn:Sc.isNum (calc3 l y.nums)=false):reck1 y l=none:=by unfold reck1; rw [if_pos h,if_neg (by rw [hn]; simp)]
theorem reck1_some {y:Way} {l:Sc.Lit} (h:l.kind=4∧(l.terms.take 2).all (Sc.known y.known)=true∧¬ (l.terms.drop 2).all (Sc.known y.known)=true) (hn:Sc.isNum (calc3 l y.nums)=true):reck1 y l=some ⟨y.nums.set (Sc.termD l.terms 2).var.toNat (calc3 l y.nums),y.known.set (Sc.termD l.terms 2).var.toNat true⟩:=by unfold reck1; rw [if_pos h,if_pos hn]
theorem fill_take2 {l:List Sc.Term} (h:l.length=3) (x:List Int):fill (l.take 2) x=[num x (Sc.termD l 0),num x (Sc.termD l 1)]:=by
 match l,h with
 | [a,b,c],_=>rfl
theorem unknown_var {K:List Bool} {t:Sc.Term} {m:Nat} (h:Sc.known K t=false) (ht:TermIn m t):∃ v:Nat,t.var=v∧v<m:=by
 unfold Sc.known at h
 rw [Bool.or_eq_false_iff] at h
 have h0:=of_decide_eq_false h.1
 refine ⟨t.var.toNat,by omega,?_⟩
 rcases ht with h1 | h1
 · omega
 · exact h1
end Ru
def FindB (w:World) (FB:Nat) (vt vb vf vo:Value) (r:Sc.Rule) (many:Bool):Prop:=w.heap[FB]?=some (.cells #[.int .i64 r.pred,vt,.int .i64 r.fold,vb,.int .i64 r.vars,vf,vo,.bool many] 100)
structure Rows2 (B:Nat) (w:World) (vn vs:Value) (m:Nat) (y:Ru.Way):Prop where
 n:w.ownsRow B 3 1 vn m (y.nums.map (Value.int .i64))
 s:w.ownsRow B 4 1 vs m (y.known.map Value.bool)
 ok:Ru.WayOk m y
theorem Rows2.below {B:Nat} {w w':World} {vn vs:Value} {m:Nat} {y:Ru.Way} (h:Rows2 B w vn vs m y) (hb:Below w.heap.size w w'):Rows2 B w' vn vs m y:=⟨ownsRow_below h.n hb,ownsRow_below h.s hb,h.ok⟩
theorem Rows2.ints {B:Nat} {w:World} {vn vs:Value} {m:Nat} {y:Ru.Way} (h:Rows2 B w vn vs m y):IntsV w vn y.nums:=own_ints (by rw [h.ok.wf.n]; exact h.n)
theorem own_bools {W:World} {B:Nat} {v:Value} {l:List Bool} (h:W.ownsRow B 4 1 v l.length (l.map Value.bool)):BoolsV W v l:=by
 rcases id h.2 with ⟨hv,h0⟩ | ⟨g,cap,cur,hv,_,_,hc,_⟩
 · exact ⟨none,0,by rw [hv,h0],⟨by omega,fun _=>rfl⟩,.inl (List.eq_nil_of_length_eq_zero h0)⟩
 · refine ⟨some ⟨g,0,none⟩,cap,hv,⟨hc,fun h=>by cases h⟩,.inr ⟨g,0,rfl,fun i hi=>?_⟩⟩
   subst hv
   rw [Nat.zero_add,World.ownsRow.cellAt h i (by omega),List.getElem?_map,List.getElem?_eq_getElem hi]
   unfold Rl.boolD
   rw [List.getD_eq_getElem?_getD,List.getElem?_eq_getElem hi]
   rfl
theorem Rows2.bools {B:Nat} {w:World} {vn vs:Value} {m:Nat} {y:Ru.Way} (h:Rows2 B w vn vs m y):BoolsV w vs y.known:=own_bools (by rw [h.ok.wf.k]; exact h.s)
theorem Rows2.forms {B:Nat} {w:World} {vn vs:Value} {m:Nat} {y:Ru.Way} (h:Rows2 B w vn vs m y) (hm:0<m):∃ NB SB cN cS,vn=.slice (some ⟨NB,0,none⟩) m cN∧vs=.slice (some ⟨SB,0,none⟩) m cS∧B≤NB∧B≤SB∧¬ SB=NB:=by
 rcases id h.n.2 with ⟨_,h0⟩ | ⟨g,cap,cur,hv,hb,hg,_⟩
 · omega
 · rcases id h.s.2 with ⟨_,h0⟩ | ⟨g2,cap2,cur2,hv2,hb2,hg2,_⟩
   · omega
   · refine ⟨g,g2,cap,cap2,hv,hv2,hb,hb2,fun e=>?_⟩
     rw [e,hg] at hg2
     injection hg2 with hg2
     injection hg2 with _ hg2
     cases hg2
theorem Rows2.put {B:Nat} {w:World} {m NB SB cN cS:Nat} {y:Ru.Way} (h:Rows2 B w (.slice (some ⟨NB,0,none⟩) m cN) (.slice (some ⟨SB,0,none⟩) m cS) m y) (hne:¬ SB=NB) (v:Nat) (x:Int) (hx:Sc.isNum x=true) :
 Rows2 B ((w.setCell ⟨NB,v,none⟩ (.int .i64 x)).setCell ⟨SB,v,none⟩ (.bool true)) (.slice (some ⟨NB,0,none⟩) m cN) (.slice (some ⟨SB,0,none⟩) m cS) m ⟨y.nums.set v x,y.known.set v true⟩:=by
 have hn:=(World.ownsRow.stored h.n v (.int .i64 x)).1
 have hs:(w.setCell ⟨NB,v,none⟩ (.int .i64 x)).ownsRow B 4 1 (.slice (some ⟨SB,0,none⟩) m cS) m (y.known.map Value.bool):=rl_own_alone h.s (fun g hg=>heap_set_other (fun e=>hne (by have:SB=g:=(by simpa [Value.ownBlock] using hg); omega)))
 have hs2:=(World.ownsRow.stored hs v (.bool true)).1
 refine ⟨?_,?_,⟨by simpa using h.ok.wf.n,by simpa using h.ok.wf.k⟩,fun n hn'=>?_⟩
 · refine rl_own_alone (w:=w.setCell ⟨NB,v,none⟩ (.int .i64 x)) ?_ (fun g hg=>heap_set_other (fun e=>hne (by have:NB=g:=(by simpa [Value.ownBlock] using hg); omega)))
   rw [List.map_set]
   exact hn
 · rw [List.map_set]
   exact hs2
 · rcases Ru.mem_set_or hn' with h1 | h1
   · exact h.ok.nm n h1
   · rw [h1]; exact hx
theorem pterms_take2 {w:World} {b off ct:Nat} {l:List Sc.Term} (h3:l.length=3) (hc:3≤ct) (h:∀ i,i<l.length→PTermIn w b (off+i * 2) (Sc.termD l i)):PTermsV w (.slice (some ⟨b,off,none⟩) 2 ct) (l.take 2)∧PTermsV w (.slice (some ⟨b,off+4,none⟩) 1 (ct - 2)) (l.drop 2):=by
 match l,h3 with
 | [t0,t1,t2],_ =>
  refine ⟨⟨_,_,rfl,by show 2≤ct; omega,.inr ⟨b,off,rfl,fun i hi=>?_⟩⟩,⟨_,_,rfl,by show 1≤ct - 2; omega,.inr ⟨b,off+4,rfl,fun i hi=>?_⟩⟩⟩
  · match i,hi with
    | 0,_=>exact h 0 (by simp)
    | 1,_=>exact h 1 (by simp)
  · match i,hi with
    | 0,_=>exact h 2 (by simp)
theorem Reckon_any (w0:World) (B m FB:Nat) (facts:List Rl.Fc) (r:Sc.Rule) (vt0 vb vf vo vn vs:Value) (many:Bool) (y0:Ru.Way) (w:World) (hB0:w0.heap.size≤B) (hFBB:FB<B) (hBw:B≤w.heap.size) (hw0:Below w0.heap.size w0 w) (hFB:FindB w FB vt0 vb vf vo r many) (hb:PLitsV w0 vb r.body) (hb4:r.body.length≤4) (hL:∀ l,l∈r.body→Ru.LitFine facts m l) (hm8:m≤8) (hR:Rows2 B w vn vs m y0) :
 Calls Tryz.prog 112 #[.pointer (some ⟨FB,0,none⟩),vn,vs] w fun e w'=>((Ru.reckN r.body (r.body.length+1) y0=none∧e=.returned (.bool false))∨∃ y',Ru.reckN r.body (r.body.length+1) y0=some y'∧e=.returned (.bool true)∧Rows2 B w' vn vs m y')∧Below B w w':=by
 obtain ⟨ab,cb,rfl,hBA⟩:=hb
 have HBA:Hid _:=hBA
 have HL:Hid _:=hL
 have HR:Hid _:=hR
 have HFB:Hid (FindB w FB vt0 (.slice ab r.body.length cb) vf vo r many):=hFB
 have HW0:Hid _:=hw0
 obtain ⟨an,cn,hvn⟩:=own_slice hR.n
 obtain ⟨as_,cs,hvs⟩:=own_slice hR.s
 subst hvn hvs
 clear hBA hL hR hFB hw0
 have hKB:∀ {z:World},Below B w z→Below w0.heap.size w0 z:=fun hz=>HW0.out.trans (hz.mono hB0)
 have HKB:Hid (∀ {z:World},Below B w z→Below w0.heap.size w0 z):=hKB
 clear hKB
 go_enter Tryz.func112,Tryz.ntmps112
 go_wp2_with fail
 go_loopw [7] (fun av wr=>∃ (a:Nat) (y:Ru.Way),a≤r.body.length+1∧av=.int .i64 a∧Hid (Ru.reckN r.body (r.body.length+1) y0=Ru.reckN r.body (r.body.length+1 - a) y)∧Hid (Rows2 B wr (.slice an m cn) (.slice as_ m cs) m y)∧Hid (Below B w wr)) (fun av _=>r.body.length+1 - (intOf av).toNat)
 case atStart=>exact ⟨0,y0,Nat.zero_le _,rfl,rfl,HR.out,Below.refl _ _⟩
 case round =>
  obtain ⟨a,ya,ha,rfl,HRN,HRY,HBW⟩:=hrel
  have hFBr:wr.heap[FB]?=_:=(HBW.out.block FB hFBB).trans HFB.out
  have fb3:wr.cell? ⟨FB,3,none⟩=some (.slice ab r.body.length cb):=by rw [Lib.cell_of_heap hFBr]; rfl
  clear hFBr
  by_cases hal:a≤r.body.length
  · have HRN2:Hid (Ru.reckN r.body (r.body.length+1 - a) ya=match Ru.reckR r.body ya with | none=>none | some w'=>Ru.reckN r.body (r.body.length+1 - (a+1)) w'):=by
     show _=_
     rw [show r.body.length+1 - a=(r.body.length+1 - (a+1))+1 from by omega]
     rfl
    have gal:decide ((a:Int)≤(r.body.length:Int))=true:=decide_eq_true (by omega)
    go_wp2_with fail
    obtain ⟨wa0,hwa0⟩:∃ wa0,wa0=wr:=⟨_,rfl⟩
    subst hwa0
    go_loopw [8] (fun iv wr=>∃ (k:Nat) (y:Ru.Way),k≤r.body.length∧iv=.int .i64 k∧Hid (Ru.reckR r.body ya=Ru.reckR (r.body.drop k) y)∧Hid (Rows2 B wr (.slice an m cn) (.slice as_ m cs) m y)∧Hid (Below B w wr)) (fun iv _=>r.body.length - (intOf iv).toNat)
    case atStart=>exact ⟨0,ya,Nat.zero_le _,rfl,by show _=_; rw [List.drop_zero],HRY.out,HBW.out⟩
    case round =>
     clear HRY HBW fb3
     obtain ⟨k,y,hk,rfl,HRR,HRY,HBW⟩:=hrel
     have hFBr:wr.heap[FB]?=_:=(HBW.out.block FB hFBB).trans HFB.out
     have fb3:wr.cell? ⟨FB,3,none⟩=some (.slice ab r.body.length cb):=by rw [Lib.cell_of_heap hFBr]; rfl
     clear hFBr
     by_cases hlt:k<r.body.length
     · obtain ⟨b,off,rfl,q0,q1,q2,vt,q3,hT⟩:=plits_at HBA.out k hlt
       have HRD:Hid _:=Ru.reckR_drop hlt y
       have hfine:=HL.out _ (List.mem_of_getElem? (litD_take hlt))
       have p0:=cell_below (HKB.out HBW.out) q0
       have p1:=cell_below (HKB.out HBW.out) q1
       have p2:=cell_below (HKB.out HBW.out) q2
       have p3:=cell_below (HKB.out HBW.out) q3
       obtain ⟨at_,ct,rfl,hct,hTA⟩:=hT
       have HTA:Hid _:=hTA
       clear q0 q1 q2 q3 hTA
       generalize Sc.litD r.body k=l at *
       have HFI:Hid _:=hfine
       clear hfine
       go_upto_region 8 with fail
       have hba:=new_below wr (.cells #[.int .i64 l.kind,.int .i64 l.op,.int .i64 l.pred,.slice at_ l.terms.length ct] 49)
       have HLB:Hid _:=heap_alloc_new wr (.cells #[.int .i64 l.kind,.int .i64 l.op,.int .i64 l.pred,.slice at_ l.terms.length ct] 49)
       have HRY1:Hid _:=HRY.out.below hba
       have HSZ1:Hid (B≤wr.heap.size):=Nat.le_trans hBw HBW.out.size
       have HBW1:Hid (Below B w (wr.alloc (.cells #[.int .i64 l.kind,.int .i64 l.op,.int .i64 l.pred,.slice at_ l.terms.length ct] 49))):=HBW.out.trans (hba.mono HSZ1.out)
       clear p0 p1 p2 p3 fb3 hba HRY HBW
       generalize hLBn:wr.heap.size=LB at *
       generalize wr.alloc (.cells #[.int .i64 l.kind,.int .i64 l.op,.int .i64 l.pred,.slice at_ l.terms.length ct] 49)=wa at *
       clear hLBn
       have d0:wa.cell? ⟨LB,0,none⟩=some (.int .i64 l.kind):=by rw [Lib.cell_of_heap HLB.out]; rfl
       have d3:wa.cell? ⟨LB,3,none⟩=some (.slice at_ l.terms.length ct):=by rw [Lib.cell_of_heap HLB.out]; rfl
       by_cases h4:l.kind=4
       · have h3:=HFI.out.i.k4 h4
         have HH4:Hid _:=h4
         have HH3:Hid _:=h3
         have g4:(l.kind != 4)=false:=by simpa using h4
         have hat:∃ tb toff,at_=some ⟨tb,toff,none⟩∧∀ i,i<l.terms.length→PTermIn w0 tb (toff+i * 2) (Sc.termD l.terms i):=by
          rcases HTA.out with h | h
          · rw [h] at h3; simp at h3
          · exact h
         obtain ⟨tb,toff,rfl,hTC⟩:=hat
         have hct3:3≤ct:=by omega
         obtain ⟨hT2,hT1⟩:=pterms_take2 h3 hct3 hTC
         have hv0:=hTC 2 (by omega)
         have HV0:Hid (w0.cell? ⟨tb,toff+4,none⟩=some (.int .i64 (Sc.termD l.terms 2).var)):=hv0.1
         have HT2:Hid _:=hT2
         have HT1:Hid _:=hT1
         have HA2:Hid _:=Ru.fill_take2 h3 y.nums
         have HIN:Hid (∀ i,i<3→Ru.TermIn m (Sc.termD l.terms i)):=fun i hi=>HFI.out.i.t _ (Ru.termD_mem (by omega))
         have HC3:Hid (Ru.calc3 l y.nums=Ru.reck l.op (Ru.num y.nums (Sc.termD l.terms 0)) (Ru.num y.nums (Sc.termD l.terms 1))):=rfl
         have HNM:Hid (∀ i,i<3→Sc.isNum (Ru.num y.nums (Sc.termD l.terms i))=true):=fun i hi=>Ru.num_fine (HIN.out i hi) (HFI.out.n _ (Ru.termD_mem (by omega))) HRY1.out.ok.wf.n HRY1.out.ok.nm
         have HRE1:Hid _:=isReady_any (l.terms.take 2) y.known _ _ wa (ptermsV_below HT2.out (HKB.out HBW1.out)) HRY1.out.bools (fun t ht=>by rw [HRY1.out.ok.wf.k]; exact HFI.out.i.t t (List.mem_of_mem_take ht)) (by rw [List.length_take]; omega)
         rw [h3] at d3
         obtain ⟨b1,Hb1⟩:∃ b1,Hid ((l.terms.take 2).all (Sc.known y.known)=b1):=⟨_,rfl⟩
         rw [Hb1.out] at HRE1
         clear h4 h3 hT2 hT1 hv0 hTC HTA hct
         have hg2:(2:Int)≤(ct:Int):=by omega
         go_wp2_with fail
         refine Calls.mono HRE1.out ?_
         rintro _ w2 ⟨rfl,hb2⟩
         have HSZ2:Hid (B≤w2.heap.size):=Nat.le_trans (Nat.le_trans hBw HBW1.out.size) hb2.size
         have HRY2:Hid _:=HRY1.out.below hb2
         have HBW2:Hid (Below B w w2):=HBW1.out.trans (hb2.mono (Nat.le_trans hBw HBW1.out.size))
         have HLB2:Hid _:=(hb2.block _ (heap_lt HLB.out)).trans HLB.out
         clear hb2 HRE1 HRY1 HBW1 HLB d0 d3
         have d3:w2.cell? ⟨LB,3,none⟩=some (.slice (some ⟨tb,toff,none⟩) 3 ct):=by rw [Lib.cell_of_heap HLB2.out]; show some (Value.slice _ l.terms.length ct)=_; rw [HH3.out]
         cases b1
         · have HNX:Hid (Ru.reckR r.body ya=Ru.reckR (r.body.drop (k+1)) y):=by show _=_; rw [HRR.out,HRD.out,Ru.reck1_skip (fun h=>by rw [Hb1.out] at h; exact absurd h.2.1 (by simp))]
           go_wp2_with fail
           go_roundw
           case rel=>exact ⟨k+1,y,hlt,by go_num,HNX.out,HRY2.out,HBW2.out⟩
           case measure=>simp [intOf]; omega
         · have HRE2:Hid _:=isReady_any (l.terms.drop 2) y.known _ _ w2 (ptermsV_below HT1.out (HKB.out HBW2.out)) HRY2.out.bools (fun t ht=>by rw [HRY2.out.ok.wf.k]; exact HFI.out.i.t t (List.mem_of_mem_drop ht)) (by rw [List.length_drop,HH3.out]; decide)
           obtain ⟨b2,Hb2⟩:∃ b2,Hid ((l.terms.drop 2).all (Sc.known y.known)=b2):=⟨_,rfl⟩
           rw [Hb2.out] at HRE2
           go_wp2_with fail
           refine Calls.mono HRE2.out ?_
           rintro _ w3 ⟨rfl,hb3⟩
           have HSZ3:Hid (B≤w3.heap.size):=Nat.le_trans HSZ2.out hb3.size
           have HRY3:Hid _:=HRY2.out.below hb3
           have HBW3:Hid (Below B w w3):=HBW2.out.trans (hb3.mono HSZ2.out)
           have HLB3:Hid _:=(hb3.block _ (heap_lt HLB2.out)).trans HLB2.out
           clear hb3 HRE2 HRY2 HBW2 HLB2 d3
           have d3:w3.cell? ⟨LB,3,none⟩=some (.slice (some ⟨tb,toff,none⟩) 3 ct):=by rw [Lib.cell_of_heap HLB3.out]; show some (Value.slice _ l.terms.length ct)=_; rw [HH3.out]
           cases b2
           · have HCON:Hid (l.kind=4∧(l.terms.take 2).all (Sc.known y.known)=true∧¬ (l.terms.drop 2).all (Sc.known y.known)=true):=⟨HH4.out,Hb1.out,by rw [Hb2.out]; simp⟩
             have HKV:Hid (Sc.known y.known (Sc.termD l.terms 2)=false):=by have:=Hb2.out; rw [Ru.drop2_all HH3.out] at this; exact this
             have HAR:Hid _:=ArgsOf_any (l.terms.take 2) y.nums _ _ w3 (ptermsV_below HT2.out (HKB.out HBW3.out)) HRY3.out.ints (by rw [List.length_take]; omega) (fun t ht=>by rw [HRY3.out.ok.wf.n]; exact HFI.out.i.t t (List.mem_of_mem_take ht))
             rw [HA2.out] at HAR
             have HN0:Hid _:=HNM.out 0 (by decide)
             have HN1:Hid _:=HNM.out 1 (by decide)
             go_wp2_with fail
             refine Calls.mono HAR.out ?_
             rintro _ w4 ⟨va,rfl,hrow,hb4⟩
             have HSZ4:Hid (B≤w4.heap.size):=Nat.le_trans HSZ3.out hb4.size
             have HRY4:Hid _:=HRY3.out.below hb4
             have HBW4:Hid (Below B w w4):=HBW3.out.trans (hb4.mono HSZ3.out)
             have HLB4:Hid _:=(hb4.block _ (heap_lt HLB3.out)).trans HLB3.out
             have hints:=hrow.ints
             obtain ⟨aa,ca,rfl,hIA⟩:=hints
             clear hb4 HAR HRY3 HBW3 HLB3 d3 hrow
             generalize Ru.num y.nums (Sc.termD l.terms 0)=n0 at *
             generalize Ru.num y.nums (Sc.termD l.terms 1)=n1 at *
             have hr:∃ b0 off0,aa=some ⟨b0,off0,none⟩∧w4.cell? ⟨b0,off0,none⟩=some (.int .i64 n0)∧w4.cell? ⟨b0,off0+1,none⟩=some (.int .i64 n1):=by
              rcases hIA with h | ⟨b0,off0,h1,h2⟩
              · cases h
              · exact ⟨b0,off0,h1,h2 0 (Nat.succ_pos _),h2 1 (Nat.succ_lt_succ (Nat.succ_pos _))⟩
             obtain ⟨b0,off0,rfl,r0,r1⟩:=hr
             clear hIA
             have d1:w4.cell? ⟨LB,1,none⟩=some (.int .i64 l.op):=by rw [Lib.cell_of_heap HLB4.out]; rfl
             have HQ:Hid (∀ z:World,Calls Tryz.prog 67 #[.int .i64 l.op,.int .i64 n0,.int .i64 n1] z fun e w'=>e=.returned (.int .i64 (Ru.reck l.op n0 n1))∧∃ n,w'=z.drewN n):=fun z=>(CalcOf_any l.op n0 n1 z (Ru.between_iff.mp HN0.out) (Ru.between_iff.mp HN1.out)).mono fun _ _ h=>⟨h.1,0,h.2⟩
             go_upto_region 10 with fail
             go_quiet (first | (go_at_call 67; exact Calls.quiet_of (HQ.out _)))
             have hbd:=blw_drewN w4 nq
             have HSZ5:Hid (B≤(w4.drewN nq).heap.size):=Nat.le_trans HSZ4.out hbd.size
             have HRY5:Hid _:=HRY4.out.below hbd
             have HBW5:Hid (Below B w (w4.drewN nq)):=HBW4.out.trans (hbd.mono HSZ4.out)
             have HLB5:Hid _:=(hbd.block _ (heap_lt HLB4.out)).trans HLB4.out
             clear hbd r0 r1 d1 HRY4 HBW4 HLB4 HQ
             obtain ⟨v,hv,hvm⟩:=Ru.unknown_var HKV.out (HIN.out 2 (by decide))
             have HST0:Hid (Sc.isNum (Ru.calc3 l y.nums)=false→Ru.reck1 y l=none):=fun h=>Ru.reck1_none HCON.out h
             have HST1:Hid (Sc.isNum (Ru.calc3 l y.nums)=true→Ru.reck1 y l=some ⟨y.nums.set v (Ru.calc3 l y.nums),y.known.set v true⟩):=fun h=>by
              have:=Ru.reck1_some HCON.out h
              rw [hv,Int.toNat_natCast] at this
              exact this
             rw [hv] at HV0
             rw [← HC3.out]
             clear hv
             generalize Ru.calc3 l y.nums=x at *
             generalize w4.drewN nq=w5 at *
             have HNU:Hid _:=refNum_any x w5
             go_wp2_with fail
             refine Calls.mono HNU.out ?_
             rintro _ w6 ⟨rfl,rfl⟩
             cases hn:Sc.isNum x
             · have HEN:Hid (Ru.reckN r.body (r.body.length+1) y0=none):=by show _=_; rw [HRN.out,HRN2.out,HRR.out,HRD.out,HST0.out hn]
               go_wp2_with fail
               go_ret
               exact ⟨.inl ⟨HEN.out,rfl⟩,HBW5.out⟩
             · have HNX:Hid (Ru.reckR r.body ya=Ru.reckR (r.body.drop (k+1)) ⟨y.nums.set v x,y.known.set v true⟩):=by show _=_; rw [HRR.out,HRD.out,HST1.out hn]
               obtain ⟨NB,SB,cN,cS,e1,e2,hNB,hSB,hne⟩:=HRY5.out.forms (by omega)
               injection e1 with e1 _ e3
               injection e2 with e2 _ e4
               subst e1 e2 e3 e4
               have HRY5':Hid (Rows2 B w6 (.slice (some ⟨NB,0,none⟩) m cn) (.slice (some ⟨SB,0,none⟩) m cs) m y):=HRY5.out
               have hnl:=HRY5'.out.ok.wf.n
               have hkl:=HRY5'.out.ok.wf.k
               have cN:w6.cell? ⟨NB,v,none⟩=some (.int .i64 (y.nums.getD v 0)):=by
                rw [World.ownsRow.cellAt HRY5'.out.n v (by omega),List.getElem?_map,List.getElem?_eq_getElem (by omega),List.getD_eq_getElem?_getD,List.getElem?_eq_getElem (by omega)]
                rfl
               have fN:w6.frozen? ⟨NB,v,none⟩=false:=World.ownsRow.frozenAt HRY5'.out.n v
               have HLNB:Hid (¬ LB=NB):=fun e=>by
                have h9:=HLB5.out
                rw [e] at h9
                have:=own_ty HRY5'.out.n rfl h9
                cases this
               have HLSB:Hid (¬ LB=SB):=fun e=>by
                have h9:=HLB5.out
                rw [e] at h9
                have:=own_ty HRY5'.out.s rfl h9
                cases this
               have HPUT:Hid _:=HRY5'.out.put hne v x hn
               have d3:w6.cell? ⟨LB,3,none⟩=some (.slice (some ⟨tb,toff,none⟩) 3 ct):=by rw [Lib.cell_of_heap HLB5.out]; show some (Value.slice _ l.terms.length ct)=_; rw [HH3.out]
               have tv:=cell_below (HKB.out HBW5.out) HV0.out
               have HBW6:Hid (Below B w (w6.setCell ⟨NB,v,none⟩ (.int .i64 x))):=HBW5.out.setCell (p:=⟨NB,v,none⟩) hNB _
               have HBW7:Hid (Below B w ((w6.setCell ⟨NB,v,none⟩ (.int .i64 x)).setCell ⟨SB,v,none⟩ (.bool true))):=HBW6.out.setCell (p:=⟨SB,v,none⟩) hSB _
               have HD6:Hid ((w6.setCell ⟨NB,v,none⟩ (.int .i64 x)).cell? ⟨LB,3,none⟩=some (.slice (some ⟨tb,toff,none⟩) 3 ct)):=by show _=_; rw [World.cell?_of_block (a:=⟨LB,3,none⟩) (heap_set_other HLNB.out)]; exact d3
               have HT6:Hid _:=cell_below (HKB.out HBW6.out) HV0.out
               have HC6:Hid ((w6.setCell ⟨NB,v,none⟩ (.int .i64 x)).cell? ⟨SB,v,none⟩=some (.bool (y.known.getD v false))∧(w6.setCell ⟨NB,v,none⟩ (.int .i64 x)).frozen? ⟨SB,v,none⟩=false):=by
                have hs6:(w6.setCell ⟨NB,v,none⟩ (.int .i64 x)).ownsRow B 4 1 (.slice (some ⟨SB,0,none⟩) m cs) m (y.known.map Value.bool):=rl_own_alone HRY5'.out.s (fun g hg=>heap_set_other (fun e=>hne (by have:SB=g:=(by simpa [Value.ownBlock] using hg); omega)))
                refine ⟨?_,World.ownsRow.frozenAt hs6 v⟩
                rw [World.ownsRow.cellAt hs6 v (by omega),List.getElem?_map,List.getElem?_eq_getElem (by omega),List.getD_eq_getElem?_getD,List.getElem?_eq_getElem (by omega)]
                rfl
               clear hnl hkl
               generalize y.nums.getD v 0=nv at *
               generalize y.known.getD v false=kv at *
               go_upto_region 14 with fail
               generalize w6.setCell ⟨NB,v,none⟩ (.int .i64 x)=w7 at *
               have d37:=HD6.out
               have tv7:=HT6.out
               obtain ⟨cS7,fS7⟩:=HC6.out
               clear d3 tv cN fN
               go_wp2_with fail
               go_roundw
               case rel=>exact ⟨k+1,_,hlt,by go_num,HNX.out,HPUT.out,HBW7.out⟩
               case measure=>simp [intOf]; omega
           · have HNX:Hid (Ru.reckR r.body ya=Ru.reckR (r.body.drop (k+1)) y):=by show _=_; rw [HRR.out,HRD.out,Ru.reck1_skip (fun h=>h.2.2 Hb2.out)]
             go_wp2_with fail
             go_roundw
             case rel=>exact ⟨k+1,y,hlt,by go_num,HNX.out,HRY3.out,HBW3.out⟩
             case measure=>simp [intOf]; omega
       · have g4:(l.kind != 4)=true:=by simpa using h4
         have HNX:Hid (Ru.reckR r.body ya=Ru.reckR (r.body.drop (k+1)) y):=by show _=_; rw [HRR.out,HRD.out,Ru.reck1_skip (fun h=>h4 h.1)]
         clear h4
         go_wp2_with fail
         go_roundw
         case rel=>exact ⟨k+1,y,hlt,by go_num,HNX.out,HRY1.out,HBW1.out⟩
         case measure=>simp [intOf]; omega
     · have hdd:decide (k<r.body.length)=false:=decide_eq_false hlt
       have HNX:Hid (Ru.reckN r.body (r.body.length+1) y0=Ru.reckN r.body (r.body.length+1 - (a+1)) y):=by
        show _=_
        rw [HRN.out,HRN2.out,HRR.out,List.drop_of_length_le (by omega)]
        rfl
       go_wp2_with fail
       go_roundw
       case rel=>exact ⟨a+1,y,by omega,by go_num,HNX.out,HRY.out,HBW.out⟩
       case measure=>simp [intOf]; omega
  · have gal:decide ((a:Int)≤(r.body.length:Int))=false:=decide_eq_false (by omega)
    have HE:Hid (Ru.reckN r.body (r.body.length+1) y0=some ya):=by show _=_; rw [HRN.out,show r.body.length+1 - a=0 from by omega]; rfl
    go_wp2_with fail
    go_ret
    exact ⟨.inr ⟨ya,HE.out,rfl,HRY.out⟩,HBW.out⟩
def wrong5TvT (LB FB:Nat) (VT VS VN VF:Value) (l:Sc.Lit) (hb:Bool):Nat→Value
 | 27=>.pointer (some ⟨LB,3,none⟩)
 | 28=>VT
 | 29=>VS
 | 30=>.bool true
 | 31=>.bool true
 | 32=>plitVal l VT
 | 33=>VN
 | 34=>.pointer (some ⟨FB,0,none⟩)
 | 35=>.pointer (some ⟨FB,0,none⟩)
 | 36=>.pointer (some ⟨FB,5,none⟩)
 | 37=>VF
 | 38=>.bool hb
 | 39=>.bool (!hb)
 | 40=>.bool (!hb)
 | _=>.bool false
def wrong5TvF (LB:Nat) (VT VS:Value):Nat→Value
 | 27=>.pointer (some ⟨LB,3,none⟩)
 | 28=>VT
 | 29=>VS
 | 30=>.bool false
 | 31=>.bool false
 | 32=>undef
 | 33=>undef
 | 34=>undef
 | 35=>undef
 | 36=>undef
 | 37=>undef
 | 38=>undef
 | 39=>undef
 | 40=>.bool false
 | _=>.bool false
theorem Wrong_any (m FB:Nat) (facts:List Rl.Fc) (r:Sc.Rule) (vt0 vb vf vo vn vs:Value) (many:Bool) (y:Ru.Way) (w:World) (hFB:FindB w FB vt0 vb vf vo r many) (hb:PLitsV w vb r.body) (hF:FactsV w vf facts) (hFl:facts.length≤1000000) (hFF:∀ f,f∈facts→FFit f) (hb4:r.body.length≤4) (hL:∀ l,l∈r.body→Ru.LitFine facts m l) (hN:IntsV w vn y.nums) (hS:BoolsV w vs y.known) (hY:Ru.WayOk m y) :
 Calls Tryz.prog 113 #[.pointer (some ⟨FB,0,none⟩),vn,vs] w fun e w'=>e=.returned (.bool (Ru.wrong facts r.body y))∧Below w.heap.size w w':=by
 obtain ⟨ab,cb,rfl,hBA⟩:=hb
 obtain ⟨af,cf,rfl,_⟩:=id hF
 obtain ⟨an,cn,rfl,_⟩:=id hN
 obtain ⟨as_,cs,rfl,_⟩:=id hS
 have HBA:Hid _:=hBA
 have HL:Hid _:=hL
 have HF:Hid (FactsV w (.slice af facts.length cf) facts∧facts.length≤1000000∧∀ f,f∈facts→FFit f):=⟨hF,hFl,hFF⟩
 have HN:Hid (IntsV w (.slice an y.nums.length cn) y.nums):=hN
 have HS:Hid (BoolsV w (.slice as_ y.known.length cs) y.known):=hS
 have HY:Hid _:=hY
 have f3w:w.cell? ⟨FB,3,none⟩=some (.slice ab r.body.length cb):=by rw [Lib.cell_of_heap hFB]; rfl
 have f5w:w.cell? ⟨FB,5,none⟩=some (.slice af facts.length cf):=by rw [Lib.cell_of_heap hFB]; rfl
 clear hBA hL hF hFF hN hS hFB hFl hY
 go_enter Tryz.func113,Tryz.ntmps113
 go_wp2_with fail
 go_loopw [7] (fun iv wr=>∃ k:Nat,k≤r.body.length∧iv=.int .i64 k∧Hid ((r.body.take k).any (fun l=>l.terms.all (Sc.known y.known) && !Ru.holds facts l y.nums)=false)∧Hid (Below w.heap.size w wr)) (fun iv _=>r.body.length - (intOf iv).toNat)
 case atStart=>exact ⟨0,Nat.zero_le _,rfl,rfl,Below.refl _ _⟩
 case round =>
  obtain ⟨k,hk,rfl,HK,HB2⟩:=hrel
  have f3:=cell_below HB2.out f3w
  by_cases hlt:k<r.body.length
  · obtain ⟨b,off,rfl,q0,q1,q2,vt,q3,hT⟩:=plits_at HBA.out k hlt
    have HLM:Hid (Sc.litD r.body k∈r.body):=List.mem_of_getElem? (litD_take hlt)
    have HLG:Hid _:=litD_take hlt
    have p0:=cell_below HB2.out q0
    have p1:=cell_below HB2.out q1
    have p2:=cell_below HB2.out q2
    have p3:=cell_below HB2.out q3
    have HT:Hid _:=hT
    obtain ⟨at_,ct,rfl,_⟩:=id hT
    have HFI:Hid _:=HL.out _ HLM.out
    clear q0 q1 q2 q3 hT
    generalize Sc.litD r.body k=l at *
    go_upto_region 5 with fail
    have hba:=new_below wr (.cells #[.int .i64 l.kind,.int .i64 l.op,.int .i64 l.pred,.slice at_ l.terms.length ct] 49)
    have HLB:Hid _:=heap_alloc_new wr (.cells #[.int .i64 l.kind,.int .i64 l.op,.int .i64 l.pred,.slice at_ l.terms.length ct] 49)
    have HB3:Hid (Below w.heap.size w (wr.alloc (.cells #[.int .i64 l.kind,.int .i64 l.op,.int .i64 l.pred,.slice at_ l.terms.length ct] 49))):=HB2.out.trans (hba.mono HB2.out.size)
    clear p0 p1 p2 p3 f3 hba HB2
    generalize hLBn:wr.heap.size=LB at *
    generalize wr.alloc (.cells #[.int .i64 l.kind,.int .i64 l.op,.int .i64 l.pred,.slice at_ l.terms.length ct] 49)=wa at *
    clear hLBn
    have d0:wa.cell? ⟨LB,0,none⟩=some (.int .i64 l.kind):=by rw [Lib.cell_of_heap HLB.out]; rfl
    have d1:wa.cell? ⟨LB,1,none⟩=some (.int .i64 l.op):=by rw [Lib.cell_of_heap HLB.out]; rfl
    have d2:wa.cell? ⟨LB,2,none⟩=some (.int .i64 l.pred):=by rw [Lib.cell_of_heap HLB.out]; rfl
    have d3:wa.cell? ⟨LB,3,none⟩=some (.slice at_ l.terms.length ct):=by rw [Lib.cell_of_heap HLB.out]; rfl
    have f5:=cell_below HB3.out f5w
    have HRE:Hid (∀ y_,Below wa.heap.size wa y_→Calls Tryz.prog 167 #[.slice at_ l.terms.length ct,.slice as_ y.known.length cs] y_ fun e w'=>e=.returned (.bool (l.terms.all (Sc.known y.known)))∧Below y_.heap.size y_ w'):=fun y_ hb=>by
     have hb':Below w.heap.size w y_:=HB3.out.trans (hb.mono HB3.out.size)
     exact isReady_any l.terms y.known _ _ y_ (ptermsV_below HT.out hb') (boolsV_below HS.out hb') (by rw [HY.out.wf.k]; exact HFI.out.i.t) (by have:=HFI.out.s; omega)
    have HLH:Hid (∀ y_,Below wa.heap.size wa y_→Calls Tryz.prog 24 #[plitVal l (.slice at_ l.terms.length ct),.slice an y.nums.length cn,.slice af facts.length cf] y_ fun e w'=>e=.returned (.bool (Ru.holds facts l y.nums))∧Below y_.heap.size y_ w'):=fun y_ hb=>by
     have hb':Below w.heap.size w y_:=HB3.out.trans (hb.mono HB3.out.size)
     exact LitHolds_fine facts l y.nums _ _ _ y_ (ptermsV_below HT.out hb') (intsV_below HN.out hb') (factsV_below HF.out.1 hb') HF.out.2.1 HF.out.2.2 HY.out.wf.n HFI.out HY.out.nm
    obtain ⟨hb,HHB⟩:∃ hb,Hid (Ru.holds facts l y.nums=hb):=⟨_,rfl⟩
    rw [HHB.out] at HLH
    cases hb1:l.terms.all (Sc.known y.known)
    · have HB1:Hid _:=hb1
      rw [hb1] at HRE
      clear hb1 HLH
      refine wp_region_tabA (fun tQ vQ _=>vQ=wrong5TvF LB (.slice at_ l.terms.length ct) (.slice as_ y.known.length cs) tQ) (by kernel_rfl) (by kernel_rfl) (fun _ _ _ _ _ h=>h) ?hop ?hend
      case hop =>
       refine AllOps.cons (fun a y_ h=>?_) ?_
       · have e8:a.eval (.tmp 8)=(.pointer (some ⟨LB,0,none⟩):Value):=h.old 8 (by kernel_rfl)
         refine opOk_val (v:=.pointer (some ⟨LB,3,none⟩)) (w':=y_) (wanted_none rfl) ?_ (fun t ht=>by cases ht; exact rfl) (Below.refl _ _)
         have ec:=evc a
         generalize a.eval=ev at *
         clear h
         go_simp
       refine AllOps.cons (fun a y_ h=>?_) ?_
       · have e27:a.eval (.tmp 27)=(.pointer (some ⟨LB,3,none⟩):Value):=h.of 27 (by kernel_rfl)
         have c3:=cell_below h.below d3
         refine opOk_val (v:=.slice at_ l.terms.length ct) (w':=y_) (wanted_none rfl) ?_ (fun t ht=>by cases ht; exact rfl) (Below.refl _ _)
         have ec:=evc a
         generalize a.eval=ev at *
         clear h
         go_simp
       refine AllOps.cons (fun a y_ h=>?_) ?_
       · have e2:a.eval (.tmp 2)=(.slice as_ y.known.length cs:Value):=h.old 2 (by kernel_rfl)
         refine opOk_val (v:=.slice as_ y.known.length cs) (w':=y_) (wanted_none rfl) ?_ (fun t ht=>by cases ht; exact rfl) (Below.refl _ _)
         have ec:=evc a
         generalize a.eval=ev at *
         clear h
         go_simp
       refine AllOps.cons (fun a y_ h=>?_) ?_
       · have e28:a.eval (.tmp 28)=(.slice at_ l.terms.length ct:Value):=h.of 28 (by kernel_rfl)
         have e29:a.eval (.tmp 29)=(.slice as_ y.known.length cs:Value):=h.of 29 (by kernel_rfl)
         refine opOk_call (f:=167) (args:=#[.slice at_ l.terms.length ct,.slice as_ y.known.length cs]) (wanted_none rfl) ?_ ?_
         · have ec:=evc a
           have ef:=evf a
           generalize a.eval=ev at *
           clear h
           go_simp
         · refine Calls.mono (HRE.out y_ h.below) ?_
           rintro _ y2 ⟨rfl,hb2⟩
           exact ⟨_,rfl,fun t ht=>by cases ht; exact rfl,hb2⟩
       refine AllOps.cons (fun a y_ h=>?_) ?_
       · have e30:a.eval (.tmp 30)=(.bool false:Value):=h.of 30 (by kernel_rfl)
         refine opOk_val (v:=.bool false) (w':=y_) (wanted_none rfl) ?_ (fun t ht=>by cases ht; exact rfl) (Below.refl _ _)
         have ec:=evc a
         generalize a.eval=ev at *
         clear h
         go_simp
       refine AllOps.cons (fun a y_ h=>?_) ?_
       · exact opOk_skip (j:=4) (t:=31) (b:=true) (c:=false) rfl rfl rfl (h.of 31 (by kernel_rfl)) (by decide) (fun t ht=>by cases ht; exact rfl)
       refine AllOps.cons (fun a y_ h=>?_) ?_
       · exact opOk_skip (j:=4) (t:=31) (b:=true) (c:=false) rfl rfl rfl (h.of 31 (by kernel_rfl)) (by decide) (fun t ht=>by cases ht; exact rfl)
       refine AllOps.cons (fun a y_ h=>?_) ?_
       · exact opOk_skip (j:=4) (t:=31) (b:=true) (c:=false) rfl rfl rfl (h.of 31 (by kernel_rfl)) (by decide) (fun t ht=>by cases ht; exact rfl)
       refine AllOps.cons (fun a y_ h=>?_) ?_
       · exact opOk_skip (j:=4) (t:=31) (b:=true) (c:=false) rfl rfl rfl (h.of 31 (by kernel_rfl)) (by decide) (fun t ht=>by cases ht; exact rfl)
       refine AllOps.cons (fun a y_ h=>?_) ?_
       · exact opOk_skip (j:=4) (t:=31) (b:=true) (c:=false) rfl rfl rfl (h.of 31 (by kernel_rfl)) (by decide) (fun t ht=>by cases ht; exact rfl)
       refine AllOps.cons (fun a y_ h=>?_) ?_
       · exact opOk_skip (j:=4) (t:=31) (b:=true) (c:=false) rfl rfl rfl (h.of 31 (by kernel_rfl)) (by decide) (fun t ht=>by cases ht; exact rfl)
       refine AllOps.cons (fun a y_ h=>?_) ?_
       · exact opOk_skip (j:=4) (t:=31) (b:=true) (c:=false) rfl rfl rfl (h.of 31 (by kernel_rfl)) (by decide) (fun t ht=>by cases ht; exact rfl)
       refine AllOps.cons (fun a y_ h=>?_) ?_
       · exact opOk_skip (j:=4) (t:=31) (b:=true) (c:=false) rfl rfl rfl (h.of 31 (by kernel_rfl)) (by decide) (fun t ht=>by cases ht; exact rfl)
       refine AllOps.cons (fun a y_ h=>?_) ?_
       · have e31:a.eval (.tmp 31)=(.bool false:Value):=h.of 31 (by kernel_rfl)
         have e39:a.eval (.tmp 39)=(undef:Value):=h.of 39 (by kernel_rfl)
         refine opOk_val (v:=.bool false) (w':=y_) (wanted_none rfl) ?_ (fun t ht=>by cases ht; exact rfl) (Below.refl _ _)
         have ec:=evc a
         generalize a.eval=ev at *
         clear h
         go_simp
       exact AllOps.nil
      case hend =>
       rintro ⟨tm,df⟩ wE hbE hdE hsE hstE hTE
       have h40:tm.getD 40 undef=.bool false:=ends_at (T:=fun tQ vQ _=>vQ=wrong5TvF LB (.slice at_ l.terms.length ct) (.slice as_ y.known.length cs) tQ) (w:=wE) (a:=⟨tm,df⟩) (t:=40) hTE (by kernel_rfl)
       obtain rfl:df=[]:=hdE
       have hFE:=tmps_fold [27,28,29,30,31,32,33,34,35,36,37,38,39,40] tm _ hsE hstE
       clear hsE hstE hTE
       simp only [List.foldl_cons,List.foldl_nil,h40] at hFE
       clear h40
       generalize tm.getD 27 undef=x27 at hFE
       generalize tm.getD 28 undef=x28 at hFE
       generalize tm.getD 29 undef=x29 at hFE
       generalize tm.getD 30 undef=x30 at hFE
       generalize tm.getD 31 undef=x31 at hFE
       generalize tm.getD 32 undef=x32 at hFE
       generalize tm.getD 33 undef=x33 at hFE
       generalize tm.getD 34 undef=x34 at hFE
       generalize tm.getD 35 undef=x35 at hFE
       generalize tm.getD 36 undef=x36 at hFE
       generalize tm.getD 37 undef=x37 at hFE
       generalize tm.getD 38 undef=x38 at hFE
       generalize tm.getD 39 undef=x39 at hFE
       simp only [List.setIfInBounds_toArray,List.set_cons_zero,List.set_cons_succ] at hFE
       subst hFE
       have HK2:Hid ((r.body.take (k+1)).any (fun l=>l.terms.all (Sc.known y.known) && !Ru.holds facts l y.nums)=false):=by
        show _=_
        rw [List.take_add_one,List.any_append,HK.out,HLG.out]
        show (l.terms.all (Sc.known y.known) && !Ru.holds facts l y.nums || false)=false
        rw [HB1.out]
        rfl
       go_wp2_with fail
       go_roundw
       case rel=>exact ⟨k+1,hlt,by go_num,HK2.out,HB3.out.trans (hbE.mono HB3.out.size)⟩
       case measure=>simp [intOf]; omega
    · have HB1:Hid _:=hb1
      rw [hb1] at HRE
      clear hb1
      refine wp_region_tabA (fun tQ vQ _=>vQ=wrong5TvT LB FB (.slice at_ l.terms.length ct) (.slice as_ y.known.length cs) (.slice an y.nums.length cn) (.slice af facts.length cf) l hb tQ) (by kernel_rfl) (by kernel_rfl) (fun _ _ _ _ _ h=>h) ?hop ?hend
      case hop =>
       refine AllOps.cons (fun a y_ h=>?_) ?_
       · have e8:a.eval (.tmp 8)=(.pointer (some ⟨LB,0,none⟩):Value):=h.old 8 (by kernel_rfl)
         refine opOk_val (v:=.pointer (some ⟨LB,3,none⟩)) (w':=y_) (wanted_none rfl) ?_ (fun t ht=>by cases ht; exact rfl) (Below.refl _ _)
         have ec:=evc a
         generalize a.eval=ev at *
         clear h
         go_simp
       refine AllOps.cons (fun a y_ h=>?_) ?_
       · have e27:a.eval (.tmp 27)=(.pointer (some ⟨LB,3,none⟩):Value):=h.of 27 (by kernel_rfl)
         have c3:=cell_below h.below d3
         refine opOk_val (v:=.slice at_ l.terms.length ct) (w':=y_) (wanted_none rfl) ?_ (fun t ht=>by cases ht; exact rfl) (Below.refl _ _)
         have ec:=evc a
         generalize a.eval=ev at *
         clear h
         go_simp
       refine AllOps.cons (fun a y_ h=>?_) ?_
       · have e2:a.eval (.tmp 2)=(.slice as_ y.known.length cs:Value):=h.old 2 (by kernel_rfl)
         refine opOk_val (v:=.slice as_ y.known.length cs) (w':=y_) (wanted_none rfl) ?_ (fun t ht=>by cases ht; exact rfl) (Below.refl _ _)
         have ec:=evc a
         generalize a.eval=ev at *
         clear h
         go_simp
       refine AllOps.cons (fun a y_ h=>?_) ?_
       · have e28:a.eval (.tmp 28)=(.slice at_ l.terms.length ct:Value):=h.of 28 (by kernel_rfl)
         have e29:a.eval (.tmp 29)=(.slice as_ y.known.length cs:Value):=h.of 29 (by kernel_rfl)
         refine opOk_call (f:=167) (args:=#[.slice at_ l.terms.length ct,.slice as_ y.known.length cs]) (wanted_none rfl) ?_ ?_
         · have ec:=evc a
           have ef:=evf a
           generalize a.eval=ev at *
           clear h
           go_simp
         · refine Calls.mono (HRE.out y_ h.below) ?_
           rintro _ y2 ⟨rfl,hb2⟩
           exact ⟨_,rfl,fun t ht=>by cases ht; exact rfl,hb2⟩
       refine AllOps.cons (fun a y_ h=>?_) ?_
       · have e30:a.eval (.tmp 30)=(.bool true:Value):=h.of 30 (by kernel_rfl)
         refine opOk_val (v:=.bool true) (w':=y_) (wanted_none rfl) ?_ (fun t ht=>by cases ht; exact rfl) (Below.refl _ _)
         have ec:=evc a
         generalize a.eval=ev at *
         clear h
         go_simp
       refine AllOps.cons (fun a y_ h=>?_) ?_
       · have e8:a.eval (.tmp 8)=(.pointer (some ⟨LB,0,none⟩):Value):=h.old 8 (by kernel_rfl)
         have c0:=cell_below h.below d0
         have c1:=cell_below h.below d1
         have c2:=cell_below h.below d2
         have c3:=cell_below h.below d3
         refine opOk_val (v:=plitVal l (.slice at_ l.terms.length ct)) (w':=y_) (wanted_some (j:=4) (t:=31) (b:=true) rfl rfl rfl (h.of 31 (by kernel_rfl))) ?_ (fun t ht=>by cases ht; exact rfl) (Below.refl _ _)
         have ec:=evc a
         generalize a.eval=ev at *
         clear h
         go_simp
       refine AllOps.cons (fun a y_ h=>?_) ?_
       · have e1:a.eval (.tmp 1)=(.slice an y.nums.length cn:Value):=h.old 1 (by kernel_rfl)
         refine opOk_val (v:=.slice an y.nums.length cn) (w':=y_) (wanted_some (j:=4) (t:=31) (b:=true) rfl rfl rfl (h.of 31 (by kernel_rfl))) ?_ (fun t ht=>by cases ht; exact rfl) (Below.refl _ _)
         have ec:=evc a
         generalize a.eval=ev at *
         clear h
         go_simp
       refine AllOps.cons (fun a y_ h=>?_) ?_
       · have e0:a.eval (.tmp 0)=(.pointer (some ⟨FB,0,none⟩):Value):=h.old 0 (by kernel_rfl)
         refine opOk_val (v:=.pointer (some ⟨FB,0,none⟩)) (w':=y_) (wanted_some (j:=4) (t:=31) (b:=true) rfl rfl rfl (h.of 31 (by kernel_rfl))) ?_ (fun t ht=>by cases ht; exact rfl) (Below.refl _ _)
         have ec:=evc a
         generalize a.eval=ev at *
         clear h
         go_simp
       refine AllOps.cons (fun a y_ h=>?_) ?_
       · have e34:a.eval (.tmp 34)=(.pointer (some ⟨FB,0,none⟩):Value):=h.of 34 (by kernel_rfl)
         refine opOk_val (v:=.pointer (some ⟨FB,0,none⟩)) (w':=y_) (wanted_some (j:=4) (t:=31) (b:=true) rfl rfl rfl (h.of 31 (by kernel_rfl))) ?_ (fun t ht=>by cases ht; exact rfl) (Below.refl _ _)
         have ec:=evc a
         generalize a.eval=ev at *
         clear h
         go_simp
       refine AllOps.cons (fun a y_ h=>?_) ?_
       · have e35:a.eval (.tmp 35)=(.pointer (some ⟨FB,0,none⟩):Value):=h.of 35 (by kernel_rfl)
         refine opOk_val (v:=.pointer (some ⟨FB,5,none⟩)) (w':=y_) (wanted_some (j:=4) (t:=31) (b:=true) rfl rfl rfl (h.of 31 (by kernel_rfl))) ?_ (fun t ht=>by cases ht; exact rfl) (Below.refl _ _)
         have ec:=evc a
         generalize a.eval=ev at *
         clear h
         go_simp
       refine AllOps.cons (fun a y_ h=>?_) ?_
       · have e36:a.eval (.tmp 36)=(.pointer (some ⟨FB,5,none⟩):Value):=h.of 36 (by kernel_rfl)
         have c5:=cell_below h.below f5
         refine opOk_val (v:=.slice af facts.length cf) (w':=y_) (wanted_some (j:=4) (t:=31) (b:=true) rfl rfl rfl (h.of 31 (by kernel_rfl))) ?_ (fun t ht=>by cases ht; exact rfl) (Below.refl _ _)
         have ec:=evc a
         generalize a.eval=ev at *
         clear h
         go_simp
       refine AllOps.cons (fun a y_ h=>?_) ?_
       · have e32:a.eval (.tmp 32)=(plitVal l (.slice at_ l.terms.length ct):Value):=h.of 32 (by kernel_rfl)
         have e33:a.eval (.tmp 33)=(.slice an y.nums.length cn:Value):=h.of 33 (by kernel_rfl)
         have e37:a.eval (.tmp 37)=(.slice af facts.length cf:Value):=h.of 37 (by kernel_rfl)
         refine opOk_call (f:=24) (args:=#[plitVal l (.slice at_ l.terms.length ct),.slice an y.nums.length cn,.slice af facts.length cf]) (wanted_some (j:=4) (t:=31) (b:=true) rfl rfl rfl (h.of 31 (by kernel_rfl))) ?_ ?_
         · have ec:=evc a
           have ef:=evf a
           generalize a.eval=ev at *
           clear h
           go_simp
         · refine Calls.mono (HLH.out y_ h.below) ?_
           rintro _ y2 ⟨rfl,hb2⟩
           exact ⟨_,rfl,fun t ht=>by cases ht; exact rfl,hb2⟩
       refine AllOps.cons (fun a y_ h=>?_) ?_
       · have e38:a.eval (.tmp 38)=(.bool hb:Value):=h.of 38 (by kernel_rfl)
         refine opOk_val (v:=.bool (!hb)) (w':=y_) (wanted_some (j:=4) (t:=31) (b:=true) rfl rfl rfl (h.of 31 (by kernel_rfl))) ?_ (fun t ht=>by cases ht; exact rfl) (Below.refl _ _)
         have ec:=evc a
         generalize a.eval=ev at *
         clear h
         go_simp
       refine AllOps.cons (fun a y_ h=>?_) ?_
       · have e31:a.eval (.tmp 31)=(.bool true:Value):=h.of 31 (by kernel_rfl)
         have e39:a.eval (.tmp 39)=(.bool (!hb):Value):=h.of 39 (by kernel_rfl)
         refine opOk_val (v:=.bool (!hb)) (w':=y_) (wanted_none rfl) ?_ (fun t ht=>by cases ht; exact rfl) (Below.refl _ _)
         have ec:=evc a
         generalize a.eval=ev at *
         clear h
         go_simp
       exact AllOps.nil
      case hend =>
       rintro ⟨tm,df⟩ wE hbE hdE hsE hstE hTE
       have h40:tm.getD 40 undef=.bool (!hb):=ends_at (T:=fun tQ vQ _=>vQ=wrong5TvT LB FB (.slice at_ l.terms.length ct) (.slice as_ y.known.length cs) (.slice an y.nums.length cn) (.slice af facts.length cf) l hb tQ) (w:=wE) (a:=⟨tm,df⟩) (t:=40) hTE (by kernel_rfl)
       obtain rfl:df=[]:=hdE
       have hFE:=tmps_fold [27,28,29,30,31,32,33,34,35,36,37,38,39,40] tm _ hsE hstE
       clear hsE hstE hTE
       simp only [List.foldl_cons,List.foldl_nil,h40] at hFE
       clear h40
       generalize tm.getD 27 undef=x27 at hFE
       generalize tm.getD 28 undef=x28 at hFE
       generalize tm.getD 29 undef=x29 at hFE
       generalize tm.getD 30 undef=x30 at hFE
       generalize tm.getD 31 undef=x31 at hFE
       generalize tm.getD 32 undef=x32 at hFE
       generalize tm.getD 33 undef=x33 at hFE
       generalize tm.getD 34 undef=x34 at hFE
       generalize tm.getD 35 undef=x35 at hFE
       generalize tm.getD 36 undef=x36 at hFE
       generalize tm.getD 37 undef=x37 at hFE
       generalize tm.getD 38 undef=x38 at hFE
       generalize tm.getD 39 undef=x39 at hFE
       simp only [List.setIfInBounds_toArray,List.set_cons_zero,List.set_cons_succ] at hFE
       subst hFE
       cases hb
       · have HE:Hid (Ru.wrong facts r.body y=true):=by
          show _=_
          unfold Ru.wrong
          exact List.any_eq_true.mpr ⟨_,HLM.out,by rw [HB1.out,HHB.out]; rfl⟩
         go_wp2_with fail
         go_ret
         exact ⟨by rw [HE.out]; rfl,HB3.out.trans (hbE.mono HB3.out.size)⟩
       · have HK2:Hid ((r.body.take (k+1)).any (fun l=>l.terms.all (Sc.known y.known) && !Ru.holds facts l y.nums)=false):=by
          show _=_
          rw [List.take_add_one,List.any_append,HK.out,HLG.out]
          show (l.terms.all (Sc.known y.known) && !Ru.holds facts l y.nums || false)=false
          rw [HHB.out,HB1.out]
          rfl
         go_wp2_with fail
         go_roundw
         case rel=>exact ⟨k+1,hlt,by go_num,HK2.out,HB3.out.trans (hbE.mono HB3.out.size)⟩
         case measure=>simp [intOf]; omega
  · have hdd:decide (k<r.body.length)=false:=decide_eq_false hlt
    have HE:Hid (Ru.wrong facts r.body y=false):=by
     show _=_
     have:=HK.out
     rw [List.take_of_length_le (by omega)] at this
     exact this
    go_wp2_with fail
    go_ret
    exact ⟨by rw [HE.out]; rfl,HB2.out⟩
namespace Ru
abbrev Out:=List (List Int) × Bool
def stepO (s:Out) (x:List Int):Out:=if s.2=true then s else if s.1.length=2000 then (s.1,true) else (s.1++[x],false)
def runO (s:Out) (L:List (List Int)):Out:=L.foldl stepO s
theorem runO_many {s:Out} (h:s.2=true):∀ L,runO s L=s
 | []=>rfl
 | x::L=>by
  show runO (stepO s x) L=s
  rw [show stepO s x=s from if_pos h]
  exact runO_many h L
theorem runO_append (s:Out) (L M:List (List Int)):runO s (L++M)=runO (runO s L) M:=List.foldl_append
theorem stepO_le {s:Out} (h:s.1.length≤2000) (x:List Int):(stepO s x).1.length≤2000:=by
 unfold stepO
 split
 · exact h
 · split
   · exact h
   · show (s.1++[x]).length≤2000
     rw [List.length_append,List.length_singleton]
     omega
theorem runO_le:∀ (L:List (List Int)) {s:Out},s.1.length≤2000→(runO s L).1.length≤2000
 | [],_,h=>h
 | x::L,_,h=>runO_le L (stepO_le h x)
def fromF (facts:List Rl.Fc) (body:List Sc.Lit) (k j:Nat) (w1:Way) (f:Rl.Fc):List (List Int) :=
 if f.pred=(Sc.litD body j).pred then (match withW w1 (Sc.litD body j).terms f.args with | none=>[] | some w2=>fromN facts body k (j+1) w2) else []
theorem fromN_none {facts:List Rl.Fc} {body:List Sc.Lit} {k i:Nat} {w:Way} (h:reckN body (body.length+1) w=none):fromN facts body (k+1) i w=[]:=by unfold fromN; rw [h]
theorem fromN_wrong {facts:List Rl.Fc} {body:List Sc.Lit} {k i:Nat} {w w1:Way} (h:reckN body (body.length+1) w=some w1) (hw:wrong facts body w1=true):fromN facts body (k+1) i w=[]:=by unfold fromN; rw [h]; simp only [if_pos hw]
theorem fromN_end {facts:List Rl.Fc} {body:List Sc.Lit} {k i:Nat} {w w1:Way} (h:reckN body (body.length+1) w=some w1) (hw:wrong facts body w1=false) (hi:¬ skipTo body i<body.length):fromN facts body (k+1) i w=[w1.nums]:=by unfold fromN; rw [h]; simp only [hw,if_neg hi]; rfl
theorem fromN_go {facts:List Rl.Fc} {body:List Sc.Lit} {k i:Nat} {w w1:Way} (h:reckN body (body.length+1) w=some w1) (hw:wrong facts body w1=false) (hi:skipTo body i<body.length):fromN facts body (k+1) i w=facts.flatMap (fromF facts body k (skipTo body i) w1):=by unfold fromN; rw [h]; simp only [hw,if_pos hi]; rfl
theorem skipTo_lt {body:List Sc.Lit} {j:Nat} (hj:j<body.length):skipTo body j=if (Sc.litD body j).kind=1 then j else skipTo body (j+1):=by
 have:body.drop j=Sc.litD body j::body.drop (j+1):=by
  rw [List.drop_eq_getElem_cons hj]
  unfold Sc.litD
  rw [List.getD_eq_getElem?_getD,List.getElem?_eq_getElem hj]
  rfl
 unfold skipTo
 rw [this]
 rfl
theorem skipTo_end {body:List Sc.Lit} {j:Nat} (hj:body.length≤j):skipTo body j=j:=by
 unfold skipTo
 rw [List.drop_of_length_le hj]
 rfl
theorem with1_neg {z:Way} {tv tn a:Int} (h:tv<0):with1 z ⟨tv,tn⟩ a=if tn=a then some z else none:=by
 have hk:Sc.known z.known ⟨tv,tn⟩=true:=by unfold Sc.known; simp [h]
 have hn:num z.nums ⟨tv,tn⟩=tn:=by unfold num; rw [if_pos h]
 unfold with1
 rw [if_pos hk,hn]
theorem with1_kn {z:Way} {v:Nat} {tn a:Int} (h:z.known.getD v false=true):with1 z ⟨(v:Int),tn⟩ a=if z.nums.getD v 0=a then some z else none:=by
 have hk:Sc.known z.known ⟨(v:Int),tn⟩=true:=by unfold Sc.known; dsimp only; rw [Int.toNat_natCast,h,Bool.or_true]
 have hn:num z.nums ⟨(v:Int),tn⟩=z.nums.getD v 0:=by unfold num; rw [if_neg (show ¬ (v:Int)<0 by omega)]; dsimp only; rw [Int.toNat_natCast]
 unfold with1
 rw [if_pos hk,hn]
theorem with1_nw {z:Way} {v:Nat} {tn a:Int} (h:z.known.getD v false=false):with1 z ⟨(v:Int),tn⟩ a=some ⟨z.nums.set v a,z.known.set v true⟩:=by
 have hk:¬ Sc.known z.known ⟨(v:Int),tn⟩=true:=by
  unfold Sc.known
  dsimp only
  rw [Int.toNat_natCast,h,Bool.or_false,decide_eq_true_iff]
  omega
 unfold with1
 rw [if_neg hk]
 dsimp only
 rw [Int.toNat_natCast]
end Ru
structure FindI (FB:Nat) (vt vb vf:Value) (r:Sc.Rule) (s:Ru.Out) (q:List (List Int × Value)) (vo:Value) (w:World):Prop where
 hq:q.map (·.1)=s.1
 b:FindB w FB vt vb vf vo r s.2
 o:w.ownsRow (FB+1) 22 1 vo q.length (q.map (·.2))
 hr:∀ p,p∈q→w.ownsRow (FB+1) 3 1 p.2 p.1.length (p.1.map (Value.int .i64))
theorem FindI.below {FB:Nat} {vt vb vf:Value} {r:Sc.Rule} {s:Ru.Out} {q:List (List Int × Value)} {vo:Value} {w w':World} (h:FindI FB vt vb vf r s q vo w) (hb:Below w.heap.size w w'):FindI FB vt vb vf r s q vo w' :=
 ⟨h.hq,(hb.block _ (heap_lt h.b)).trans h.b,ownsRow_below h.o hb,fun p hp=>ownsRow_below (h.hr p hp) hb⟩
theorem FindI.lt {FB:Nat} {vt vb vf:Value} {r:Sc.Rule} {s:Ru.Out} {q:List (List Int × Value)} {vo:Value} {w:World} (h:FindI FB vt vb vf r s q vo w):FB<w.heap.size:=heap_lt h.b
theorem Rows2.keep {B n0 NB:Nat} {w w':World} {vn vs:Value} {m:Nat} {y:Ru.Way} (h:Rows2 B w vn vs m y) (hk:Kp n0 NB w w') (hB:NB<B):Rows2 B w' vn vs m y :=
 ⟨rl_own_alone h.n (fun g hg=>by
  obtain ⟨h1,h2⟩:=h.n
  rcases h2 with ⟨h2,_⟩ | ⟨g',cap,cur,hv,hb,hh,_⟩
  · rw [h2] at hg; cases hg
  · rw [hv] at hg
    have e:g'=g:=by simpa [Value.ownBlock] using hg
    subst e
    rw [hh]
    exact hk.keep g' cur 3 hh (by omega) (by decide)),
  rl_own_alone h.s (fun g hg=>by
   obtain ⟨h1,h2⟩:=h.s
   rcases h2 with ⟨h2,_⟩ | ⟨g',cap,cur,hv,hb,hh,_⟩
   · rw [h2] at hg; cases hg
   · rw [hv] at hg
     have e:g'=g:=by simpa [Value.ownBlock] using hg
     subst e
     rw [hh]
     exact hk.keep g' cur 4 hh (by omega) (by decide)),h.ok⟩
theorem Kp.setB {n0 NB o:Nat} {w:World} (h:n0≤NB) (v:Value):Kp n0 NB w (w.setCell ⟨NB,o,none⟩ v) :=
 ⟨rfl,rfl,rfl,by simp,fun k hk=>heap_set_other (by omega),fun k c t hk hne _=>(heap_set_other hne).trans hk⟩
theorem FindI.other {FB:Nat} {vt vb vf:Value} {r:Sc.Rule} {s s':Ru.Out} {q:List (List Int × Value)} {vo vo':Value} {w:World} {o:Nat} {v:Value} (h:FindI FB vt vb vf r s q vo w) (hs:q.map (·.1)=s'.1) (hb:FindB (w.setCell ⟨FB,o,none⟩ v) FB vt vb vf vo' r s'.2) (hv:vo'=vo):FindI FB vt vb vf r s' q vo' (w.setCell ⟨FB,o,none⟩ v):=by
 subst hv
 exact ⟨hs,hb,rl_own_alone h.o (fun g hg=>heap_set_other (fun e=>by have:=(h.o.lt g hg).1; omega)),fun p hp=>rl_own_alone (h.hr p hp) (fun g hg=>heap_set_other (fun e=>by have:=((h.hr p hp).lt g hg).1; omega))⟩
theorem FindI.many {FB:Nat} {vt vb vf:Value} {r:Sc.Rule} {sl:List (List Int)} {q:List (List Int × Value)} {vo:Value} {w:World} (h:FindI FB vt vb vf r (sl,false) q vo w):FindI FB vt vb vf r (sl,true) q vo (w.setCell ⟨FB,7,none⟩ (.bool true)) :=
 h.other h.hq (by unfold FindB; rw [Lib.heap_setCell_same h.b]; rfl) rfl
theorem FindI.push {FB n0 B m:Nat} {vt vb vf vo v9 u:Value} {r:Sc.Rule} {sl:List (List Int)} {q:List (List Int × Value)} {w w9:World} {x:List Int} (h:FindI FB vt vb vf r (sl,false) q vo w) (hn0:n0≤FB) (hB:FB+1≤B) (hxm:x.length=m) (hu:w.ownsRow B 3 1 u m (x.map (Value.int .i64))) (ho:w9.ownsRow (FB+1) 22 1 v9 (q.length+1) (q.map (·.2)++[u])) (hg:w.grownBy w9 vo.ownBlock) :
 FindI FB vt vb vf r (sl++[x],false) (q++[(x,u)]) v9 (w9.setCell ⟨FB,6,none⟩ v9)∧Kp n0 FB w (w9.setCell ⟨FB,6,none⟩ v9):=by
 have hown:∀ kQ,vo.ownBlock=some kQ→FB+1≤kQ:=fun kQ hk=>(h.o.lt kQ hk).1
 have hot:∀ (k:Nat) (c:Array Value) (t:TypeId),w.heap[k]?=some (.cells c t)→t≠22→w9.heap[k]?=some (.cells c t):=fun k c t hk ht=>(hg.block k (heap_lt hk) (fun e=>ht (own_ty h.o e.symm hk))).trans hk
 have hF9:=hot _ _ _ h.b (by decide)
 have hoth:∀ (k:Nat) (c:Array Value) (t:TypeId),w.heap[k]?=some (.cells c t)→k≠FB→t≠22→(w9.setCell ⟨FB,6,none⟩ v9).heap[k]?=some (.cells c t):=fun k c t hk hne ht=>(heap_set_other hne).trans (hot k c t hk ht)
 have h3:∀ (B' n:Nat) (xs:List Value) (z:Value),w.ownsRow B' 3 1 z n xs→(w9.setCell ⟨FB,6,none⟩ v9).ownsRow B' 3 1 z n xs:=fun B' n xs z hz=>own_type hz (fun k c hk=>hoth k c 3 hk (fun e=>by rw [e,h.b] at hk; injection hk with hk; injection hk with _ hk; cases hk) (by decide))
 refine ⟨⟨by rw [List.map_append]; show _++[x]=_; rw [h.hq],by unfold FindB; rw [Lib.heap_setCell_same hF9]; rfl,?_,fun p hp=>?_⟩,hg.os,hg.tape,hg.output,by simpa using hg.size,fun k hk=>(heap_set_other (by omega)).trans (hg.block k (by have:=h.lt; omega) (fun e=>by have:=hown k e.symm; omega)),hoth⟩
 · rw [List.length_append,List.map_append]
   exact rl_own_alone ho (fun g hgq=>heap_set_other (fun e=>by have:=(ho.lt g hgq).1; omega))
 · rcases List.mem_append.mp hp with hp | hp
   · exact h3 _ _ _ _ (h.hr p hp)
   · rcases List.mem_singleton.mp hp with rfl
     show World.ownsRow _ (FB+1) 3 1 u x.length _
     rw [hxm]
     exact rl_own_le (h3 _ _ _ _ hu) hB
theorem ru_info4:(Tryz.prog.info? 4).map (fun i=>(i.zero,i.size,i.bytes))=some (some (.bool false),1,1):=by kernel_rfl
theorem wpl_copy {w:World} {ops:Array Oper} {rest:List Oper} {o:Oper} {a:Act} {Q:Exit→Act→World→Prop} (hgd:o.guard=none) (s x:Operand) (t e:TypeId) (i0:TypeInfo) (z:Value) (bytes:Nat)
 (ho:o.op=.call { callee:=.builtin .append,args:=#[s,x],argTypes:=#[t,t] }) (ht:Tryz.prog.underlying t=some (.slice e)) (hi:Tryz.prog.info? e=some i0) (hz0:i0.zero=some z) (hz1:i0.size=1) (hz2:i0.bytes=bytes) (hzc:z.cells.size=1) (hby:bytes≤8)
 (base B m:Nat) (v u:Value) (xs:List Value) (hs:a.eval s=v) (hx:a.eval x=u) (hown:w.ownsRow base e 1 v 0 []) (hsrc:w.ownsRow B e 1 u m xs) (h1:∀ c,c∈xs→c.oneCell'=true) (hm:m≤1000) (hbase:base≤w.heap.size)
 (h:∀ v' w',w'.ownsRow base e 1 v' m xs→w.grownBy w' v.ownBlock→wpList Tryz.prog ops Q rest (a.put o.dst v') w'):wpList Tryz.prog ops Q (o::rest) a w:=by
 rcases id hsrc.2 with ⟨hu,h0⟩ | ⟨g,cap,cur,hu,_⟩
 · have hxs:xs=[]:=List.eq_nil_of_length_eq_zero (by rw [hsrc.1,h0])
   refine wpList_append_own_none hgd s x t ho base e i0 1 ht hi v 0 [] hs hown (by rw [hx,hu]) ?_
   refine h v w (by rw [h0,hxs]; exact hown) ⟨rfl,rfl,rfl,Nat.le_refl _,fun _ _ _=>rfl⟩
 · subst hu
   refine wpList_append_own w hgd s x t ho base e i0 z 1 bytes ht hi hz0 hz1 hz2 hzc (by decide) v 0 [] hs hown ⟨g,0,none⟩ m cap xs hx (by rw [hsrc.1]) (fun j c hj=>?_) h1 (by unfold maxLen; omega) ?_ hbase ?_
   · have hlt:j<m:=by
      have:=hsrc.1
      rcases Nat.lt_or_ge j xs.length with h9 | h9
      · omega
      · rw [List.getElem?_eq_none h9] at hj; cases hj
     rw [Addr.add_lit,Nat.zero_add,World.ownsRow.cellAt hsrc j (by omega)]
     exact hj
   · rw [Nat.zero_add]
     exact Nat.le_trans (Nat.mul_le_mul hm hby) (by decide)
   · intro v' w' ho9 hg9 _
     rw [Nat.zero_add,List.nil_append] at ho9
     exact h v' w' ho9 hg9

def harm (ops:Array Oper) (wr:Nat→Bool) (surv:Nat→Nat→Bool) (i j:Nat):Bool:=(wr i && decide (i<ops.size)) && !decide (i=j) && !reach ops 12 j i && !(((ops[j]?).map fun o=>(o.dst.map (surv i)).getD true).getD true)
def okEdge (ops:Array Oper) (wr:Nat→Bool) (surv:Nat→Nat→Bool) (m j:Nat):Bool:=(List.range ops.size).all fun i=>!harm ops wr surv i j || (i==m || reach ops 12 i m)
def waitsForH (ops:Array Oper) (wr:Nat→Bool) (surv:Nat→Nat→Bool) (m:Nat) (o:Oper) (t:Nat):Bool:=o.after.toList.any fun e=>Region.binds .any e && okEdge ops wr surv m e.on && ((ops[e.on]?).map fun o'=>o'.dst==some t).getD false
def unharmed (ops:Array Oper) (wr:Nat→Bool) (surv:Nat→Nat→Bool) (i:Nat):Bool:=(List.range ops.size).all fun k=>!harm ops wr surv k i
def preFine (ops:Array Oper) (wr:Nat→Bool) (m:Nat):Bool:=(List.range ops.size).all fun i=>!wr i || (i==m || reach ops 12 i m)
structure OpInW (R:World→World→Prop) (E:Nat→World→Prop) (ops:Array Oper) (wr:Nat→Bool) (surv:Nat→Nat→Bool) (T:Nat→Value→World→Prop) (a0:Act) (w0:World) (m:Nat) (o:Oper) (a:Act) (w:World):Prop where
 below:R w0 w
 still:∀ t,t∉ops.toList.filterMap (·.dst)→a.tmps.getD t undef=a0.tmps.getD t undef
 has:∀ e,e∈o.after→Region.binds .any e=true→okEdge ops wr surv m e.on=true→∀ (o':Oper) (t:Nat),ops[e.on]?=some o'→o'.dst=some t→T t (a.tmps.getD t undef) w
 wrote:∀ e,e∈o.after→Region.binds .any e=true→wr e.on=true→E e.on w
 pre:preFine ops wr m=true→Below w0.heap.size w0 w
theorem OpInW.of {R:World→World→Prop} {E:Nat→World→Prop} {ops:Array Oper} {wr:Nat→Bool} {surv:Nat→Nat→Bool} {T:Nat→Value→World→Prop} {a0:Act} {w0:World} {m:Nat} {o:Oper} {a:Act} {w:World} (h:OpInW R E ops wr surv T a0 w0 m o a w) (t:Nat) (hw:waitsForH ops wr surv m o t=true):T t (a.tmps.getD t undef) w:=by
 unfold waitsForH at hw
 obtain ⟨e,he,hb⟩:=List.any_eq_true.mp hw
 rw [Bool.and_eq_true,Bool.and_eq_true] at hb
 cases ho:ops[e.on]? with
 | none=>rw [ho] at hb; simp at hb
 | some o' =>
  rw [ho,Option.map_some,Option.getD_some] at hb
  exact h.has e (by simpa using he) hb.1.1 hb.1.2 o' t ho (by simpa using hb.2)
theorem OpInW.old {R:World→World→Prop} {E:Nat→World→Prop} {ops:Array Oper} {wr:Nat→Bool} {surv:Nat→Nat→Bool} {T:Nat→Value→World→Prop} {a0:Act} {w0:World} {m:Nat} {o:Oper} {a:Act} {w:World} (h:OpInW R E ops wr surv T a0 w0 m o a w) (t:Nat) (hs:stays ops t=true):a.tmps.getD t undef=a0.tmps.getD t undef:=by
 refine h.still t fun hm=>?_
 unfold stays at hs
 simp [hm] at hs
structure TabbedW (R:World→World→Prop) (E:Nat→World→Prop) (ops:Array Oper) (wr:Nat→Bool) (surv:Nat→Nat→Bool) (T:Nat→Value→World→Prop) (a0:Act) (w0:World) (s:Array Bool) (a:Act) (w:World):Prop where
 below:R w0 w
 defers:a.defers=a0.defers
 size:a.tmps.size=a0.tmps.size
 still:∀ t,t∉ops.toList.filterMap (·.dst)→a.tmps.getD t undef=a0.tmps.getD t undef
 done:∀ (i:Nat) (o:Oper) (t:Nat),s[i]?=some true→ops[i]?=some o→o.dst=some t→(∀ k,harm ops wr surv k i=true→s[k]?=some false)→T t (a.tmps.getD t undef) w
 wrote:∀ i,s[i]?=some true→wr i=true→E i w
 pre:(∀ i,wr i=true→¬ s[i]?=some true)→Below w0.heap.size w0 w
structure OpInX (R:World→World→Prop) (E:Nat→World→Prop) (ops:Array Oper) (wr:Nat→Bool) (surv:Nat→Nat→Bool) (T:Nat→Value→World→Prop) (a0:Act) (w0:World) (L:Nat) (a:Act) (w:World):Prop where
 below:R w0 w
 defers:a.defers=a0.defers
 size:a.tmps.size=a0.tmps.size
 still:∀ t,t∉ops.toList.filterMap (·.dst)→a.tmps.getD t undef=a0.tmps.getD t undef
 all:∀ (i:Nat) (o:Oper) (t:Nat),i<L→ops[i]?=some o→o.dst=some t→(∀ k,harm ops wr surv k i=false)→T t (a.tmps.getD t undef) w
 wrote:∀ i,i<L→wr i=true→E i w
theorem OpInX.of {R:World→World→Prop} {E:Nat→World→Prop} {ops:Array Oper} {wr:Nat→Bool} {surv:Nat→Nat→Bool} {T:Nat→Value→World→Prop} {a0:Act} {w0:World} {L:Nat} {a:Act} {w:World} (h:OpInX R E ops wr surv T a0 w0 L a w) (i:Nat) (o:Oper) (t:Nat) (hi:i<L) (ho:ops[i]?=some o) (hd:o.dst=some t) (hu:unharmed ops wr surv i=true):T t (a.tmps.getD t undef) w:=by
 refine h.all i o t hi ho hd fun k=>?_
 cases hk:decide (k<ops.size) with
 | true =>
  have:=List.all_eq_true.mp hu k (List.mem_range.mpr (of_decide_eq_true hk))
  simpa using this
 | false=>unfold harm; rw [hk]; simp
section
variable {P:Program} {ops:Array Oper} {Q:Exit→Act→World→Prop}
theorem wp_region_write (R:World→World→Prop) (hRt:∀ a b c,R a b→R b c→R a c) (hRb:∀ w w',Below w.heap.size w w'→R w w') (T:Nat→Value→World→Prop) (E:Nat→World→Prop) (L:Nat) (wr:Nat→Bool) (surv:Nat→Nat→Bool) {id:Nat} {a0:Act} {w0:World} (hL:L<ops.size) (htf:tailFine ops L=true) (hm:P.follows .mixedOrders=true)
 (hf:tabFineR ops a0.tmps.size=true)
 (hmono:∀ t v w w',Below w.heap.size w w'→T t v w→T t v w')
 (hmonoE:∀ i w w',Below w.heap.size w w'→E i w→E i w')
 (hmonoW:∀ i t v w w',wr i=true→surv i t=true→R w w'→T t v w→T t v w')
 (hop:AllOpsI (fun i o=>∀ a w,OpInW R E ops wr surv T a0 w0 i o a w→(∀ t,t∉(ops.toList.take L).filterMap (·.dst)→a.tmps.getD t undef=a0.tmps.getD t undef)→if wr i=true then (Region.wanted o (yielded ops a.tmps)=true∧o.wp P a w (fun a' w'=>∃ v,a'=a.put o.dst v∧(∀ t,o.dst=some t→T t v w')∧R w w'∧(∀ j,E j w→E j w')∧E i w') Q) else OpOk P ops Q T o a w) 0 (ops.toList.take L))
 (htail:∀ a w,OpInX R E ops wr surv T a0 w0 L a w→(∀ t,t∉(ops.toList.take L).filterMap (·.dst)→a.tmps.getD t undef=a0.tmps.getD t undef)→wpOps P ops Q (List.range' L (ops.size - L)) a w) :
 (Code.region id ops true).wp P Q a0 w0:=by
 have hkf':∀ (m j:Nat),okEdge ops wr surv m j=true→∀ i,harm ops wr surv i j=true→i=m∨reach ops 12 i m=true:=fun m j hw i hh=>by
  have hi:i<ops.size:=Classical.byContradiction fun hc=>by
   unfold harm at hh
   rw [Bool.and_eq_true,Bool.and_eq_true,Bool.and_eq_true] at hh
   have h9:=hh.1.1.1
   rw [Bool.and_eq_true] at h9
   exact hc (of_decide_eq_true h9.2)
  have h3:=List.all_eq_true.mp hw i (List.mem_range.mpr hi)
  rw [hh,Bool.not_true,Bool.false_or,Bool.or_eq_true,beq_iff_eq] at h3
  exact h3
 unfold tailFine at htf
 rw [Bool.and_eq_true] at htf
 have ht1:∀ j,j<L→reach ops 12 L j=true:=fun j hj=>List.all_eq_true.mp htf.1 j (List.mem_range.mpr hj)
 have ht2:∀ i,i<ops.size→L<i→reach ops 12 i (i - 1)=true:=fun i hi hLi=>by
  have h:=List.all_eq_true.mp htf.2 i (List.mem_range.mpr hi)
  rw [decide_eq_true hLi] at h
  simpa using h
 unfold tabFineR at hf
 rw [Bool.and_eq_true,Bool.and_eq_true] at hf
 obtain ⟨⟨hnd,hlt⟩,hah⟩:=hf
 have hnd:=of_decide_eq_true hnd
 have hlt':∀ t,t∈ops.toList.filterMap (·.dst)→t<a0.tmps.size:=fun t ht=>of_decide_eq_true (List.all_eq_true.mp hlt t ht)
 have hah':∀ (i:Nat) (o:Oper),ops[i]?=some o→∀ e,e∈o.after→Region.binds .any e=true→e.on<i:=fun i o ho e he hbe=>by
  have hi:i<ops.size:=(Array.getElem?_eq_some_iff.mp ho).1
  have h:=List.all_eq_true.mp hah i (List.mem_range.mpr hi)
  rw [ho,Option.map_some,Option.getD_some] at h
  have h9:=List.all_eq_true.mp h e (by simpa using he)
  rw [hbe] at h9
  exact of_decide_eq_true (by simpa using h9)
 refine wp_region_inv (fun s a w=>(s.size=ops.size∧Closed ops s)∧(((∀ i,L≤i→i<ops.size→s[i]?=some false)∧(∀ t,t∉(ops.toList.take L).filterMap (·.dst)→a.tmps.getD t undef=a0.tmps.getD t undef)∧TabbedW R E ops wr surv T a0 w0 s a w) ∨
  (∃ m,L≤m∧m≤ops.size∧(∀ i,i<m→s[i]?=some true)∧(∀ i,m≤i→i<ops.size→s[i]?=some false)∧wpOps P ops Q (List.range' m (ops.size - m)) a w))) hm ?_ ?_ ?_
 · rintro s a w hr ⟨⟨hs,hC⟩,hI⟩
   have hall:∀ n:Nat,n≤ops.size→∀ i:Nat,i<n→s[i]?=some true:=by
    intro n
    induction n with
    | zero=>intro _ i hi; exact absurd hi (Nat.not_lt_zero _)
    | succ n ih =>
     intro hn i hi
     have ih:=ih (by omega)
     by_cases hin:i<n
     · exact ih i hin
     · have hin:i=n:=by omega
       subst hin
       cases hsi:s[i]? with
       | none=>rw [Array.getElem?_eq_none_iff] at hsi; omega
       | some b =>
        cases b with
        | true=>rfl
        | false =>
         exfalso
         have hio:i<ops.size:=by omega
         have:i∈Region.ready .any ops s:=by
          unfold Region.ready
          refine List.mem_filter.mpr ⟨List.mem_range.mpr hio,?_⟩
          rw [Bool.and_eq_true]
          refine ⟨by simp [Array.getD_eq_getD_getElem?,hsi],?_⟩
          have ho:ops[i]?=some ops[i]:=Array.getElem?_eq_getElem hio
          rw [ho,Option.map_some,Option.getD_some,Array.all_eq_true_iff_forall_mem]
          intro e he
          cases hbe:Region.binds .any e with
          | false=>rfl
          | true =>
           have h1:=ih e.on (hah' i _ ho e he hbe)
           simp [Array.getD_eq_getD_getElem?,h1]
         rw [hr] at this
         exact absurd this (by simp)
   have hd:=hall ops.size (Nat.le_refl _)
   rcases hI with ⟨hF,_,_⟩ | ⟨m,_,hm1,_,hF,hW⟩
   · have h1:=hF L (Nat.le_refl _) hL
     rw [hd L hL] at h1
     cases h1
   · by_cases hme:m=ops.size
     · subst hme
       rw [Nat.sub_self] at hW
       exact hW
     · have h1:=hF m (Nat.le_refl _) (by omega)
       rw [hd m (by omega)] at h1
       cases h1
 · rintro s a w i hi ⟨⟨hs,hC⟩,hI⟩
   obtain ⟨hsi,o,ho,haf⟩:=ready_mem hi
   have his:i<ops.size:=(Array.getElem?_eq_some_iff.mp ho).1
   have hup:∀ j,s[j]?=some true→(s.setIfInBounds i true)[j]?=some true:=fun j hj=>by
    rw [Array.getElem?_setIfInBounds]
    by_cases hij:i=j
    · rw [if_pos hij,if_pos (by omega)]
    · rw [if_neg hij]; exact hj
   have hss:(s.setIfInBounds i true).size=ops.size∧Closed ops (s.setIfInBounds i true):=by
    refine ⟨by simp [hs],fun i' o' hi' ho' e he hb=>?_⟩
    by_cases hii:i=i'
    · subst hii
      rw [ho] at ho'
      cases ho'
      exact hup _ (haf e he hb)
    · rw [Array.getElem?_setIfInBounds,if_neg hii] at hi'
      exact hup _ (hC i' o' hi' ho' e he hb)
   have go:∀ m,L≤m→m<ops.size→i=m→(∀ j,j<m→s[j]?=some true)→(∀ j,m≤j→j<ops.size→s[j]?=some false)→wpOps P ops Q (List.range' m (ops.size - m)) a w →
    wpOp P ops Q i (fun a' w'=>((s.setIfInBounds i true).size=ops.size∧Closed ops (s.setIfInBounds i true))∧(((∀ j,L≤j→j<ops.size→(s.setIfInBounds i true)[j]?=some false)∧(∀ t,t∉(ops.toList.take L).filterMap (·.dst)→a'.tmps.getD t undef=a0.tmps.getD t undef)∧TabbedW R E ops wr surv T a0 w0 (s.setIfInBounds i true) a' w') ∨
     (∃ m,L≤m∧m≤ops.size∧(∀ j,j<m→(s.setIfInBounds i true)[j]?=some true)∧(∀ j,m≤j→j<ops.size→(s.setIfInBounds i true)[j]?=some false)∧wpOps P ops Q (List.range' m (ops.size - m)) a' w'))) a w:=by
    intro m hLm hms him hT hF hW
    subst him
    obtain ⟨d,hd⟩:∃ d,ops.size - i=d+1:=⟨ops.size - i - 1,by omega⟩
    rw [hd,List.range'_succ,wpOps_cons] at hW
    refine wpOp_mono (fun a' w' h'=>⟨hss,.inr ⟨i+1,by omega,by omega,fun j hj=>?_,fun j hj hjs=>?_,?_⟩⟩) hW
    · by_cases hji:j=i
      · subst hji
        rw [Array.getElem?_setIfInBounds,if_pos rfl,if_pos (by omega)]
      · exact hup j (hT j (by omega))
    · rw [Array.getElem?_setIfInBounds,if_neg (by omega)]
      exact hF j (by omega) hjs
    · rw [show ops.size - (i+1)=d by omega]
      exact h'
   rcases hI with ⟨hF,hO,hI⟩ | ⟨m,hLm,hm1,hT,hF,hW⟩
   · by_cases hiL:L≤i
     · have hiL2:i=L:=by
        rcases Nat.lt_or_ge L i with h | h
        · have h1:=reach_done hC 12 i (i - 1) o ho haf (ht2 i his h)
          rw [hF (i - 1) (by omega) (by omega)] at h1
          cases h1
        · omega
       subst hiL2
       have hdn:∀ j,j<i→s[j]?=some true:=fun j hj=>reach_done hC 12 i j o ho haf (ht1 j hj)
       exact go i (Nat.le_refl _) his rfl hdn (fun j hj hjs=>hF j hj hjs) (htail a w ⟨hI.below,hI.defers,hI.size,hI.still,fun j oj t hj hoj hd hal=>hI.done j oj t (hdn j hj) hoj hd (fun k hk=>absurd hk (by rw [hal k]; exact Bool.false_ne_true)),fun j hj hwj=>hI.wrote j (hdn j hj) hwj⟩ hO)
     · have hmo:o∈ops.toList.take L:=by
        rw [← Array.getElem?_toList] at ho
        refine List.mem_of_getElem? (i:=i) ?_
        rw [List.getElem?_take,if_pos (by omega)]
        exact ho
       have hopI:=AllOpsI.get _ 0 hop i o (by
        rw [List.getElem?_take,if_pos (by omega),Array.getElem?_toList]
        exact ho) a w (by rw [Nat.zero_add]; exact ⟨hI.below,hI.still,fun e he hb hok o' t ho' hd=>hI.done e.on o' t (haf e he hb) ho' hd (fun k hk=>by
         have hks:k<s.size:=by
          rw [hs]
          unfold harm at hk
          rw [Bool.and_eq_true,Bool.and_eq_true,Bool.and_eq_true] at hk
          have h9:=hk.1.1.1
          rw [Bool.and_eq_true] at h9
          exact of_decide_eq_true h9.2
         cases hsk:s[k]? with
         | none=>rw [Array.getElem?_eq_none_iff] at hsk; omega
         | some bk =>
          cases bk with
          | false=>rfl
          | true =>
           exfalso
           rcases hkf' i e.on hok k hk with h | h
           · rw [h,hsi] at hsk; cases hsk
           · have hko:∃ ok,ops[k]?=some ok:=⟨ops[k]'(by omega),Array.getElem?_eq_getElem (by omega)⟩
             obtain ⟨ok,hok⟩:=hko
             have h1:=reach_done hC 12 k i ok hok (fun e' he' hb'=>hC k ok hsk hok e' he' hb') h
             rw [hsi] at h1
             cases h1),fun e he hb hwe=>hI.wrote e.on (haf e he hb) hwe,fun hpf=>hI.pre (fun k hwk hsk=>by
         have hks:k<ops.size:=by
          rcases Nat.lt_or_ge k ops.size with h | h
          · exact h
          · rw [Array.getElem?_eq_none (by omega)] at hsk; cases hsk
         have h1:=List.all_eq_true.mp hpf k (List.mem_range.mpr hks)
         rw [hwk,Bool.not_true,Bool.false_or,Bool.or_eq_true,beq_iff_eq] at h1
         rcases h1 with h | h
         · rw [h,hsi] at hsk; cases hsk
         · obtain ⟨ok,hok⟩:∃ ok,ops[k]?=some ok:=⟨ops[k]'hks,Array.getElem?_eq_getElem hks⟩
           have h2:=reach_done hC 12 k i ok hok (fun e' he' hb'=>hC k ok hsk hok e' he' hb') h
           rw [hsi] at h2
           cases h2)⟩) hO
       rw [Nat.zero_add] at hopI
       have hOset:∀ (v:Value) t,t∉(ops.toList.take L).filterMap (·.dst)→(a.put o.dst v).tmps.getD t undef=a0.tmps.getD t undef:=fun v t ht=>by
        cases hd:o.dst with
        | none=>exact hO t ht
        | some u =>
         have hne:t≠u:=fun h=>ht (h ▸ List.mem_filterMap.mpr ⟨o,hmo,hd⟩)
         rw [put_get_ne hne]
         exact hO t ht
       have hset:∀ {v:Value} {w':World},(∀ t,o.dst=some t→T t v w')→R w w'→(∀ j,E j w→E j w')→(wr i=true→E i w')→(¬ wr i=true→Below w.heap.size w w')→(∀ (j:Nat) (oj:Oper) (t:Nat),s[j]?=some true→ops[j]?=some oj→oj.dst=some t→harm ops wr surv i j=false→∀ u,T t u w→T t u w')→TabbedW R E ops wr surv T a0 w0 (s.setIfInBounds i true) (a.put o.dst v) w':=by
        intro v w' hv hb hE1 hE2 hBw hmono
        refine ⟨hRt _ _ _ hI.below hb,by rw [put_defers]; exact hI.defers,by rw [put_size]; exact hI.size,fun t ht=>?_,fun j oj t hj hoj hd hk=>?_,fun j hj hwj=>?_,fun hns=>?_⟩
        · cases hd:o.dst with
          | none=>exact hI.still t ht
          | some u =>
           have hne:t≠u:=fun h=>ht (h ▸ dst_mem ho hd)
           rw [put_get_ne hne]
           exact hI.still t ht
        · by_cases hij:j=i
          · subst hij
            rw [ho] at hoj
            cases hoj
            rw [hd,put_get_self (by rw [hI.size]; exact hlt' t (dst_mem ho hd))]
            exact hv t hd
          · have hj':s[j]?=some true:=by
             rw [Array.getElem?_setIfInBounds,if_neg (fun h=>hij h.symm)] at hj
             exact hj
            have hni:harm ops wr surv i j=false:=by
             cases hh:harm ops wr surv i j with
             | false=>rfl
             | true =>
              have h9:=hk i hh
              rw [Array.getElem?_setIfInBounds,if_pos rfl,if_pos (by omega)] at h9
              cases h9
            have h1:=hmono j oj t hj' hoj hd hni _ (hI.done j oj t hj' hoj hd (fun k hh=>by
             have h9:=hk k hh
             rw [Array.getElem?_setIfInBounds,if_neg (fun e=>by subst e; rw [hni] at hh; cases hh)] at h9
             exact h9))
            cases hd2:o.dst with
            | none=>exact h1
            | some u =>
             have hne:t≠u:=fun h=>hij (dst_inj ops.toList hnd j i oj o t (by rw [Array.getElem?_toList]; exact hoj) (by rw [Array.getElem?_toList]; exact ho) hd (h ▸ hd2))
             rw [put_get_ne hne]
             exact h1
        · by_cases hij:j=i
          · subst hij
            exact hE2 hwj
          · rw [Array.getElem?_setIfInBounds,if_neg (fun h=>hij h.symm)] at hj
            exact hE1 j (hI.wrote j hj hwj)
        · have hiw:¬ wr i=true:=fun h=>hns i h (by rw [Array.getElem?_setIfInBounds,if_pos rfl,if_pos (by omega)])
          have h1:=hI.pre (fun j hwj hsj=>hns j hwj (hup j hsj))
          exact h1.trans ((hBw hiw).mono h1.size)
       have hF':∀ j,L≤j→j<ops.size→(s.setIfInBounds i true)[j]?=some false:=fun j hj hjs=>by
        rw [Array.getElem?_setIfInBounds,if_neg (by omega)]
        exact hF j hj hjs
       by_cases hiW:wr i=true
       · rw [if_pos hiW] at hopI
         obtain ⟨hw,hwp⟩:=hopI
         unfold wpOp
         rw [ho]
         dsimp only
         rw [if_pos hw]
         refine .inl (Oper.wp_mono ?_ hwp)
         rintro a' w' ⟨v,rfl,hv,hb,hE1,hE2⟩
         refine ⟨hss,.inl ⟨hF',hOset v,hset hv hb hE1 (fun _=>hE2) (fun h=>absurd hiW h) (fun j oj t hj hoj hd hni u hu=>?_)⟩⟩
         have hsv:surv i t=true:=by
          unfold harm at hni
          rw [hiW,decide_eq_true his,hoj,Option.map_some,Option.getD_some,hd,Option.map_some,Option.getD_some] at hni
          have hne:decide (i=j)=false:=decide_eq_false (fun e=>by subst e; rw [hsi] at hj; cases hj)
          have hr:reach ops 12 j i=false:=by
           cases hr:reach ops 12 j i with
           | false=>rfl
           | true =>
            have h1:=reach_done hC 12 j i oj hoj (fun e he hb=>hC j oj hj hoj e he hb) hr
            rw [hsi] at h1
            cases h1
          rw [hne,hr] at hni
          simpa using hni
         exact hmonoW i t u w w' hiW hsv hb hu
       · rw [if_neg hiW] at hopI
         unfold OpOk at hopI
         unfold wpOp
         rw [ho]
         dsimp only
         by_cases hw:Region.wanted o (yielded ops a.tmps)=true
         · rw [if_pos hw] at hopI ⊢
           refine hopI.imp (Oper.wp_mono ?_) (fun h=>h)
           rintro a' w' ⟨v,rfl,hv,hb⟩
           exact ⟨hss,.inl ⟨hF',hOset v,hset hv (hRb _ _ hb) (fun j hj=>hmonoE j w w' hb hj) (fun h=>absurd h hiW) (fun _=>hb) (fun _ _ t _ _ _ _ u hu=>hmono t u w w' hb hu)⟩⟩
         · rw [if_neg hw] at hopI ⊢
           exact ⟨hss,.inl ⟨hF',hOset _,hset hopI (hRb _ _ (Below.refl _ _)) (fun _ hj=>hj) (fun h=>absurd h hiW) (fun _=>Below.refl _ _) (fun _ _ t _ _ _ _ u hu=>hu)⟩⟩
   · have him:m≤i:=by
      rcases Nat.lt_or_ge i m with h | h
      · have h1:=hT i h
        rw [hsi] at h1
        cases h1
      · exact h
     have him2:i=m:=by
      rcases Nat.lt_or_ge m i with h | h
      · have h1:=reach_done hC 12 i (i - 1) o ho haf (ht2 i his (by omega))
        rw [hF (i - 1) (by omega) (by omega)] at h1
        cases h1
      · omega
     exact go m hLm (by omega) him2 hT hF hW
 · refine ⟨⟨by simp,fun i o h=>?_⟩,.inl ⟨fun i _ hi=>?_,fun _ _=>rfl,⟨hRb _ _ ⟨rfl,rfl,rfl,Nat.le_refl _,fun _ _=>rfl⟩,rfl,rfl,fun _ _=>rfl,fun i o t h _ _ _=>?_,fun i h _=>?_,fun _=>⟨rfl,rfl,rfl,Nat.le_refl _,fun _ _=>rfl⟩⟩⟩⟩
   · rw [Array.getElem?_replicate] at h
     split at h <;> simp at h
   · rw [Array.getElem?_replicate,if_pos hi]
   · rw [Array.getElem?_replicate] at h
     split at h <;> simp at h
   · rw [Array.getElem?_replicate] at h
     split at h <;> simp at h
end
def FromOk (w0 wF:World) (m FB:Nat) (vt vb vf:Value) (r:Sc.Rule) (facts:List Rl.Fc) (kf:Nat):Prop :=
 ∀ (i:Nat) (y:Ru.Way) (s:Ru.Out) (q:List (List Int × Value)) (vo:Value) (B:Nat) (vn vs:Value) (w:World),Kp w0.heap.size FB wF w→FindI FB vt vb vf r s q vo w→FB<B→Rows2 B w vn vs m y→i≤r.body.length→r.body.length<i+kf→s.1.length≤2000 →
  Calls Tryz.prog 60 #[.pointer (some ⟨FB,0,none⟩),.int .i64 (i:Nat),vn,vs] w fun e w'=>e=.returned (.tuple #[])∧(∃ q' vo',FindI FB vt vb vf r (Ru.runO s (Ru.fromN facts r.body kf i y)) q' vo' w')∧Kp w0.heap.size FB w w'
structure FromIn (w0 wF:World) (m FB:Nat) (vb vf:Value) (r:Sc.Rule) (facts:List Rl.Fc):Prop where
 lo:w0.heap.size≤FB
 b:PLitsV w0 vb r.body
 f:∀ w,Kp w0.heap.size FB wF w→FactsV w vf facts
 base:Below w0.heap.size w0 wF
 fl:facts.length≤1000000
 ff:∀ f,f∈facts→FFit f
 fn:∀ f,f∈facts→∀ n,n∈f.args→Sc.isNum n=true
 l:∀ l,l∈r.body→Ru.LitFine facts m l
 b4:r.body.length≤4
 m8:m≤8
structure NbR (NB:Nat) (w w':World):Prop where
 os:w'.os=w.os
 tape:w'.tape=w.tape
 output:w'.output=w.output
 size:w.heap.size≤w'.heap.size
 block:∀ k,k<w.heap.size→¬ k=NB→w'.heap[k]?=w.heap[k]?
theorem NbR.trans {NB:Nat} {a b c:World} (h:NbR NB a b) (k:NbR NB b c):NbR NB a c:=⟨k.os.trans h.os,k.tape.trans h.tape,k.output.trans h.output,Nat.le_trans h.size k.size,fun j hj hne=>(k.block j (Nat.lt_of_lt_of_le hj h.size) hne).trans (h.block j hj hne)⟩
theorem NbR.of_below {NB:Nat} {w w':World} (h:Below w.heap.size w w'):NbR NB w w':=⟨h.os,h.tape,h.output,h.size,fun k hk _=>h.block k hk⟩
theorem NbR.set {NB:Nat} (w:World) (o:Nat) (v:Value):NbR NB w (w.setCell ⟨NB,o,none⟩ v):=⟨rfl,rfl,rfl,by simp,fun _ _ hne=>heap_set_other hne⟩
theorem NbR.cell {NB:Nat} {w w':World} (h:NbR NB w w') {b o:Nat} {v:Value} (hc:w.cell? ⟨b,o,none⟩=some v) (hne:¬ b=NB):w'.cell? ⟨b,o,none⟩=some v:=(World.cell?_of_block (a:=⟨b,o,none⟩) (h.block b (World.block_lt_of_cell? w _ hc) hne)).trans hc
theorem opW_void {P:Program} {o:Oper} {a:Act} {w w':World} {K:Act→World→Prop} {Q:Exit→Act→World→Prop} (hr:(execOp a.eval o).run P w=.ok .skip w') (hk:K (a.put o.dst undef) w'):o.wp P a w K Q:=by
 unfold Oper.wp
 rw [hr,Oper.upon_skip]
 exact hk
def from21W (i:Nat):Bool:=i==12
def from21Tv (NB SB TB XB gb goff t v:Nat) (an1:Int) (VN VS VA:Value):Nat→Value
 | 143=>VN
 | 144=>.pointer (some ⟨TB,0,none⟩)
 | 145=>.int .i64 (v:Nat)
 | 146=>VS
 | 147=>.pointer (some ⟨TB,0,none⟩)
 | 148=>.int .i64 (v:Nat)
 | 149=>.pointer (some ⟨XB,1,none⟩)
 | 150=>VA
 | 151=>.int .i64 (t:Nat)
 | 152=>.pointer (some ⟨gb,goff+t,none⟩)
 | 153=>.int .i64 an1
 | 154=>.pointer (some ⟨NB,v,none⟩)
 | 155=>.pointer (some ⟨SB,v,none⟩)
 | _=>.bool false
theorem From_step (w0 wF:World) (m FB:Nat) (vt vb vf:Value) (r:Sc.Rule) (facts:List Rl.Fc) (kf:Nat) (hF:FromIn w0 wF m FB vb vf r facts) (IH:FromOk w0 wF m FB vt vb vf r facts kf):FromOk w0 wF m FB vt vb vf r facts (kf+1):=by
 intro i y s q vo B vn vs w hK1 hFI hFB hR hi hik hsl
 have hw0:Below w0.heap.size w0 w:=Kp.below hK1 hF.base
 have HKF:Hid _:=hK1
 clear hK1
 obtain ⟨i3,h30,h31,h32,h33⟩:=info_parts rl_info3
 obtain ⟨i4,h40,h41,h42,h43⟩:=info_parts ru_info4
 obtain ⟨sl,many⟩:=s
 obtain ⟨ab,cb,rfl,hBA⟩:=id hF.b
 obtain ⟨af,cf,rfl,hfc,_⟩:=id (hF.f wF (Kp.refl _ _ _))
 have f7:w.cell? ⟨FB,7,none⟩=some (.bool many):=by rw [Lib.cell_of_heap hFI.b]; rfl
 obtain ⟨an,cn,rfl⟩:=own_slice hR.n
 obtain ⟨as_,cs,rfl⟩:=own_slice hR.s
 have HF:Hid _:=hF
 have HBA:Hid _:=hBA
 have HW0:Hid _:=hw0
 have HIH:Hid _:=IH
 have HFI:Hid (FindI FB vt (.slice ab r.body.length cb) (.slice af facts.length cf) r (sl,many) q vo w):=hFI
 have HR:Hid (Rows2 B w (.slice an m cn) (.slice as_ m cs) m y):=hR
 have hm8:=hF.m8
 have hb4:=hF.b4
 have hfl:=hF.fl
 have hszF:=hFI.lt
 clear hF hBA hw0 IH hFI hR
 cases many with
 | true =>
  have HE:Hid (Ru.runO (sl,true) (Ru.fromN facts r.body (kf+1) i y)=(sl,true)):=Ru.runO_many rfl _
  go_enter Tryz.func60,Tryz.ntmps60
  go_wp2_with fail
  refine bodyPost_ret (results_none rfl _ _ _) rfl ?_
  exact ⟨rfl,⟨q,vo,by rw [HE.out]; exact HFI.out⟩,Kp.refl _ _ _⟩
 | false =>
  have hb1:Below w.heap.size w (w.alloc (.cells #[] 3)):=new_below _ _
  have hBsz:B≤B:=Nat.le_refl _
  go_enter Tryz.func60,Tryz.ntmps60
  go_wp2_with (at_builtin; refine wpl_copy rfl (.tmp 20) (.tmp 21) 22 3 i3 _ 8 rfl Tryz.underlying22 h30 h31 h32 h33 rfl (by decide) w.heap.size B m _ _ _ rfl rfl (World.ownsRow_made w #[] 0 (Nat.le_refl _) (Nat.zero_le _) (by simp)) (HR.out.n.alloc _) (fun c hc=>by obtain ⟨n,_,rfl⟩:=List.mem_map.mp hc; rfl) (by omega) hb1.size ?_)
  intro v1 w1 hn1 hg1
  have hB1:Below w.heap.size w w1:=hb1.grown hg1 hb1.size (fun kQ hk=>by have:w.heap.size=kQ:=(by simpa [Value.ownBlock] using hk); omega)
  obtain ⟨a1,c1,rfl⟩:=own_slice hn1
  have HR1:Hid (Rows2 B w1 (.slice an m cn) (.slice as_ m cs) m y):=HR.out.below hB1
  have hb2:Below w1.heap.size w1 (w1.alloc (.cells #[] 4)):=new_below _ _
  have HN1:Hid (w1.ownsRow w.heap.size 3 1 (.slice a1 m c1) m (y.nums.map (Value.int .i64))):=hn1
  have HB1:Hid _:=hB1
  have hsz1:=hB1.size
  clear hn1 hg1 hB1 hb1
  go_wp2_with (at_builtin; refine wpl_copy rfl (.tmp 23) (.tmp 24) 57 4 i4 _ 1 rfl Tryz.underlying57 h40 h41 h42 h43 rfl (by decide) w.heap.size B m _ _ _ rfl rfl (World.ownsRow_made w1 #[] 0 hsz1 (Nat.zero_le _) (by simp)) (HR1.out.s.alloc _) (fun c hc=>by obtain ⟨n,_,rfl⟩:=List.mem_map.mp hc; rfl) (by omega) (Nat.le_trans hsz1 hb2.size) ?_)
  intro v2 w2 hs2 hg2
  obtain ⟨a2,c2,rfl⟩:=own_slice hs2
  have HB2:Hid (Below w.heap.size w w2):=(HB1.out.trans (hb2.mono hsz1)).grown hg2 (Nat.le_trans hsz1 hb2.size) (fun kQ hk=>by have:w1.heap.size=kQ:=(by simpa [Value.ownBlock] using hk); omega)
  have HR2:Hid (Rows2 w.heap.size w2 (.slice a1 m c1) (.slice a2 m c2) m y):=⟨own_type HN1.out (fun k c hk=>(hg2.block k (Nat.lt_of_lt_of_le (heap_lt hk) hb2.size) (fun e=>by
   have h9:w1.heap.size=k:=(by simpa [Value.ownBlock] using e.symm)
   have:=heap_lt hk
   omega)).trans ((hb2.block k (heap_lt hk)).trans hk)),hs2,HR1.out.ok⟩
  clear hs2 hg2 hb2 HN1 HB1 HR1 HR hsz1
  have HFI2:Hid (FindI FB vt (.slice ab r.body.length cb) (.slice af facts.length cf) r (sl,false) q vo w2):=HFI.out.below HB2.out
  have HW2:Hid (Below w0.heap.size w0 w2):=HW0.out.trans (HB2.out.mono HW0.out.size)
  have HRK:Hid _:=Reckon_any w0 w.heap.size m FB facts r vt (.slice ab r.body.length cb) (.slice af facts.length cf) vo (.slice a1 m c1) (.slice a2 m c2) false y w2 HW0.out.size hszF HB2.out.size HW2.out HFI2.out.b HF.out.b hb4 HF.out.l hm8 HR2.out
  go_wp2_with fail
  refine Calls.mono HRK.out ?_
  rintro e w3 ⟨he,hb3⟩
  have HB3:Hid (Below w.heap.size w w3):=HB2.out.trans hb3
  clear hb3 HRK HR2 HB2 HFI2 HW2
  rcases he with ⟨hrk,rfl⟩ | ⟨y1,hrk,rfl,hR3⟩
  · have HE:Hid (Ru.fromN facts r.body (kf+1) i y=[]):=Ru.fromN_none hrk
    clear hrk
    go_wp2_with fail
    refine bodyPost_ret (results_none rfl _ _ _) rfl ?_
    exact ⟨rfl,⟨q,vo,by rw [HE.out]; exact HFI.out.below HB3.out⟩,Kp.of_below HB3.out HW0.out.size⟩
  · have HRK:Hid _:=hrk
    have HR3:Hid _:=hR3
    have HFI3:Hid (FindI FB vt (.slice ab r.body.length cb) (.slice af facts.length cf) r (sl,false) q vo w3):=HFI.out.below HB3.out
    have HW3:Hid (Below w0.heap.size w0 w3):=HW0.out.trans (HB3.out.mono HW0.out.size)
    have HWR:Hid _:=Wrong_any m FB facts r vt (.slice ab r.body.length cb) (.slice af facts.length cf) vo (.slice a1 m c1) (.slice a2 m c2) false y1 w3 HFI3.out.b (plitsV_below HF.out.b HW3.out) (HF.out.f w3 (HKF.out.trans (Kp.of_below HB3.out HW0.out.size))) hfl HF.out.ff hb4 HF.out.l HR3.out.ints HR3.out.bools HR3.out.ok
    clear hrk hR3
    go_wp2_with fail
    refine Calls.mono HWR.out ?_
    rintro e w4 ⟨rfl,hb4w⟩
    have HB4:Hid (Below w.heap.size w w4):=HB3.out.trans (hb4w.mono HB3.out.size)
    have HR4:Hid (Rows2 w.heap.size w4 (.slice a1 m c1) (.slice a2 m c2) m y1):=HR3.out.below hb4w
    clear HWR HR3 HFI3 HW3 HB3 hb4w
    cases hwr:Ru.wrong facts r.body y1
    · have HWF:Hid _:=hwr
      clear hwr
      have HFI4:Hid (FindI FB vt (.slice ab r.body.length cb) (.slice af facts.length cf) r (sl,false) q vo w4):=HFI.out.below HB4.out
      have HW4:Hid (Below w0.heap.size w0 w4):=HW0.out.trans (HB4.out.mono HW0.out.size)
      have f3:w4.cell? ⟨FB,3,none⟩=some (.slice ab r.body.length cb):=by rw [Lib.cell_of_heap HFI4.out.b]; rfl
      go_wp2_with fail
      go_loopw [1] (fun iv wr=>w4=wr∧∃ j:Nat,i≤j∧j≤r.body.length∧iv=.int .i64 j∧Hid (Ru.skipTo r.body i=Ru.skipTo r.body j)) (fun iv _=>r.body.length - (intOf iv).toNat)
      case atStart=>exact ⟨rfl,i,Nat.le_refl _,hi,rfl,rfl⟩
      case round =>
       obtain ⟨rfl,j,hij,hj,rfl,HSK⟩:=hrel
       by_cases hlt:j<r.body.length
       · obtain ⟨b,off,rfl,q0,q1,q2,vtl,q3,hT⟩:=plits_at HBA.out j hlt
         have p0:=cell_below HW4.out q0
         have HSL:Hid _:=Ru.skipTo_lt hlt
         have glt:decide ((j:Int)<(r.body.length:Int))=true:=decide_eq_true (by omega)
         by_cases hk1:(Sc.litD r.body j).kind=1
         · have gk:((Sc.litD r.body j).kind != 1)=false:=by simpa using hk1
           have HSJ:Hid (Ru.skipTo r.body i=j):=by show _=_; rw [HSK.out,HSL.out,if_pos hk1]
           have HK1:Hid _:=hk1
           have geq:((j:Int)==(r.body.length:Int))=false:=by simp; omega
           have HMEM:Hid (Sc.litD r.body j∈r.body):=List.mem_of_getElem? (litD_take hlt)
           have p1:=cell_below HW4.out q1
           have p2:=cell_below HW4.out q2
           have p3:=cell_below HW4.out q3
           have HT:Hid _:=hT
           obtain ⟨at_,ct,rfl,hct,hTA⟩:=hT
           have HTA:Hid _:=hTA
           clear q0 q1 q2 q3 hTA hk1 HSL
           generalize hlg:Sc.litD r.body j=l at *
           have HLG:Hid _:=hlg
           clear hlg
           go_upto_region 10 with fail
           have HFN:Hid (Ru.fromN facts r.body (kf+1) i y=facts.flatMap (Ru.fromF facts r.body kf j y1)):=by
            show _=_
            rw [Ru.fromN_go HRK.out HWF.out (by rw [HSJ.out]; exact hlt),HSJ.out]
           have hba:=new_below w4 (.cells #[.int .i64 l.kind,.int .i64 l.op,.int .i64 l.pred,.slice at_ l.terms.length ct] 49)
           have HLB:Hid _:=heap_alloc_new w4 (.cells #[.int .i64 l.kind,.int .i64 l.op,.int .i64 l.pred,.slice at_ l.terms.length ct] 49)
           have HBL:Hid (Below w.heap.size w (w4.alloc (.cells #[.int .i64 l.kind,.int .i64 l.op,.int .i64 l.pred,.slice at_ l.terms.length ct] 49))):=HB4.out.trans (hba.mono HB4.out.size)
           have HFL:Hid (FindI FB vt (.slice (some ⟨b,off,none⟩) r.body.length cb) (.slice af facts.length cf) r (sl,false) q vo (w4.alloc (.cells #[.int .i64 l.kind,.int .i64 l.op,.int .i64 l.pred,.slice at_ l.terms.length ct] 49))):=HFI4.out.below hba
           have HRL:Hid (Rows2 w.heap.size (w4.alloc (.cells #[.int .i64 l.kind,.int .i64 l.op,.int .i64 l.pred,.slice at_ l.terms.length ct] 49)) (.slice a1 m c1) (.slice a2 m c2) m y1):=HR4.out.below hba
           have HLN:Hid (¬ w4.heap.size=FB):=by have h9:=HFI4.out.lt; show ¬ _; omega
           have HFINE:Hid _:=HF.out.l _ HMEM.out
           clear p0 p1 p2 p3 f3 hba HFI4 HR4 HB4 HW4
           generalize hLBn:w4.heap.size=LB at *
           generalize w4.alloc (.cells #[.int .i64 l.kind,.int .i64 l.op,.int .i64 l.pred,.slice at_ l.terms.length ct] 49)=wl at *
           clear hLBn
           have HWL:Hid (Below w0.heap.size w0 wl):=HW0.out.trans (HBL.out.mono HW0.out.size)
           go_wp2_with fail
           go_loopw [9] (fun kv wr=>∃ (k:Nat) (s':Ru.Out) (q':List (List Int × Value)) (vo':Value),k≤facts.length∧kv=.int .i64 k∧Hid (s'=Ru.runO (sl,false) ((facts.take k).flatMap (Ru.fromF facts r.body kf j y1)))∧Hid (FindI FB vt (.slice (some ⟨b,off,none⟩) r.body.length cb) (.slice af facts.length cf) r s' q' vo' wr)∧Hid (Kp w0.heap.size FB wl wr)) (fun kv _=>facts.length - (intOf kv).toNat)
           case atStart=>exact ⟨0,(sl,false),q,vo,Nat.zero_le _,rfl,rfl,HFL.out,Kp.refl _ _ _⟩
           case round =>
            obtain ⟨k,s',q',vo',hk,rfl,HSK',HFK,HKK⟩:=hrel
            have f5:wr.cell? ⟨FB,5,none⟩=some (.slice af facts.length cf):=by rw [Lib.cell_of_heap HFK.out.b]; rfl
            have f7k:wr.cell? ⟨FB,7,none⟩=some (.bool s'.2):=by rw [Lib.cell_of_heap HFK.out.b]; rfl
            have HKW:Hid (Kp w0.heap.size FB w wr):=(Kp.of_below HBL.out HW0.out.size).trans HKK.out
            by_cases hkl:k<facts.length
            · have HSPL:Hid (facts.flatMap (Ru.fromF facts r.body kf j y1)=(facts.take k).flatMap (Ru.fromF facts r.body kf j y1)++(facts.drop k).flatMap (Ru.fromF facts r.body kf j y1)):=by show _=_; rw [← List.flatMap_append,List.take_append_drop]
              have gkl:decide ((k:Int)<(facts.length:Int))=true:=decide_eq_true (by omega)
              have gkn:decide (k<facts.length)=true:=decide_eq_true hkl
              cases hmn:s'.2
              · rw [hmn] at f7k
                have hFV9:=HF.out.f wr (HKF.out.trans HKW.out)
                obtain ⟨af9,cf9,hv9,_,hFA9⟩:=hFV9
                injection hv9 with e9 _ _
                subst e9
                obtain ⟨fb,foff,rfl,f0,fv,f1,hIv⟩:=facts_at hFA9 k hkl
                have hmem:=factD_mem facts k hkl
                have HWR:Hid (Below w0.heap.size w0 wr):=Kp.below HKK.out HWL.out
                have z0:=f0
                have z1:=f1
                have HTK:Hid ((facts.take (k+1)).flatMap (Ru.fromF facts r.body kf j y1)=(facts.take k).flatMap (Ru.fromF facts r.body kf j y1)++Ru.fromF facts r.body kf j y1 (Rl.factD facts k)):=by
                 show _=_
                 rw [List.take_add_one,factD_get facts k hkl,List.flatMap_append]
                 congr 1
                 exact List.flatMap_singleton _ _
                have HLEN:Hid ((Rl.factD facts k).pred=l.pred→l.terms.length=(Rl.factD facts k).args.length):=fun h=>HFINE.out.i.a HK1.out _ hmem h
                have HANM:Hid (∀ n,n∈(Rl.factD facts k).args→Sc.isNum n=true):=HF.out.fn _ hmem
                have HAI:Hid _:=hIv
                obtain ⟨ai,ci,rfl,hIA⟩:=hIv
                have HIA:Hid _:=hIA
                have HM2:Hid _:=hmn
                have dl2:wr.cell? ⟨LB,2,none⟩=some (.int .i64 l.pred):=by rw [Lib.cell_of_heap (HKK.out.keep _ _ _ HLB.out HLN.out (by decide))]; rfl
                clear f0 f1 hIA hmem hmn hFA9
                generalize hfk:Rl.factD facts k=ff at *
                obtain ⟨fp,fa⟩:=ff
                dsimp only at *
                clear hfk
                go_upto_region 14 with fail
                have hbx:=new_below wr (.cells #[.int .i64 fp,.slice ai fa.length ci] 55)
                have HXB:Hid _:=heap_alloc_new wr (.cells #[.int .i64 fp,.slice ai fa.length ci] 55)
                have HFX:Hid (FindI FB vt (.slice (some ⟨b,off,none⟩) r.body.length cb) (.slice (some ⟨fb,foff,none⟩) facts.length cf) r s' q' vo' (wr.alloc (.cells #[.int .i64 fp,.slice ai fa.length ci] 55))):=HFK.out.below hbx
                have HKX:Hid (Kp w0.heap.size FB wl (wr.alloc (.cells #[.int .i64 fp,.slice ai fa.length ci] 55))):=HKK.out.trans (Kp.of_below hbx HWR.out.size)
                have HRX:Hid (Rows2 w.heap.size (wr.alloc (.cells #[.int .i64 fp,.slice ai fa.length ci] 55)) (.slice a1 m c1) (.slice a2 m c2) m y1):=HRL.out.keep HKX.out hszF
                have HWX:Hid (Below w0.heap.size w0 (wr.alloc (.cells #[.int .i64 fp,.slice ai fa.length ci] 55))):=HWR.out.trans (hbx.mono HWR.out.size)
                have dl2x:=cell_below hbx dl2
                have HLX:Hid _:=HKX.out.keep _ _ _ HLB.out HLN.out (by decide)
                have HXF:Hid (FB<wr.heap.size):=HFK.out.lt
                have HCX:Hid (∀ z,Below (wr.alloc (.cells #[.int .i64 fp,.slice ai fa.length ci] 55)).heap.size (wr.alloc (.cells #[.int .i64 fp,.slice ai fa.length ci] 55)) z→∀ (b o:Nat) (u:Value),wr.cell? ⟨b,o,none⟩=some u→z.cell? ⟨b,o,none⟩=some u):=fun z hz b o u hc=>cell_below (hbx.trans (hz.mono hbx.size)) hc
                clear z0 z1 f5 f7k dl2 hbx
                generalize hXBn:wr.heap.size=XB at *
                generalize wr.alloc (.cells #[.int .i64 fp,.slice ai fa.length ci] 55)=wx at *
                have HXBn:Hid _:=hXBn
                clear hXBn
                have x0:wx.cell? ⟨XB,0,none⟩=some (.int .i64 fp):=by rw [Lib.cell_of_heap HXB.out]; rfl
                by_cases hpe:fp=l.pred
                · have gp:(fp != l.pred)=false:=by simpa using hpe
                  have HLE2:Hid (l.terms.length=fa.length):=HLEN.out hpe
                  have hts:=HFINE.out.s
                  have HPE:Hid _:=hpe
                  have hb1:Below wx.heap.size wx (wx.alloc (.cells #[] 3)):=new_below _ _
                  have hWB:w.heap.size≤wx.heap.size:=Nat.le_trans HBL.out.size HKX.out.size
                  clear hpe
                  go_wp2_with (at_builtin; refine wpl_copy rfl (.tmp 122) (.tmp 123) 22 3 i3 _ 8 rfl Tryz.underlying22 h30 h31 h32 h33 rfl (by decide) wx.heap.size w.heap.size m _ _ _ rfl rfl (World.ownsRow_made wx #[] 0 (Nat.le_refl _) (Nat.zero_le _) (by simp)) (HRX.out.n.alloc _) (fun c hc=>by obtain ⟨n,_,rfl⟩:=List.mem_map.mp hc; rfl) (by omega) hb1.size ?_)
                  intro v1 w6 hn1 hg1
                  have hB1:Below wx.heap.size wx w6:=hb1.grown hg1 hb1.size (fun kQ hk=>by have:wx.heap.size=kQ:=(by simpa [Value.ownBlock] using hk); omega)
                  obtain ⟨am,cm,rfl⟩:=own_slice hn1
                  have HRX6:Hid (Rows2 w.heap.size w6 (.slice a1 m c1) (.slice a2 m c2) m y1):=HRX.out.below hB1
                  have hb2:Below w6.heap.size w6 (w6.alloc (.cells #[] 4)):=new_below _ _
                  have HN6:Hid (w6.ownsRow wx.heap.size 3 1 (.slice am m cm) m (y1.nums.map (Value.int .i64))):=hn1
                  have HB6:Hid _:=hB1
                  have hsz6:=hB1.size
                  clear hn1 hg1 hB1 hb1 x0 dl2x
                  go_wp2_with (at_builtin; refine wpl_copy rfl (.tmp 125) (.tmp 126) 57 4 i4 _ 1 rfl Tryz.underlying57 h40 h41 h42 h43 rfl (by decide) wx.heap.size w.heap.size m _ _ _ rfl rfl (World.ownsRow_made w6 #[] 0 hsz6 (Nat.zero_le _) (by simp)) (HRX6.out.s.alloc _) (fun c hc=>by obtain ⟨n,_,rfl⟩:=List.mem_map.mp hc; rfl) (by omega) (Nat.le_trans hsz6 hb2.size) ?_)
                  intro v2 w7 hs2 hg2
                  obtain ⟨aw,cw,rfl⟩:=own_slice hs2
                  have HB7:Hid (Below wx.heap.size wx w7):=(HB6.out.trans (hb2.mono hsz6)).grown hg2 (Nat.le_trans hsz6 hb2.size) (fun kQ hk=>by have:w6.heap.size=kQ:=(by simpa [Value.ownBlock] using hk); omega)
                  have HR7:Hid (Rows2 wx.heap.size w7 (.slice am m cm) (.slice aw m cw) m y1):=⟨own_type HN6.out (fun k c hk=>(hg2.block k (Nat.lt_of_lt_of_le (heap_lt hk) hb2.size) (fun e=>by
                   have h9:w6.heap.size=k:=(by simpa [Value.ownBlock] using e.symm)
                   have:=heap_lt hk
                   omega)).trans ((hb2.block k (heap_lt hk)).trans hk)),hs2,HRX6.out.ok⟩
                  clear hs2 hg2 hb2 HN6 HB6 HRX6 hsz6
                  have HNN:Hid (∀ z:World,Below wx.heap.size wx z→z.cell? ⟨LB,3,none⟩=some (.slice at_ l.terms.length ct)∧z.cell? ⟨XB,1,none⟩=some (.slice ai fa.length ci)):=fun z hz=>⟨cell_below hz (by rw [Lib.cell_of_heap HLX.out]; rfl),cell_below hz (by rw [Lib.cell_of_heap HXB.out]; rfl)⟩
                  go_wp2_with fail
                  go_loopw [13,14] (fun okv tv wr=>∃ (t:Nat) (z:Ru.Way) (ok:Bool),t≤l.terms.length∧tv=.int .i64 t∧okv=.bool ok∧Hid (Ru.withW y1 l.terms fa=if ok=true then Ru.withW z (l.terms.drop t) (fa.drop t) else none)∧Hid (Rows2 wx.heap.size wr (.slice am m cm) (.slice aw m cw) m z)∧Hid (Below wx.heap.size wx wr)) (fun _ tv _=>l.terms.length - (intOf tv).toNat)
                  case atStart=>exact ⟨0,y1,true,Nat.zero_le _,rfl,rfl,by show _=_; rw [if_pos rfl,List.drop_zero,List.drop_zero],HR7.out,HB7.out⟩
                  case round =>
                   clear HR7 HB7
                   obtain ⟨t,z,ok,ht,rfl,rfl,HWW,HRZ,HBZ⟩:=hrel
                   obtain ⟨xl3,xx1⟩:=HNN.out wr HBZ.out
                   by_cases htl:t<l.terms.length
                   · have gtl:decide ((t:Int)<(l.terms.length:Int))=true:=decide_eq_true (by omega)
                     have gtn:decide (t<l.terms.length)=true:=decide_eq_true htl
                     cases ok
                     · have HNONE:Hid (Ru.withW y1 l.terms fa=none):=by show _=_; rw [HWW.out]; rfl
                       have HTK2:Hid (s'=Ru.runO (sl,false) ((facts.take (k+1)).flatMap (Ru.fromF facts r.body kf j y1))):=by
                        show _=_
                        rw [HTK.out,Ru.runO_append,← HSK'.out]
                        unfold Ru.fromF
                        rw [HLG.out,if_pos HPE.out,HNONE.out]
                        rfl
                       go_wp2_with fail
                       go_roundw
                       case rel=>exact ⟨k+1,s',q',vo',hkl,by go_num,HTK2.out,HFX.out.below HBZ.out,HKX.out.trans (Kp.of_below HBZ.out HWX.out.size)⟩
                       case measure=>simp [intOf]; omega
                     · obtain ⟨tb,toff,rfl,hc⟩:=pterms_at HTA.out t htl
                       obtain ⟨hc0,hc1⟩:=hc t htl
                       obtain ⟨gb,goff,rfl,hga⟩:=ints_cell HIA.out (show t<fa.length by have:=HLE2.out; omega)
                       have htf:t<fa.length:=by have:=HLE2.out; omega
                       have HWZ:Hid (Below w0.heap.size w0 wr):=HWX.out.trans (HBZ.out.mono HWX.out.size)
                       have y0:=cell_below HWZ.out hc0
                       have y1c:=cell_below HWZ.out hc1
                       have HTIN:Hid (Ru.TermIn m (Sc.termD l.terms t)):=HFINE.out.i.t _ (Ru.termD_mem htl)
                       have HST:Hid (Ru.withW y1 l.terms fa=match Ru.with1 z (Sc.termD l.terms t) (Sc.intD fa t) with | none=>none | some y'=>Ru.withW y' (l.terms.drop (t+1)) (fa.drop (t+1))):=by show _=_; rw [HWW.out,if_pos rfl]; exact Ru.withW_drop z l.terms fa t htl
                       have HAN:Hid (Sc.isNum (Sc.intD fa t)=true):=HANM.out _ (by unfold Sc.intD; rw [List.getD_eq_getElem?_getD,List.getElem?_eq_getElem (by have:=HLE2.out; omega)]; exact List.getElem_mem _)
                       have HGA:Hid _:=hga
                       clear hc hc0 hc1 hga
                       generalize Sc.intD fa t=an1 at *
                       generalize Sc.termD l.terms t=tm at *
                       obtain ⟨tv,tn⟩:=tm
                       dsimp only at *
                       go_upto_region 22 with fail
                       have hbt:=new_below wr (.cells #[.int .i64 tv,.int .i64 tn] 147)
                       have HTB:Hid _:=heap_alloc_new wr (.cells #[.int .i64 tv,.int .i64 tn] 147)
                       have HRT:Hid (Rows2 wx.heap.size (wr.alloc (.cells #[.int .i64 tv,.int .i64 tn] 147)) (.slice am m cm) (.slice aw m cw) m z):=HRZ.out.below hbt
                       have HBT:Hid (Below wx.heap.size wx (wr.alloc (.cells #[.int .i64 tv,.int .i64 tn] 147))):=HBZ.out.trans (hbt.mono HBZ.out.size)
                       clear xl3 xx1 y0 y1c HRZ HBZ hbt HWZ
                       generalize hTBn:wr.heap.size=TB at *
                       generalize wr.alloc (.cells #[.int .i64 tv,.int .i64 tn] 147)=wt at *
                       clear hTBn
                       have b0:wt.cell? ⟨TB,0,none⟩=some (.int .i64 tv):=by rw [Lib.cell_of_heap HTB.out]; rfl
                       have b1:wt.cell? ⟨TB,1,none⟩=some (.int .i64 tn):=by rw [Lib.cell_of_heap HTB.out]; rfl
                       obtain ⟨_,xx1⟩:=HNN.out wt HBT.out
                       have ga:=HCX.out wt HBT.out _ _ _ HGA.out
                       by_cases hv0:tv<0
                       · have gv:decide (tv<0)=true:=decide_eq_true hv0
                         have HW1:Hid (Ru.with1 z ⟨tv,tn⟩ an1=if tn=an1 then some z else none):=Ru.with1_neg hv0
                         clear hv0
                         obtain ⟨eb,heb⟩:∃ eb,(tn==an1)=eb:=⟨_,rfl⟩
                         have HWN:Hid (Ru.withW y1 l.terms fa=if eb=true then Ru.withW z (l.terms.drop (t+1)) (fa.drop (t+1)) else none):=by
                          show _=_
                          rw [HST.out,HW1.out,← heb]
                          by_cases he:tn=an1
                          · rw [if_pos he,if_pos (by simpa using he)]
                          · rw [if_neg he,if_neg (by simpa using he)]
                         go_upto_region 23 with fail
                         go_quiet (fail)
                         go_wp2_with fail
                         go_roundw
                         case rel=>exact ⟨t+1,z,eb,htl,by go_num,by first | rfl | rw [heb],HWN.out,HRT.out.below (blw_drewN _ _),HBT.out.trans ((blw_drewN _ _).mono HBT.out.size)⟩
                         case measure=>simp [intOf]; omega
                       · have gv:decide (tv<0)=false:=decide_eq_false hv0
                         obtain ⟨v,rfl⟩:∃ v:Nat,tv=v:=⟨tv.toNat,by omega⟩
                         have hvm:v<m:=by rcases HTIN.out with h | h <;> (dsimp only at h; omega)
                         obtain ⟨NB,SB,cN,cS,e1,e2,hNB,hSB,hne⟩:=HRT.out.forms (by omega)
                         injection e1 with e1 _ e3
                         injection e2 with e2 _ e4
                         subst e1 e2 e3 e4
                         have hnl:=HRT.out.ok.wf.n
                         have hkl2:=HRT.out.ok.wf.k
                         have cNv:wt.cell? ⟨NB,v,none⟩=some (.int .i64 (z.nums.getD v 0)):=by
                          rw [World.ownsRow.cellAt HRT.out.n v (by omega),List.getElem?_map,List.getElem?_eq_getElem (by omega),List.getD_eq_getElem?_getD,List.getElem?_eq_getElem (by omega)]
                          rfl
                         have cSv:wt.cell? ⟨SB,v,none⟩=some (.bool (z.known.getD v false)):=by
                          rw [World.ownsRow.cellAt HRT.out.s v (by omega),List.getElem?_map,List.getElem?_eq_getElem (by omega),List.getD_eq_getElem?_getD,List.getElem?_eq_getElem (by omega)]
                          rfl
                         cases hkv:z.known.getD v false
                         · have HW1:Hid (Ru.with1 z ⟨v,tn⟩ an1=some ⟨z.nums.set v an1,z.known.set v true⟩):=Ru.with1_nw hkv
                           rw [hkv] at cSv
                           clear hv0
                           go_upto_region 21 with fail
                           have HNB0':∃ cur,wt.heap[NB]?=some (.cells cur 3):=by
                            rcases id HRT.out.n.2 with ⟨h0,_⟩ | ⟨g,cap,cur,hv,_,hg,_⟩
                            · cases h0
                            · injection hv with e1
                              injection e1 with e1
                              injection e1 with e1
                              subst e1
                              exact ⟨cur,hg⟩
                           have HSB0':∃ cur,wt.heap[SB]?=some (.cells cur 4):=by
                            rcases id HRT.out.s.2 with ⟨h0,_⟩ | ⟨g,cap,cur,hv,_,hg,_⟩
                            · cases h0
                            · injection hv with e1
                              injection e1 with e1
                              injection e1 with e1
                              subst e1
                              exact ⟨cur,hg⟩
                           obtain ⟨cur3,hNB0⟩:=HNB0'
                           obtain ⟨cur4,hSB0⟩:=HSB0'
                           have HNB0:Hid (wt.heap[NB]?=some (.cells cur3 3)):=hNB0
                           have HSB0:Hid (wt.heap[SB]?=some (.cells cur4 4)):=hSB0
                           clear hNB0 hSB0
                           obtain ⟨oN,hoN⟩:∃ oN,(wt.setCell ⟨NB,v,none⟩ (.int .i64 an1)).heap[NB]?=some oN:=⟨_,Lib.heap_setCell_same HNB0.out _⟩
                           have HON:Hid ((wt.setCell ⟨NB,v,none⟩ (.int .i64 an1)).heap[NB]?=some oN):=hoN
                           clear hoN
                           have HTN:Hid (¬ TB=NB):=fun e=>by
                            have h9:=HTB.out
                            rw [e,HNB0.out] at h9
                            injection h9 with h9
                            injection h9 with _ h9
                            cases h9
                           have HXN:Hid (¬ XB=NB):=fun e=>by
                            have h9:=HXB.out
                            have:=heap_lt h9
                            omega
                           have HGN:Hid (¬ gb=NB):=fun e=>by
                            have h7:=World.block_lt_of_cell? _ _ HGA.out
                            have h8:=heap_lt HXB.out
                            have h9:=HXBn.out
                            dsimp only at h7
                            omega
                           refine wp_region_write (NbR NB) (fun _ _ _ h k=>h.trans k) (fun _ _ h=>NbR.of_below h) (fun tQ vQ _=>vQ=from21Tv NB SB TB XB gb goff t v an1 (.slice (some ⟨NB,0,none⟩) m cm) (.slice (some ⟨SB,0,none⟩) m cw) (.slice (some ⟨gb,goff,none⟩) fa.length ci) tQ) (fun _ wQ=>wQ.heap[NB]?=some oN) 14 from21W (fun _ _=>true) (by decide) (by kernel_rfl) (by kernel_rfl) (by kernel_rfl) (fun _ _ _ _ _ h=>h) (fun _ _ _ hb h=>(hb.block _ (heap_lt h)).trans h) (fun _ _ _ _ _ _ _ _ h=>h) ?hopA ?htailA
                           case hopA =>
                            refine AllOpsI.cons (fun a y_ h hO=>?_) ?_
                            · rw [if_neg (by decide)]
                              have e11:a.eval (.tmp 11)=(.slice (some ⟨NB,0,none⟩) m cm:Value):=h.old 11 (by kernel_rfl)
                              refine opOk_val (v:=.slice (some ⟨NB,0,none⟩) m cm) (w':=y_) (wanted_none rfl) ?_ (fun t ht=>by cases ht; exact rfl) (Below.refl _ _)
                              have ec:=evc a
                              generalize a.eval=ev at *
                              clear h hO
                              go_simp
                            refine AllOpsI.cons (fun a y_ h hO=>?_) ?_
                            · rw [if_neg (by decide)]
                              have e15:a.eval (.tmp 15)=(.pointer (some ⟨TB,0,none⟩):Value):=h.old 15 (by kernel_rfl)
                              refine opOk_val (v:=.pointer (some ⟨TB,0,none⟩)) (w':=y_) (wanted_none rfl) ?_ (fun t ht=>by cases ht; exact rfl) (Below.refl _ _)
                              have ec:=evc a
                              generalize a.eval=ev at *
                              clear h hO
                              go_simp
                            refine AllOpsI.cons (fun a y_ h hO=>?_) ?_
                            · rw [if_neg (by decide)]
                              have e144:a.eval (.tmp 144)=(.pointer (some ⟨TB,0,none⟩):Value):=h.of 144 (by kernel_rfl)
                              have c0:=h.below.cell b0 HTN.out
                              refine opOk_val (v:=.int .i64 (v:Nat)) (w':=y_) (wanted_none rfl) ?_ (fun t ht=>by cases ht; exact rfl) (Below.refl _ _)
                              have ec:=evc a
                              generalize a.eval=ev at *
                              clear h hO
                              go_simp
                            refine AllOpsI.cons (fun a y_ h hO=>?_) ?_
                            · rw [if_neg (by decide)]
                              have e12:a.eval (.tmp 12)=(.slice (some ⟨SB,0,none⟩) m cw:Value):=h.old 12 (by kernel_rfl)
                              refine opOk_val (v:=.slice (some ⟨SB,0,none⟩) m cw) (w':=y_) (wanted_none rfl) ?_ (fun t ht=>by cases ht; exact rfl) (Below.refl _ _)
                              have ec:=evc a
                              generalize a.eval=ev at *
                              clear h hO
                              go_simp
                            refine AllOpsI.cons (fun a y_ h hO=>?_) ?_
                            · rw [if_neg (by decide)]
                              have e15:a.eval (.tmp 15)=(.pointer (some ⟨TB,0,none⟩):Value):=h.old 15 (by kernel_rfl)
                              refine opOk_val (v:=.pointer (some ⟨TB,0,none⟩)) (w':=y_) (wanted_none rfl) ?_ (fun t ht=>by cases ht; exact rfl) (Below.refl _ _)
                              have ec:=evc a
                              generalize a.eval=ev at *
                              clear h hO
                              go_simp
                            refine AllOpsI.cons (fun a y_ h hO=>?_) ?_
                            · rw [if_neg (by decide)]
                              have e147:a.eval (.tmp 147)=(.pointer (some ⟨TB,0,none⟩):Value):=h.of 147 (by kernel_rfl)
                              have c0:=h.below.cell b0 HTN.out
                              refine opOk_val (v:=.int .i64 (v:Nat)) (w':=y_) (wanted_none rfl) ?_ (fun t ht=>by cases ht; exact rfl) (Below.refl _ _)
                              have ec:=evc a
                              generalize a.eval=ev at *
                              clear h hO
                              go_simp
                            refine AllOpsI.cons (fun a y_ h hO=>?_) ?_
                            · rw [if_neg (by decide)]
                              have e10:a.eval (.tmp 10)=(.pointer (some ⟨XB,0,none⟩):Value):=h.old 10 (by kernel_rfl)
                              refine opOk_val (v:=.pointer (some ⟨XB,1,none⟩)) (w':=y_) (wanted_none rfl) ?_ (fun t ht=>by cases ht; exact rfl) (Below.refl _ _)
                              have ec:=evc a
                              generalize a.eval=ev at *
                              clear h hO
                              go_simp
                            refine AllOpsI.cons (fun a y_ h hO=>?_) ?_
                            · rw [if_neg (by decide)]
                              have e149:a.eval (.tmp 149)=(.pointer (some ⟨XB,1,none⟩):Value):=h.of 149 (by kernel_rfl)
                              have c0:=h.below.cell xx1 HXN.out
                              refine opOk_val (v:=.slice (some ⟨gb,goff,none⟩) fa.length ci) (w':=y_) (wanted_none rfl) ?_ (fun t ht=>by cases ht; exact rfl) (Below.refl _ _)
                              have ec:=evc a
                              generalize a.eval=ev at *
                              clear h hO
                              go_simp
                            refine AllOpsI.cons (fun a y_ h hO=>?_) ?_
                            · rw [if_neg (by decide)]
                              have e14:a.eval (.tmp 14)=(.int .i64 (t:Nat):Value):=h.old 14 (by kernel_rfl)
                              refine opOk_val (v:=.int .i64 (t:Nat)) (w':=y_) (wanted_none rfl) ?_ (fun t ht=>by cases ht; exact rfl) (Below.refl _ _)
                              have ec:=evc a
                              generalize a.eval=ev at *
                              clear h hO
                              go_simp
                            refine AllOpsI.cons (fun a y_ h hO=>?_) ?_
                            · rw [if_neg (by decide)]
                              have e150:a.eval (.tmp 150)=(.slice (some ⟨gb,goff,none⟩) fa.length ci:Value):=h.of 150 (by kernel_rfl)
                              have e151:a.eval (.tmp 151)=(.int .i64 (t:Nat):Value):=h.of 151 (by kernel_rfl)
                              refine opOk_val (v:=.pointer (some ⟨gb,goff+t,none⟩)) (w':=y_) (wanted_none rfl) ?_ (fun t ht=>by cases ht; exact rfl) (Below.refl _ _)
                              have ec:=evc a
                              generalize a.eval=ev at *
                              clear h hO
                              go_simp
                            refine AllOpsI.cons (fun a y_ h hO=>?_) ?_
                            · rw [if_neg (by decide)]
                              have e152:a.eval (.tmp 152)=(.pointer (some ⟨gb,goff+t,none⟩):Value):=h.of 152 (by kernel_rfl)
                              have c0:=h.below.cell ga HGN.out
                              refine opOk_val (v:=.int .i64 an1) (w':=y_) (wanted_none rfl) ?_ (fun t ht=>by cases ht; exact rfl) (Below.refl _ _)
                              have ec:=evc a
                              generalize a.eval=ev at *
                              clear h hO
                              go_simp
                            refine AllOpsI.cons (fun a y_ h hO=>?_) ?_
                            · rw [if_neg (by decide)]
                              have e143:a.eval (.tmp 143)=(.slice (some ⟨NB,0,none⟩) m cm:Value):=h.of 143 (by kernel_rfl)
                              have e145:a.eval (.tmp 145)=(.int .i64 (v:Nat):Value):=h.of 145 (by kernel_rfl)
                              refine opOk_val (v:=.pointer (some ⟨NB,v,none⟩)) (w':=y_) (wanted_none rfl) ?_ (fun t ht=>by cases ht; exact rfl) (Below.refl _ _)
                              have ec:=evc a
                              generalize a.eval=ev at *
                              clear h hO
                              go_simp
                            refine AllOpsI.cons (fun a y_ h hO=>?_) ?_
                            · rw [if_pos (by decide)]
                              have e154:a.eval (.tmp 154)=(.pointer (some ⟨NB,v,none⟩):Value):=h.of 154 (by kernel_rfl)
                              have e153:a.eval (.tmp 153)=(.int .i64 an1:Value):=h.of 153 (by kernel_rfl)
                              have hpre:=h.pre (by kernel_rfl)
                              have cc:=cell_below hpre cNv
                              have hy:=(hpre.block _ (heap_lt HNB0.out)).trans HNB0.out
                              have ff:=Lib.frozen_of_heap hy v
                              have hnew:(y_.setCell ⟨NB,v,none⟩ (.int .i64 an1)).heap[NB]?=some oN:=by rw [Lib.heap_setCell_same hy,← HON.out,Lib.heap_setCell_same HNB0.out]
                              refine ⟨wanted_none rfl,opW_void (w':=y_.setCell ⟨NB,v,none⟩ (.int .i64 an1)) ?_ ⟨undef,rfl,fun t ht=>(by cases ht),NbR.set _ _ _,fun _ _=>hnew,hnew⟩⟩
                              have ec:=evc a
                              generalize a.eval=ev at *
                              clear h hO
                              go_simp
                            refine AllOpsI.cons (fun a y_ h hO=>?_) ?_
                            · rw [if_neg (by decide)]
                              have e146:a.eval (.tmp 146)=(.slice (some ⟨SB,0,none⟩) m cw:Value):=h.of 146 (by kernel_rfl)
                              have e148:a.eval (.tmp 148)=(.int .i64 (v:Nat):Value):=h.of 148 (by kernel_rfl)
                              refine opOk_val (v:=.pointer (some ⟨SB,v,none⟩)) (w':=y_) (wanted_none rfl) ?_ (fun t ht=>by cases ht; exact rfl) (Below.refl _ _)
                              have ec:=evc a
                              generalize a.eval=ev at *
                              clear h hO
                              go_simp
                            exact AllOpsI.nil
                           case htailA =>
                            rintro ⟨tm0,df⟩ w8 hI _
                            have e155:Act.eval ⟨tm0,df⟩ (.tmp 155)=.pointer (some ⟨SB,v,none⟩):=hI.of 13 _ 155 (by decide) rfl rfl (by kernel_rfl)
                            have hN8:w8.heap[NB]?=some oN:=hI.wrote 12 (by decide) rfl
                            have hsS:SB<wt.heap.size:=heap_lt HSB0.out
                            have hS8:=(hI.below.block SB hsS hne).trans HSB0.out
                            have cS8:w8.cell? ⟨SB,v,none⟩=some (.bool false):=hI.below.cell cSv hne
                            have fS8:w8.frozen? ⟨SB,v,none⟩=false:=Lib.frozen_of_heap hS8 v
                            have hsN:tm0.size=192:=hI.size
                            show wpOps Tryz.prog _ _ [14] _ _
                            rw [wpOps_cons]
                            refine wpOp_void rfl (wanted_none rfl) rfl (w':=w8.setCell ⟨SB,v,none⟩ (.bool true)) ?_ ?_
                            · show Sem.run Tryz.prog (execOp (Act.eval ⟨tm0,df⟩) _) w8=_
                              have ec:=evc ⟨tm0,df⟩
                              generalize Act.eval ⟨tm0,df⟩=ev at *
                              clear hI
                              go_simp
                            have HR9:Hid (Rows2 wx.heap.size (w8.setCell ⟨SB,v,none⟩ (.bool true)) (.slice (some ⟨NB,0,none⟩) m cm) (.slice (some ⟨SB,0,none⟩) m cw) m ⟨z.nums.set v an1,z.known.set v true⟩):=by
                             have hp:=HRT.out.put hne v an1 HAN.out
                             refine ⟨rl_own_alone hp.n (fun g hg=>?_),rl_own_alone hp.s (fun g hg=>?_),hp.ok⟩
                             · have hgN:NB=g:=(by simpa [Value.ownBlock] using hg)
                               subst hgN
                               rw [heap_set_other (fun e=>hne e.symm),heap_set_other (fun e=>hne e.symm),hN8,HON.out]
                             · have hgS:SB=g:=(by simpa [Value.ownBlock] using hg)
                               subst hgS
                               rw [Lib.heap_setCell_same hS8,Lib.heap_setCell_same ((heap_set_other hne).trans HSB0.out)]
                            have HB9:Hid (Below wx.heap.size wx (w8.setCell ⟨SB,v,none⟩ (.bool true))):=by
                             have h1:Below wx.heap.size wx w8:=⟨hI.below.os.trans HBT.out.os,hI.below.tape.trans HBT.out.tape,hI.below.output.trans HBT.out.output,Nat.le_trans HBT.out.size hI.below.size,fun k hk=>(hI.below.block k (Nat.lt_of_lt_of_le hk HBT.out.size) (by omega)).trans (HBT.out.block k hk)⟩
                             exact h1.setCell (p:=⟨SB,v,none⟩) hSB _
                            have hst:∀ t,t∉[143,144,145,146,147,148,149,150,151,152,153,154,155]→tm0.getD t undef=_:=fun t ht=>hI.still t ht
                            obtain rfl:df=[]:=hI.defers
                            clear hI e155 hN8 hS8 cS8 fS8 b0 b1 xx1 ga cNv cSv
                            show Exit.inBlock _ _ Exit.normal ⟨tm0,[]⟩ (w8.setCell ⟨SB,v,none⟩ (.bool true))
                            generalize w8.setCell ⟨SB,v,none⟩ (.bool true)=w9 at *
                            have hF8:=tmps_fold [143,144,145,146,147,148,149,150,151,152,153,154,155] tm0 _ (hsN.trans (by rfl)) hst
                            clear hsN hst
                            simp only [List.foldl_cons,List.foldl_nil] at hF8
                            generalize tm0.getD 143 undef=x143 at hF8
                            generalize tm0.getD 144 undef=x144 at hF8
                            generalize tm0.getD 145 undef=x145 at hF8
                            generalize tm0.getD 146 undef=x146 at hF8
                            generalize tm0.getD 147 undef=x147 at hF8
                            generalize tm0.getD 148 undef=x148 at hF8
                            generalize tm0.getD 149 undef=x149 at hF8
                            generalize tm0.getD 150 undef=x150 at hF8
                            generalize tm0.getD 151 undef=x151 at hF8
                            generalize tm0.getD 152 undef=x152 at hF8
                            generalize tm0.getD 153 undef=x153 at hF8
                            generalize tm0.getD 154 undef=x154 at hF8
                            generalize tm0.getD 155 undef=x155 at hF8
                            simp only [List.setIfInBounds_toArray,List.set_cons_zero,List.set_cons_succ] at hF8
                            subst hF8
                            go_wp2_with fail
                            go_roundw
                            case rel=>exact ⟨t+1,⟨z.nums.set v an1,z.known.set v true⟩,true,htl,by go_num,rfl,by show _=_; rw [if_pos rfl,HST.out,HW1.out],HR9.out,HB9.out⟩
                            case measure=>simp [intOf]; omega
                         · have HW1:Hid (Ru.with1 z ⟨v,tn⟩ an1=if z.nums.getD v 0=an1 then some z else none):=Ru.with1_kn hkv
                           rw [hkv] at cSv
                           clear hv0
                           generalize z.nums.getD v 0=nv at *
                           obtain ⟨eb,heb⟩:∃ eb,(nv==an1)=eb:=⟨_,rfl⟩
                           have HWN:Hid (Ru.withW y1 l.terms fa=if eb=true then Ru.withW z (l.terms.drop (t+1)) (fa.drop (t+1)) else none):=by
                            show _=_
                            rw [HST.out,HW1.out,← heb]
                            by_cases he:nv=an1
                            · rw [if_pos he,if_pos (by simpa using he)]
                            · rw [if_neg he,if_neg (by simpa using he)]
                           go_upto_region 25 with fail
                           go_quiet (fail)
                           go_wp2_with fail
                           go_roundw
                           case rel=>exact ⟨t+1,z,eb,htl,by go_num,by first | rfl | rw [heb],HWN.out,HRT.out.below (blw_drewN _ _),HBT.out.trans ((blw_drewN _ _).mono HBT.out.size)⟩
                           case measure=>simp [intOf]; omega
                   · have gtl:decide ((t:Int)<(l.terms.length:Int))=false:=decide_eq_false (by omega)
                     have gtn:decide (t<l.terms.length)=false:=decide_eq_false htl
                     cases ok
                     · have HNONE:Hid (Ru.withW y1 l.terms fa=none):=by show _=_; rw [HWW.out]; rfl
                       have HTK2:Hid (s'=Ru.runO (sl,false) ((facts.take (k+1)).flatMap (Ru.fromF facts r.body kf j y1))):=by
                        show _=_
                        rw [HTK.out,Ru.runO_append,← HSK'.out]
                        unfold Ru.fromF
                        rw [HLG.out,if_pos HPE.out,HNONE.out]
                        rfl
                       go_wp2_with fail
                       go_roundw
                       case rel=>exact ⟨k+1,s',q',vo',hkl,by go_num,HTK2.out,HFX.out.below HBZ.out,HKX.out.trans (Kp.of_below HBZ.out HWX.out.size)⟩
                       case measure=>simp [intOf]; omega
                     · have HSOME:Hid (Ru.withW y1 l.terms fa=some z):=by
                        show _=_
                        rw [HWW.out,if_pos rfl,List.drop_of_length_le (by omega)]
                        cases fa.drop t <;> rfl
                       have HCALL:Hid _:=HIH.out (j+1) z s' q' vo' wx.heap.size (.slice am m cm) (.slice aw m cw) wr (HKF.out.trans (((Kp.of_below HBL.out HW0.out.size).trans HKX.out).trans (Kp.of_below HBZ.out HWX.out.size))) (HFX.out.below HBZ.out) HFX.out.lt HRZ.out (by omega) (by omega) (by rw [HSK'.out]; exact Ru.runO_le _ hsl)
                       rw [show ((j+1:Nat):Int)=(j:Int)+1 from by omega] at HCALL
                       have HTK2:Hid (Ru.runO s' (Ru.fromN facts r.body kf (j+1) z)=Ru.runO (sl,false) ((facts.take (k+1)).flatMap (Ru.fromF facts r.body kf j y1))):=by
                        show _=_
                        rw [HTK.out,Ru.runO_append,← HSK'.out]
                        unfold Ru.fromF
                        rw [HLG.out,if_pos HPE.out,HSOME.out]
                       go_wp2_with fail
                       refine Calls.mono HCALL.out ?_
                       rintro _ w9 ⟨rfl,⟨q9,vo9,hF9⟩,hK9⟩
                       have HF9:Hid _:=hF9
                       have HK9:Hid (Kp w0.heap.size FB wl w9):=(HKX.out.trans (Kp.of_below HBZ.out HWX.out.size)).trans hK9
                       clear hF9 hK9 HCALL xl3 xx1
                       go_wp2_with fail
                       go_roundw
                       case rel=>exact ⟨k+1,_,q9,vo9,hkl,by go_num,HTK2.out,HF9.out,HK9.out⟩
                       case measure=>simp [intOf]; omega
                · have gp:(fp != l.pred)=true:=by simpa using hpe
                  have HTK2:Hid (s'=Ru.runO (sl,false) ((facts.take (k+1)).flatMap (Ru.fromF facts r.body kf j y1))):=by
                   show _=_
                   rw [HTK.out,Ru.runO_append,← HSK'.out]
                   unfold Ru.fromF
                   rw [HLG.out,if_neg hpe]
                   rfl
                  clear hpe
                  go_wp2_with fail
                  go_roundw
                  case rel=>exact ⟨k+1,s',q',vo',hkl,by go_num,HTK2.out,HFX.out,HKX.out⟩
                  case measure=>simp [intOf]; omega
              · rw [hmn] at f7k
                have HE:Hid (Ru.runO (sl,false) (facts.flatMap (Ru.fromF facts r.body kf j y1))=s'):=by
                 show _=_
                 rw [HSPL.out,Ru.runO_append,← HSK'.out]
                 exact Ru.runO_many hmn _
                clear hmn
                go_wp2_with fail
                refine bodyPost_end (results_none rfl _ _ _) rfl ?_
                exact ⟨rfl,⟨q',vo',by rw [HFN.out,HE.out]; exact HFK.out⟩,HKW.out⟩
            · have gkl:decide ((k:Int)<(facts.length:Int))=false:=decide_eq_false (by omega)
              have gkn:decide (k<facts.length)=false:=decide_eq_false hkl
              have HE:Hid (Ru.runO (sl,false) (facts.flatMap (Ru.fromF facts r.body kf j y1))=s'):=by
               show _=_
               rw [HSK'.out,List.take_of_length_le (by omega)]
              go_wp2_with fail
              refine bodyPost_end (results_none rfl _ _ _) rfl ?_
              exact ⟨rfl,⟨q',vo',by rw [HFN.out,HE.out]; exact HFK.out⟩,HKW.out⟩
         · have gk:((Sc.litD r.body j).kind != 1)=true:=by simpa using hk1
           have HSK2:Hid (Ru.skipTo r.body i=Ru.skipTo r.body (j+1)):=by show _=_; rw [HSK.out,HSL.out,if_neg hk1]
           clear hk1 q0 q1 q2 q3 hT
           generalize Sc.litD r.body j=l at *
           go_wp2_with fail
           go_roundw
           case rel=>exact ⟨trivial,j+1,by omega,hlt,by go_num,HSK2.out⟩
           case measure=>simp [intOf]; omega
       · have hje:j=r.body.length:=by omega
         have glt:decide ((j:Int)<(r.body.length:Int))=false:=decide_eq_false (by omega)
         have HFN:Hid (Ru.fromN facts r.body (kf+1) i y=[y1.nums]):=Ru.fromN_end HRK.out HWF.out (by rw [HSK.out,Ru.skipTo_end (by omega)]; omega)
         have geq:((j:Int)==(r.body.length:Int))=true:=by simp; omega
         have HQ:Hid (q.length=sl.length):=by show _=_; have h9:q.map (·.1)=sl:=HFI4.out.hq; rw [← h9,List.length_map]
         obtain ⟨ao,co,hvo⟩:=own_slice HFI4.out.o
         subst hvo
         have f6:w4.cell? ⟨FB,6,none⟩=some (.slice ao q.length co):=by rw [Lib.cell_of_heap HFI4.out.b]; rfl
         clear hje
         by_cases h2k:q.length=2000
         · have g2:((q.length:Int)==2000)=true:=by simp; omega
           have f74:w4.cell? ⟨FB,7,none⟩=some (.bool false):=by rw [Lib.cell_of_heap HFI4.out.b]; rfl
           have fr7:w4.frozen? ⟨FB,7,none⟩=false:=Lib.frozen_of_heap HFI4.out.b 7
           have HE:Hid (Ru.runO (sl,false) [y1.nums]=(sl,true)):=by
            show Ru.stepO (sl,false) y1.nums=_
            unfold Ru.stepO
            rw [if_neg (by simp),if_pos (by show sl.length=2000; rw [← HQ.out]; exact h2k)]
           have HQ2:Hid _:=h2k
           clear h2k
           go_wp2_with fail
           refine bodyPost_ret (results_none rfl _ _ _) rfl ?_
           exact ⟨rfl,⟨q,_,by rw [HFN.out,HE.out]; exact HFI4.out.many⟩,(Kp.of_below HB4.out HW0.out.size).trans (Kp.setB HF.out.lo _)⟩
         · have g2:((q.length:Int)==2000)=false:=by simp; omega
           have HE:Hid (Ru.runO (sl,false) [y1.nums]=(sl++[y1.nums],false)):=by
            show Ru.stepO (sl,false) y1.nums=_
            unfold Ru.stepO
            rw [if_neg (by simp),if_neg (by show ¬ sl.length=2000; rw [← HQ.out]; exact h2k)]
           obtain ⟨i2,h20,h21,h22,h23⟩:=info_parts ru_info22
           have hql:q.length≤2000:=by rw [HQ.out]; exact hsl
           have hba:=new_below w4 (.cells #[.slice a1 m c1] 22)
           have HFI5:Hid (FindI FB vt (.slice ab r.body.length cb) (.slice af facts.length cf) r (sl,false) q (.slice ao q.length co) (w4.alloc (.cells #[.slice a1 m c1] 22))):=HFI4.out.below hba
           have HN5:Hid (Rows2 w.heap.size (w4.alloc (.cells #[.slice a1 m c1] 22)) (.slice a1 m c1) (.slice a2 m c2) m y1):=HR4.out.below hba
           have HK5:Hid (Kp w0.heap.size FB w (w4.alloc (.cells #[.slice a1 m c1] 22))):=(Kp.of_below HB4.out HW0.out.size).trans (Kp.of_below hba (Nat.le_trans HW0.out.size HB4.out.size))
           have hF5:=HFI5.out.b
           have hsF:FB+1≤(w4.alloc (.cells #[.slice a1 m c1] 22)).heap.size:=HFI5.out.lt
           clear h2k
           go_wp2_with (at_builtin; refine wpList_append_own _ rfl (.tmp 80) (.tmp 82) 28 rfl (FB+1) 22 i2 _ 1 24 Tryz.underlying28 h20 h21 h22 h23 rfl (by decide) _ _ _ rfl HFI5.out.o ⟨w4.heap.size,0,none⟩ 1 1 [.slice a1 m c1] rfl rfl (news1 w4 _ 22) (fun u hu=>by rw [List.mem_singleton.mp hu]; rfl) (by unfold maxLen; omega) (by omega) hsF ?_)
           intro v9 w9 ho9 hg9 _
           have hpush:=HFI5.out.push HF.out.lo hszF HN5.out.ok.wf.n HN5.out.n ho9 hg9
           have hF9:w9.heap[FB]?=_:=(hg9.block FB hsF (fun e=>by have:=(HFI5.out.o.lt FB e.symm).1; omega)).trans hF5
           have f69:w9.cell? ⟨FB,6,none⟩=some (.slice ao q.length co):=by rw [Lib.cell_of_heap hF9]; rfl
           have fr69:w9.frozen? ⟨FB,6,none⟩=false:=Lib.frozen_of_heap hF9 6
           obtain ⟨av,cv,rfl⟩:=own_slice ho9
           have HPU:Hid _:=hpush
           clear hpush hF9 ho9 hg9 hF5 hsF f6 hba
           go_wp2_with fail
           refine bodyPost_ret (results_none rfl _ _ _) rfl ?_
           exact ⟨rfl,⟨_,_,by rw [HFN.out,HE.out]; exact HPU.out.1⟩,HK5.out.trans HPU.out.2⟩
    · have HE:Hid (Ru.fromN facts r.body (kf+1) i y=[]):=Ru.fromN_wrong HRK.out hwr
      clear hwr
      go_wp2_with fail
      refine bodyPost_ret (results_none rfl _ _ _) rfl ?_
      exact ⟨rfl,⟨q,vo,by rw [HE.out]; exact HFI.out.below HB4.out⟩,Kp.of_below HB4.out HW0.out.size⟩
theorem From_any (w0 wF:World) (m FB:Nat) (vt vb vf:Value) (r:Sc.Rule) (facts:List Rl.Fc) (hF:FromIn w0 wF m FB vb vf r facts):∀ kf,FromOk w0 wF m FB vt vb vf r facts kf
 | 0=>fun i _ _ _ _ _ _ _ _ _ _ _ _ hi hik _=>absurd hik (by omega)
 | kf+1=>From_step w0 wF m FB vt vb vf r facts kf hF (From_any w0 wF m FB vt vb vf r facts hF kf)
end Go.Proofs.YthenjegmigeieaaGreat
