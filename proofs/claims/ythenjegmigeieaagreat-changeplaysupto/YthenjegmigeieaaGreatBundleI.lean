/- Own texts, one behind the other (part 9). -/
import Derived.Test.YthenjegmigeieaaGreatBundleH
import Derived.Test.YthenjegmigeieaaGreatRows
import Derived.Deep.QuietTactic
import Derived.BigQuiet
import Derived.Deep.RegionHeld3
import Derived.Deep.DeepCutAuto
import Derived.Deep.RegionLaw
set_option maxRecDepth 100000
set_option maxHeartbeats 8000000
namespace Go.Proofs.YthenjegmigeieaaGreat
open Go.RowKit
def lenOf:Value→Nat
 | .slice _ n _=>n
 | _=>0
namespace Md
def errOf:Option (List Rl.Fc)→Int
 | some _=>0
 | none=>2
theorem right_args {p:Sc.Prog} (hp:Ru.ProgOk p) {f:Rl.Fc} (h:Ru.Right p.arity f):f.args.length≤3:=by
 have h2:=hp.ar f.pred.toNat (by have:=h.p0; have:=h.p1; omega)
 have:=h.al
 omega
theorem reach_facts {p:Sc.Prog} {k:Int} {m S:List Rl.Fc} (hp:Fine p) (hm:Facts p m) (h:Reach p k m S):Facts p S:=(reach_ok hp hm h).1
end Md
theorem grown_any (p:Sc.Prog) (k:Int) (S0:List Rl.Fc) (va vn vr vl vm:Value) (w:World) (hP:ProgV w va vn vr p) (hF:ProgFit p) (hcap:RulesCap w vr) (hc:Sc.check p=0) (hfine:Md.Fine p) (hL:IntsV w vl (St.level p)) (hM:FactsV w vm S0) (hS:Md.Facts p S0) (h60:S0.length≤60) :
 Calls Tryz.prog 115 #[progVal va vn vr,vl,.int .i64 k,vm] w fun e w'=>∃ v o,Md.LevRes p k S0 o∧e=.returned (.tuple #[v,.int .i64 (Md.errOf o)])∧FactsV w' v (o.getD [])∧Below w.heap.size w w':=by
 obtain ⟨a0,n0,rfl,_⟩:=id hP.ar
 obtain ⟨a1,n1,rfl,_⟩:=id hP.nm
 obtain ⟨a2,n2,rfl,hRA⟩:=id hP.rl
 obtain ⟨al,cl,rfl,hLA⟩:=id hL
 have hll:(St.level p).length=p.arity.length:=St.level_length p
 have bT:=(Below.refl w.heap.size w).alloc (Nat.le_refl _) (.cells #[.slice a0 p.arity.length n0,.slice a1 p.names.length n1,.slice a2 p.rules.length n2] 26)
 have HBX0:Hid _:=heap_alloc_new w (.cells #[.slice a0 p.arity.length n0,.slice a1 p.names.length n1,.slice a2 p.rules.length n2] 26)
 have HB0:Hid (Below w.heap.size w _):=bT
 have HM0:Hid _:=factsV_below hM bT
 have HP:Hid (ProgV w (.slice a0 p.arity.length n0) (.slice a1 p.names.length n1) (.slice a2 p.rules.length n2) p∧ProgFit p∧RulesCap w (.slice a2 p.rules.length n2)):=⟨hP,hF,hcap⟩
 have HFN:Hid (Sc.check p=0∧Md.Fine p∧Md.Facts p S0∧S0.length≤60):=⟨hc,hfine,hS,h60⟩
 have HRA:Hid _:=hRA
 have HLA:Hid _:=hLA
 have HLL:Hid _:=hll
 have HRF:Hid (∀ T,Md.Reach p k S0 T→Md.Facts p T):=fun T hT=>Md.reach_facts hfine hS hT
 have hS0:S0.length≤2060:=by omega
 have hr12:p.rules.length≤12:=hfine.ok.r12
 clear hP hF hcap hM hL hRA hLA bT hS h60 hfine hc hll
 go_enter Tryz.func115,Tryz.ntmps115
 go_wp2_with fail
 generalize w.alloc (.cells #[.slice a0 p.arity.length n0,.slice a1 p.names.length n1,.slice a2 p.rules.length n2] 26)=w1 at *
 go_loopw [3] (fun m wr=>∃ S:List Rl.Fc,Hid (Md.Reach p k S0 S)∧S.length≤2060∧Hid (FactsV wr m S)∧Hid (Below w.heap.size w wr)∧Hid (wr.heap[w.heap.size]?=some (.cells #[.slice a0 p.arity.length n0,.slice a1 p.names.length n1,.slice a2 p.rules.length n2] 26))) (fun m _=>2061 - lenOf m)
 case atStart=>exact ⟨S0,Md.Reach.refl,hS0,HM0.out,HB0.out,HBX0.out⟩
 case round =>
  clear HM0 HB0 HBX0
  obtain ⟨wo,hwo⟩:∃ wo,wo=wr:=⟨_,rfl⟩
  subst hwo
  obtain ⟨S,HRS,hSl,HFS,HB,HBX⟩:=hrel
  obtain ⟨am,cm,rfl,_⟩:=id HFS.out
  have c2:wo.cell? ⟨w.heap.size,2,none⟩=some (.slice a2 p.rules.length n2):=by rw [Lib.cell_of_heap HBX.out]; rfl
  go_wp2_with fail
  clear c2
  go_loopw [3,20] (fun m iv wr=>∃ (i:Nat) (T:List Rl.Fc),i≤p.rules.length∧iv=.int .i64 i∧Hid (Md.Reach p k S0 T)∧Hid (∀ f,f∈S→f∈T)∧T.length≤2060∧Hid (T=S→Md.Quiet p k S i)∧Hid (FactsV wr m T)∧Hid (Below w.heap.size w wr)∧Hid (wr.heap[w.heap.size]?=some (.cells #[.slice a0 p.arity.length n0,.slice a1 p.names.length n1,.slice a2 p.rules.length n2] 26))) (fun _ iv _=>p.rules.length - (intOf iv).toNat)
  case atStart=>exact ⟨0,S,Nat.zero_le _,rfl,HRS.out,fun _ h=>h,hSl,fun _ j hj=>absurd hj (Nat.not_lt_zero j),HFS.out,HB.out,HBX.out⟩
  case round =>
   clear HB HBX
   obtain ⟨wi,hwi⟩:∃ wi,wi=wr:=⟨_,rfl⟩
   subst hwi
   obtain ⟨i,T,hi,rfl,HRT,HST,hTl,HQT,HFT,HB,HBX⟩:=hrel
   obtain ⟨at9,ct9,rfl,_⟩:=id HFT.out
   by_cases hlt:i<p.rules.length
   · obtain ⟨b,off,rfl,p0,⟨vt,p1,hT⟩,p2,⟨vb,p3,hLL⟩,p4⟩:=prules_at HRA.out i hlt
     obtain ⟨at_,ct,rfl,_⟩:=hT
     obtain ⟨ab,cb,rfl,_⟩:=hLL
     have hr:Ru.RuleOk p.arity (Sc.ruleD p.rules i):=HFN.out.2.1.ok.rule _ (Md.ruleD_in hlt)
     have HIN:Hid _:=Md.ruleD_in hlt
     have HDI:Hid _:=Md.err_cases HFN.out.1 (HRF.out T HRT.out) hlt
     have HHO:Hid _:=Md.headsOut_hd HFN.out.2.1.ok (HRF.out T HRT.out) hlt
     obtain ⟨pr,hpr⟩:∃ pr:Nat,(Sc.ruleD p.rules i).pred=pr:=⟨(Sc.ruleD p.rules i).pred.toNat,by have:=hr.p0; omega⟩
     have hprn:pr<(St.level p).length:=by have:=hr.p1; rw [HLL.out]; omega
     obtain ⟨lb,loff,rfl,hlc⟩:=ints_at HLA.out pr hprn
     have HLV:Hid (Md.lv p (Sc.ruleD p.rules i).pred=Sc.intD (St.level p) pr):=by show _=_; unfold Md.lv Sc.intD; rw [hpr,Int.toNat_natCast]
     have q0:=cell_below HB.out p0
     have q1:=cell_below HB.out p1
     have q2:=cell_below HB.out p2
     have q3:=cell_below HB.out p3
     have q4:=cell_below HB.out p4
     rw [hpr] at q0
     have c2:wi.cell? ⟨w.heap.size,2,none⟩=some (.slice (some ⟨b,off,none⟩) p.rules.length n2):=by rw [Lib.cell_of_heap HBX.out]; rfl
     clear p0 p1 p2 p3 p4 hr hpr
     generalize (Sc.ruleD p.rules i).terms.length=tl at *
     generalize (Sc.ruleD p.rules i).body.length=bl at *
     generalize (Sc.ruleD p.rules i).fold=fo at *
     generalize (Sc.ruleD p.rules i).vars=vs at *
     go_upto_region 5 with fail
     have hba:Below wi.heap.size wi (wi.alloc (.cells #[.int .i64 pr,.slice at_ tl ct,.int .i64 fo,.slice ab bl cb,.int .i64 vs] 40)):=(Below.refl _ _).alloc (Nat.le_refl _) _
     have HRB:Hid _:=heap_alloc_new wi (.cells #[.int .i64 pr,.slice at_ tl ct,.int .i64 fo,.slice ab bl cb,.int .i64 vs] 40)
     have HB3:Hid _:=HB.out.trans (hba.mono HB.out.size)
     have HBX3:Hid _:=(hba.block _ (heap_lt HBX.out)).trans HBX.out
     have HFT3:Hid _:=factsV_below HFT.out hba
     clear q0 q1 q2 q3 q4 c2 HB HBX HFT hba
     generalize hRBn:wi.heap.size=RB at *
     generalize wi.alloc (.cells #[.int .i64 pr,.slice at_ tl ct,.int .i64 fo,.slice ab bl cb,.int .i64 vs] 40)=w3 at *
     clear hRBn
     have r0:w3.cell? ⟨RB,0,none⟩=some (.int .i64 pr):=by rw [Lib.cell_of_heap HRB.out]; rfl
     have l0:=cell_below HB3.out hlc
     by_cases hk:Md.lv p (Sc.ruleD p.rules i).pred=k
     · have g1:(Sc.intD (St.level p) pr != k)=false:=by rw [← HLV.out]; simpa using hk
       have c0:w3.cell? ⟨w.heap.size,0,none⟩=some (.slice a0 p.arity.length n0):=by rw [Lib.cell_of_heap HBX3.out]; rfl
       have c1:w3.cell? ⟨w.heap.size,1,none⟩=some (.slice a1 p.names.length n1):=by rw [Lib.cell_of_heap HBX3.out]; rfl
       have c2:w3.cell? ⟨w.heap.size,2,none⟩=some (.slice (some ⟨b,off,none⟩) p.rules.length n2):=by rw [Lib.cell_of_heap HBX3.out]; rfl
       have HTF:Hid _:=HRF.out T HRT.out
       have HTA:Hid (∀ f,f∈T→f.args.length≤3):=fun f hf=>Md.right_args HFN.out.2.1.ok (HTF.out.right f hf)
       have HC:Hid _:=Heads_any p i T _ _ _ _ w3 (HP.out.1.below HB3.out) HP.out.2.1 (HP.out.2.2.below HP.out.1.rl HB3.out) HFT3.out (by omega) (fun f hf=>by have:=HTA.out f hf; unfold FFit; omega)
       have HK:Hid _:=hk
       clear hk hlc
       go_wp2_with fail
       refine Calls.mono HC.out ?_
       rintro _ w4 ⟨vh,rfl,hFP,hb4⟩
       have HB4:Hid (Below w.heap.size w w4):=HB3.out.trans (hb4.mono HB3.out.size)
       have HBX4:Hid _:=(hb4.block _ (heap_lt HBX3.out)).trans HBX3.out
       have HFT4:Hid _:=factsV_below HFT3.out hb4
       clear hb4 HC c0 c1 c2 r0 l0 HB3 HBX3 HFT3 HRB
       rcases HDI.out with ⟨he,hT60,hW⟩ | ⟨he,hbad⟩
       · have HHE:Hid _:=HHO.out he
         rw [HHE.out] at hFP
         have HFH:Hid _:=hFP.toV
         obtain ⟨ah,ch,rfl,_⟩:=id HFH.out
         have hhl:(Ru.hd T (Sc.ruleD p.rules i)).length≤2000:=Nat.le_trans Md.hd_len hW
         have HUN:Hid _:=Union_any T (Ru.hd T (Sc.ruleD p.rules i)) _ _ w4 HFT4.out HFH.out (by omega) (by omega) (fun f hf=>by have:=HTA.out f hf; omega) (fun f hf=>by have:=Md.right_args HFN.out.2.1.ok (Ru.hd_right (HFN.out.2.1.ok.rule _ HIN.out) HTF.out.right hf); omega)
         have HRN:Hid (Md.Reach p k S0 (Rl.union T (Ru.hd T (Sc.ruleD p.rules i)))):=Md.Reach.step HRT.out (Md.grows_union HIN.out HK.out)
         have hUl:(Rl.union T (Ru.hd T (Sc.ruleD p.rules i))).length≤2060:=by have:=Md.union_len (l:=T) (m:=Ru.hd T (Sc.ruleD p.rules i)); omega
         have HSU:Hid (∀ f,f∈S→f∈Rl.union T (Ru.hd T (Sc.ruleD p.rules i))):=fun f hf=>Md.mem_union.mpr (.inl (HST.out f hf))
         have HQU:Hid (Rl.union T (Ru.hd T (Sc.ruleD p.rules i))=S→Md.Quiet p k S (i+1)):=fun e j hj hkj=>by
          have eTS:T=S:=by
           refine Md.same_len (HRF.out S HRS.out).up HTF.out.up HST.out ?_
           have:=Md.sub_len (T:=S) HTF.out.up (fun f hf=>by rw [← e]; exact Md.mem_union.mpr (.inl hf))
           exact this
          by_cases hji:j<i
          · exact HQT.out eTS j hji hkj
          · obtain rfl:j=i:=by omega
            rw [← eTS]
            exact ⟨hT60,hW,fun f hf=>by rw [eTS,← e]; exact Md.mem_union.mpr (.inr hf)⟩
         rw [he]
         clear hFP he hW hhl HFH HHE HHO HDI
         go_wp2_with fail
         refine Calls.mono HUN.out ?_
         rintro _ w5 ⟨vu,rfl,hFU,hb5⟩
         have HFU:Hid _:=hFU
         obtain ⟨au,cu,rfl,_⟩:=id hFU
         have HB5:Hid (Below w.heap.size w w5):=HB4.out.trans (hb5.mono HB4.out.size)
         have HBX5:Hid _:=(hb5.block _ (heap_lt HBX4.out)).trans HBX4.out
         clear hFU hb5 HUN
         go_wp2_with fail
         go_roundw
         case rel=>exact ⟨i+1,_,hlt,by go_num,HRN.out,HSU.out,hUl,HQU.out,HFU.out,HB5.out,HBX5.out⟩
         case measure=>simp [intOf]; omega
       · have HNO:Hid (Md.LevRes p k S0 none):=Md.lev_none HFN.out.2.1 HFN.out.2.2.1 HRT.out (fun hs=>by
          rcases hbad with h | h
          · have:=hs.len; omega
          · have:=hs.way _ HIN.out HK.out; omega)
         obtain ⟨q9,_,h92,_⟩:=hFP
         obtain ⟨a9,c9,rfl⟩:=own_slice h92
         rw [he]
         clear he hbad h92 HDI
         go_wp2_with fail
         refine bodyPost_ret (results_tmp2 rfl _ _ _) rfl ?_
         exact ⟨_,none,HNO.out,rfl,⟨none,0,rfl,⟨Nat.le_refl _,fun _=>rfl⟩,.inl rfl⟩,HB4.out⟩
     · have g1:(Sc.intD (St.level p) pr != k)=true:=by rw [← HLV.out]; simpa using hk
       have HQN:Hid (T=S→Md.Quiet p k S (i+1)):=fun e j hj hkj=>by
        by_cases hji:j<i
        · exact HQT.out e j hji hkj
        · obtain rfl:j=i:=by omega
          exact absurd hkj hk
       clear hk hlc
       go_wp2_with fail
       go_roundw
       case rel=>exact ⟨i+1,T,hlt,by go_num,HRT.out,HST.out,hTl,HQN.out,HFT3.out,HB3.out,HBX3.out⟩
       case measure=>simp [intOf]; omega
   · have hdd:decide (i<p.rules.length)=false:=decide_eq_false hlt
     obtain rfl:i=p.rules.length:=by omega
     have hsub:=Md.sub_len (HRF.out S HRS.out).up HST.out
     by_cases hEq:T.length=S.length
     · have HTS:Hid (T=S):=Md.same_len (HRF.out S HRS.out).up (HRF.out T HRT.out).up HST.out (by omega)
       have HRES:Hid (Md.LevRes p k S0 (some T)):=by
        show Md.LevRes p k S0 (some T)
        have:=HQT.out HTS.out
        rw [← HTS.out] at this
        exact Md.quiet_all HFN.out.2.2.1 HFN.out.2.2.2 HRT.out this
       have g:((T.length:Int)==S.length)=true:=by simp [hEq]
       clear hEq hsub
       go_wp2_with fail
       refine bodyPost_ret (results_tmp2 rfl _ _ _) rfl ?_
       exact ⟨_,some T,HRES.out,rfl,HFT.out,HB.out⟩
     · have g:((T.length:Int)==S.length)=false:=by simp; omega
       have hlt2:S.length<T.length:=by omega
       clear hEq hsub
       go_wp2_with fail
       go_roundw
       case rel=>exact ⟨T,HRT.out,hTl,HFT.out,HB.out,HBX.out⟩
       case measure=>simp [lenOf]; omega
namespace Md
def chkF (p:Sc.Prog) (l:List Rl.Fc):Int:=if 60<l.length then 2 else Ru.factsErr p l
end Md
theorem mdCheck_any (p:Sc.Prog) (facts:List Rl.Fc) (va vn vr vf:Value) (w:World) (hP:ProgV w va vn vr p) (hF:ProgFit p) (hV:FactsV w vf facts) (hFl:facts.length≤9223372036854775807) (hFF:∀ f,f∈facts→FFit f) :
 Calls Tryz.prog 114 #[progVal va vn vr,vf] w fun e w'=>e=.returned (.int .i64 (Md.chkF p facts))∧Below w.heap.size w w':=by
 obtain ⟨a0,n0,rfl,_⟩:=id hP.ar
 obtain ⟨a1,n1,rfl,_⟩:=id hP.nm
 obtain ⟨a2,n2,rfl,_⟩:=id hP.rl
 obtain ⟨af,cf,rfl,_,hFA⟩:=id hV
 have bT:=(Below.refl w.heap.size w).alloc (Nat.le_refl _) (.cells #[.slice a0 p.arity.length n0,.slice a1 p.names.length n1,.slice a2 p.rules.length n2] 26)
 have HBX:Hid _:=heap_alloc_new w (.cells #[.slice a0 p.arity.length n0,.slice a1 p.names.length n1,.slice a2 p.rules.length n2] 26)
 have HB2:Hid (Below w.heap.size w _):=bT
 have HP:Hid (ProgV w (.slice a0 p.arity.length n0) (.slice a1 p.names.length n1) (.slice a2 p.rules.length n2) p):=hP
 have HF:Hid _:=hF
 have HFA:Hid _:=hFA
 have HFF:Hid _:=hFF
 clear hP hF hV hFA hFF bT
 go_enter Tryz.func114,Tryz.ntmps114
 go_upto_region 1 with fail
 generalize w.alloc (.cells #[.slice a0 p.arity.length n0,.slice a1 p.names.length n1,.slice a2 p.rules.length n2] 26)=w2 at *
 by_cases h6:60<facts.length
 · have HR2:Hid (Md.chkF p facts=2):=by show _=_; unfold Md.chkF; rw [if_pos h6]
   have g6:decide (60<facts.length)=true:=decide_eq_true h6
   go_wp2_with fail
   go_ret
   exact ⟨by rw [HR2.out]; rfl,HB2.out⟩
 · have HR2:Hid (Md.chkF p facts=Ru.factsErr p facts):=by show _=_; unfold Md.chkF; rw [if_neg h6]
   have g6:decide (60<facts.length)=false:=decide_eq_false h6
   go_wp2_with fail
   go_loopw [13] (fun iv wr=>∃ k:Nat,k≤facts.length∧iv=.int .i64 k∧Hid (Ru.factsErr p facts=Ru.factsErr p (facts.drop k))∧Hid (Below w.heap.size w wr)∧Hid (wr.heap[w.heap.size]?=some (.cells #[.slice a0 p.arity.length n0,.slice a1 p.names.length n1,.slice a2 p.rules.length n2] 26))) (fun iv _=>facts.length - (intOf iv).toNat)
   case atStart=>exact ⟨0,Nat.zero_le _,rfl,rfl,HB2.out,HBX.out⟩
   case round =>
    clear HB2 HBX
    obtain ⟨k,hk,rfl,HD,HB,HBX⟩:=hrel
    by_cases hlt:k<facts.length
    · obtain ⟨b,off,rfl,p0,fv,p1,hIv⟩:=facts_at HFA.out k hlt
      have q0:=cell_below HB.out p0
      have q1:=cell_below HB.out p1
      have HIV:Hid (IntsV w fv (Rl.factD facts k).args):=hIv
      obtain ⟨ag,cg,rfl,_⟩:=hIv
      have HFk:Hid (FFit (Rl.factD facts k)):=HFF.out _ (factD_mem facts k hlt)
      have HDD:Hid _:=Ru.factsErr_drop p facts k hlt
      clear p0 p1
      generalize Rl.factD facts k=f at *
      go_upto_region 6 with fail
      have bT:=(Below.refl wr.heap.size wr).alloc (Nat.le_refl _) (.cells #[.int .i64 f.pred,.slice ag f.args.length cg] 55)
      have HTB:Hid _:=heap_alloc_new wr (.cells #[.int .i64 f.pred,.slice ag f.args.length cg] 55)
      have HBq:Hid _:=HB.out.trans (bT.mono HB.out.size)
      have HBXq:Hid _:=(bT.block _ (heap_lt HBX.out)).trans HBX.out
      clear q0 q1 bT HB HBX
      generalize wr.alloc (.cells #[.int .i64 f.pred,.slice ag f.args.length cg] 55)=wq at *
      generalize wr.heap.size=TB at *
      have c0:wq.cell? ⟨w.heap.size,0,none⟩=some (.slice a0 p.arity.length n0):=by rw [Lib.cell_of_heap HBXq.out]; rfl
      have c1:wq.cell? ⟨w.heap.size,1,none⟩=some (.slice a1 p.names.length n1):=by rw [Lib.cell_of_heap HBXq.out]; rfl
      have c2:wq.cell? ⟨w.heap.size,2,none⟩=some (.slice a2 p.rules.length n2):=by rw [Lib.cell_of_heap HBXq.out]; rfl
      have f0:wq.cell? ⟨TB,0,none⟩=some (.int .i64 f.pred):=by rw [Lib.cell_of_heap HTB.out]; rfl
      have f1:wq.cell? ⟨TB,1,none⟩=some (.slice ag f.args.length cg):=by rw [Lib.cell_of_heap HTB.out]; rfl
      go_wp2_with fail
      refine Calls.mono (ScFact_any p _ _ _ f.pred f.args _ wq (ProgV.below HP.out HBq.out) HF.out (intsV_below HIV.out HBq.out) HFk.out) ?_
      rintro _ w3 ⟨rfl,hb3⟩
      have HB3:Hid _:=HBq.out.trans (hb3.mono HBq.out.size)
      have HBX3:Hid _:=(hb3.block _ (heap_lt HBXq.out)).trans HBXq.out
      clear c0 c1 c2 f0 f1 hb3 HBq HBXq HTB
      by_cases he:Sc.fact p f.pred f.args=0
      · have ge:(Sc.fact p f.pred f.args != 0)=false:=by simpa using he
        have HDN:Hid (Ru.factsErr p facts=Ru.factsErr p (facts.drop (k+1))):=by show _=_; rw [HD.out,HDD.out,if_neg (by simpa using he)]
        clear he HD HDD
        go_wp2_with fail
        go_roundw
        case rel=>exact ⟨k+1,hlt,by go_num,HDN.out,HB3.out,HBX3.out⟩
        case measure=>simp [intOf]; omega
      · have ge:(Sc.fact p f.pred f.args != 0)=true:=by simpa using he
        have HDN:Hid (Md.chkF p facts=Sc.fact p f.pred f.args):=by show _=_; rw [HR2.out,HD.out,HDD.out,if_pos (by simpa using he)]
        clear he HD HDD
        go_wp2_with fail
        go_ret
        exact ⟨by rw [HDN.out]; rfl,HB3.out⟩
    · have hdd:decide (k<facts.length)=false:=decide_eq_false hlt
      have HDN:Hid (Md.chkF p facts=0):=by show _=_; rw [HR2.out,HD.out,List.drop_of_length_le (by omega)]; rfl
      go_wp2_with fail
      go_ret
      exact ⟨by rw [HDN.out]; rfl,HB.out⟩
namespace Md
theorem run_none {p:Sc.Prog} {m:List Rl.Fc} {n:Nat} (h:Run p m n none):∀ k,Run p m (n+k) none
 | 0=>h
 | k+1=>⟨none,run_none h k,rfl⟩
theorem run_none_le {p:Sc.Prog} {m:List Rl.Fc} {n N:Nat} (h:Run p m n none) (hn:n≤N):Run p m N none:=by
 have:=run_none h (N - n)
 rwa [Nat.add_sub_cancel' hn] at this
def pre (p:Sc.Prog) (l o:List Rl.Fc):Int:=Sc.thn (St.levErr p) (Sc.thn (chkF p l) (chkF p o))
def MRes (p:Sc.Prog) (l o:List Rl.Fc) (e:Int) (S:List Rl.Fc):Prop :=
 (¬ pre p l o=0∧e=pre p l o∧S=[])∨(pre p l o=0∧∃ x,IsModel p l x∧e=errOf x∧S=x.getD [])
theorem levErr_zero {p:Sc.Prog} (h:St.levErr p=0):Sc.check p=0∧St.flat p=true:=by
 unfold St.levErr at h
 split at h
 · rename_i hc
   refine ⟨hc,?_⟩
   split at h
   · assumption
   · cases h
 · rename_i hc; exact absurd h hc
theorem chkF_zero {p:Sc.Prog} {l:List Rl.Fc} (hc:Sc.check p=0) (h:chkF p l=0):l.length≤60∧∀ f,f∈l→Ru.Right p.arity f:=by
 unfold chkF at h
 split at h
 · cases h
 · exact ⟨by omega,(factsErr_zero hc).mp h⟩
theorem set_length (l:List Rl.Fc):(Rl.set l).length≤l.length:=List.Nodup.length_le_of_subset (up_nodup (Rl.set_isSet l).1) fun _ hf=>Rl.mem_set.mp hf
theorem pre_zero {p:Sc.Prog} {l o:List Rl.Fc} (h:pre p l o=0):Sc.check p=0∧St.flat p=true∧chkF p l=0∧chkF p o=0:=by
 obtain ⟨h1,h2⟩:=Ru.thn0 h
 obtain ⟨h3,h4⟩:=Ru.thn0 h2
 obtain ⟨h5,h6⟩:=levErr_zero h1
 exact ⟨h5,h6,h3,h4⟩
theorem mres_one {p:Sc.Prog} {l o:List Rl.Fc} {e e':Int} {S S':List Rl.Fc} (h:MRes p l o e S) (h':MRes p l o e' S'):e=e'∧S=S':=by
 rcases h with ⟨h1,rfl,rfl⟩ | ⟨h1,x,h2,rfl,rfl⟩
 · rcases h' with ⟨_,rfl,rfl⟩ | ⟨h1',_⟩
   · exact ⟨rfl,rfl⟩
   · exact absurd h1' h1
 · rcases h' with ⟨h1',_⟩ | ⟨_,x',h2',rfl,rfl⟩
   · exact absurd h1 h1'
   · obtain ⟨hc,hf,hl,_⟩:=pre_zero h1
     have:=model_one (fine_of hc hf) (chkF_zero hc hl).2 h2 h2'
     subst this
     exact ⟨rfl,rfl⟩
end Md
theorem checkedModel_any (p:Sc.Prog) (l o:List Rl.Fc) (va vn vr vl vo:Value) (w:World) (hP:ProgV w va vn vr p) (hF:ProgFit p) (hcap:RulesCap w vr) (hV:FactsV w vl l) (hVl:l.length≤9223372036854775807) (hVF:∀ f,f∈l→FFit f) (hO:FactsV w vo o) (hOl:o.length≤9223372036854775807) (hOF:∀ f,f∈o→FFit f) :
 Calls Tryz.prog 68 #[progVal va vn vr,vl,vo] w fun e w'=>∃ v c S,e=.returned (.tuple #[v,.int .i64 c])∧Md.MRes p l o c S∧FactsV w' v S∧Below w.heap.size w w':=by
 obtain ⟨a0,n0,rfl,_⟩:=id hP.ar
 obtain ⟨a1,n1,rfl,_⟩:=id hP.nm
 obtain ⟨a2,n2,rfl,_⟩:=id hP.rl
 obtain ⟨al,cl,rfl,_⟩:=id hV
 obtain ⟨ao,co,rfl,_⟩:=id hO
 have bT:=(Below.refl w.heap.size w).alloc (Nat.le_refl _) (.cells #[.slice a0 p.arity.length n0,.slice a1 p.names.length n1,.slice a2 p.rules.length n2] 26)
 have HBX:Hid _:=heap_alloc_new w (.cells #[.slice a0 p.arity.length n0,.slice a1 p.names.length n1,.slice a2 p.rules.length n2] 26)
 have HB:Hid (Below w.heap.size w _):=bT
 have HP:Hid (ProgV w (.slice a0 p.arity.length n0) (.slice a1 p.names.length n1) (.slice a2 p.rules.length n2) p∧ProgFit p∧RulesCap w (.slice a2 p.rules.length n2)):=⟨hP,hF,hcap⟩
 have HV:Hid (FactsV w (.slice al l.length cl) l∧l.length≤9223372036854775807∧∀ f,f∈l→FFit f):=⟨hV,hVl,hVF⟩
 have HO:Hid (FactsV w (.slice ao o.length co) o∧o.length≤9223372036854775807∧∀ f,f∈o→FFit f):=⟨hO,hOl,hOF⟩
 have HC:Hid _:=Levels_any p _ _ _ _ (hP.below bT) hF
 clear hP hF hcap hV hVl hVF hO hOl hOF bT
 go_enter Tryz.func68,Tryz.ntmps68
 go_upto_region 1 with fail
 generalize w.alloc (.cells #[.slice a0 p.arity.length n0,.slice a1 p.names.length n1,.slice a2 p.rules.length n2] 26)=w1 at *
 have c0:w1.cell? ⟨w.heap.size,0,none⟩=some (.slice a0 p.arity.length n0):=by rw [Lib.cell_of_heap HBX.out]; rfl
 have c1:w1.cell? ⟨w.heap.size,1,none⟩=some (.slice a1 p.names.length n1):=by rw [Lib.cell_of_heap HBX.out]; rfl
 have c2:w1.cell? ⟨w.heap.size,2,none⟩=some (.slice a2 p.rules.length n2):=by rw [Lib.cell_of_heap HBX.out]; rfl
 go_wp2_with fail
 refine Calls.mono HC.out ?_
 rintro _ w2 ⟨vv,rfl,hI,hb2⟩
 have HB2:Hid (Below w.heap.size w w2):=HB.out.trans (hb2.mono HB.out.size)
 have HBX2:Hid _:=(hb2.block _ (heap_lt HBX.out)).trans HBX.out
 obtain ⟨av,cv,rfl,_⟩:=id hI
 clear c0 c1 c2 hb2 HC HB HBX
 by_cases hlev:St.levErr p=0
 · obtain ⟨hck,hfl⟩:=Md.levErr_zero hlev
   have HFN:Hid (Sc.check p=0∧Md.Fine p):=⟨hck,Md.fine_of hck hfl⟩
   have ha10:p.arity.length≤10:=HFN.out.2.ok.a10
   have HIV:Hid (IntsV w2 (.slice av (St.levOut p).length cv) (St.level p)):=by show IntsV _ _ _; rw [← (St.levErr_flat hck hfl).2]; exact hI
   have hlen:(St.levOut p).length=p.arity.length:=by rw [(St.levErr_flat hck hfl).2]; exact St.level_length p
   have HPRE:Hid (Md.pre p l o=Sc.thn (Md.chkF p l) (Md.chkF p o)):=by show _=_; unfold Md.pre; rw [hlev]; rfl
   rw [hlev]
   rw [hlen] at HIV ⊢
   clear hlev hck hfl hI hlen
   go_wp2_with fail
   have hb3:Below w2.heap.size w2 (w2.alloc (.cells #[.slice al l.length cl,.slice ao o.length co] 27)):=(Below.refl _ _).alloc (Nat.le_refl _) _
   have HRW:Hid _:=heap_alloc_new w2 (.cells #[.slice al l.length cl,.slice ao o.length co] 27)
   have HB3:Hid _:=HB2.out.trans (hb3.mono HB2.out.size)
   have HBX3:Hid _:=(hb3.block _ (heap_lt HBX2.out)).trans HBX2.out
   have HIV3:Hid _:=intsV_below HIV.out hb3
   clear HB2 HBX2 HIV hb3
   generalize w2.alloc (.cells #[.slice al l.length cl,.slice ao o.length co] 27)=w3 at *
   generalize w2.heap.size=RB at *
   go_loopw [27] (fun iv wr=>∃ k:Nat,k≤2∧iv=.int .i64 k∧Hid (0<k→Md.chkF p l=0)∧Hid (1<k→Md.chkF p o=0)∧Hid (Below w3.heap.size w3 wr)) (fun iv _=>2 - (intOf iv).toNat)
   case atStart=>exact ⟨0,by omega,rfl,fun h=>absurd h (by omega),fun h=>absurd h (by omega),Below.refl _ _⟩
   case round =>
    obtain ⟨wo,hwo⟩:∃ wo,wo=wr:=⟨_,rfl⟩
    subst hwo
    obtain ⟨k,hk,rfl,HK0,HK1,HBo⟩:=hrel
    have HBw:Hid (Below w.heap.size w wo):=HB3.out.trans (HBo.out.mono HB3.out.size)
    have HRo:Hid _:=(HBo.out.block _ (heap_lt HRW.out)).trans HRW.out
    have HXo:Hid _:=(HBo.out.block _ (heap_lt HBX3.out)).trans HBX3.out
    have c0:wo.cell? ⟨w.heap.size,0,none⟩=some (.slice a0 p.arity.length n0):=by rw [Lib.cell_of_heap HXo.out]; rfl
    have c1:wo.cell? ⟨w.heap.size,1,none⟩=some (.slice a1 p.names.length n1):=by rw [Lib.cell_of_heap HXo.out]; rfl
    have c2:wo.cell? ⟨w.heap.size,2,none⟩=some (.slice a2 p.rules.length n2):=by rw [Lib.cell_of_heap HXo.out]; rfl
    have d0:wo.cell? ⟨RB,0,none⟩=some (.slice al l.length cl):=by rw [Lib.cell_of_heap HRo.out]; rfl
    have d1:wo.cell? ⟨RB,1,none⟩=some (.slice ao o.length co):=by rw [Lib.cell_of_heap HRo.out]; rfl
    have hk3:k=0∨k=1∨k=2:=by omega
    rcases hk3 with rfl | rfl | rfl
    · have HCK:Hid _:=mdCheck_any p l _ _ _ _ wo (HP.out.1.below HBw.out) HP.out.2.1 (factsV_below HV.out.1 HBw.out) HV.out.2.1 HV.out.2.2
      go_wp2_with fail
      refine Calls.mono HCK.out ?_
      rintro _ w4 ⟨rfl,hb4⟩
      have HB4:Hid (Below w3.heap.size w3 w4):=HBo.out.trans (hb4.mono HBo.out.size)
      have HBw4:Hid (Below w.heap.size w w4):=HB3.out.trans (HB4.out.mono HB3.out.size)
      clear c0 c1 c2 d0 d1 hb4 HCK HRo HXo HBo HBw
      by_cases he:Md.chkF p l=0
      · have g:(Md.chkF p l != 0)=false:=by simpa using he
        have HE:Hid _:=he
        clear he
        go_wp2_with fail
        go_roundw
        case rel=>exact ⟨1,by omega,by go_num,fun _=>HE.out,fun h=>absurd h (by omega),HB4.out⟩
        case measure=>simp [intOf]
      · have g:(Md.chkF p l != 0)=true:=by simpa using he
        have HE:Hid (Md.pre p l o=Md.chkF p l∧¬ Md.chkF p l=0):=⟨by rw [HPRE.out]; unfold Sc.thn; rw [if_neg he],he⟩
        clear he
        go_wp2_with fail
        refine bodyPost_ret (results_tmp2 rfl _ _ _) rfl ?_
        exact ⟨_,_,[],rfl,.inl ⟨by rw [HE.out.1]; exact HE.out.2,HE.out.1.symm,rfl⟩,⟨none,0,rfl,⟨Nat.le_refl _,fun _=>rfl⟩,.inl rfl⟩,HBw4.out⟩
    · have HCK:Hid _:=mdCheck_any p o _ _ _ _ wo (HP.out.1.below HBw.out) HP.out.2.1 (factsV_below HO.out.1 HBw.out) HO.out.2.1 HO.out.2.2
      go_wp2_with fail
      refine Calls.mono HCK.out ?_
      rintro _ w4 ⟨rfl,hb4⟩
      have HB4:Hid (Below w3.heap.size w3 w4):=HBo.out.trans (hb4.mono HBo.out.size)
      have HBw4:Hid (Below w.heap.size w w4):=HB3.out.trans (HB4.out.mono HB3.out.size)
      have HE0:Hid (Md.chkF p l=0):=HK0.out (by omega)
      clear c0 c1 c2 d0 d1 hb4 HCK HRo HXo HBo HBw HK0 HK1
      by_cases he:Md.chkF p o=0
      · have g:(Md.chkF p o != 0)=false:=by simpa using he
        have HE:Hid _:=he
        clear he
        go_wp2_with fail
        go_roundw
        case rel=>exact ⟨2,by omega,by go_num,fun _=>HE0.out,fun _=>HE.out,HB4.out⟩
        case measure=>simp [intOf]
      · have g:(Md.chkF p o != 0)=true:=by simpa using he
        have HE:Hid (Md.pre p l o=Md.chkF p o∧¬ Md.chkF p o=0):=⟨by rw [HPRE.out]; unfold Sc.thn; rw [if_pos HE0.out],he⟩
        clear he
        go_wp2_with fail
        refine bodyPost_ret (results_tmp2 rfl _ _ _) rfl ?_
        exact ⟨_,_,[],rfl,.inl ⟨by rw [HE.out.1]; exact HE.out.2,HE.out.1.symm,rfl⟩,⟨none,0,rfl,⟨Nat.le_refl _,fun _=>rfl⟩,.inl rfl⟩,HBw4.out⟩
    · have HE0:Hid (Md.chkF p l=0):=HK0.out (by omega)
      have HE1:Hid (Md.chkF p o=0):=HK1.out (by omega)
      have HZ:Hid (Md.pre p l o=0):=by show _=_; rw [HPRE.out,HE0.out,HE1.out]; rfl
      have HLR:Hid _:=Md.chkF_zero HFN.out.1 HE0.out
      have HSF:Hid _:=Md.set_facts HLR.out.2
      have hSl:=Md.set_length l
      have HL6:Hid ((Rl.set l).length≤60):=by show _≤_; have:=HLR.out.1; omega
      have HAR:Hid (∀ f,f∈l→f.args.length≤3):=fun f hf=>Md.right_args HFN.out.2.ok (HLR.out.2 f hf)
      have HST:Hid _:=Set_any l _ wo (factsV_below HV.out.1 HBw.out) (by have:=HLR.out.1; omega) (fun f hf=>by have:=HAR.out f hf; omega)
      have HIVo:Hid _:=intsV_below HIV3.out HBo.out
      clear c0 c1 c2 d0 d1 hSl
      go_wp2_with fail
      refine Calls.mono HST.out ?_
      rintro _ w4 ⟨vs,rfl,hFP,hb4⟩
      have HB4:Hid (Below w.heap.size w w4):=HBw.out.trans (hb4.mono HBw.out.size)
      have HX4:Hid _:=(hb4.block _ (heap_lt HXo.out)).trans HXo.out
      have HIV4:Hid _:=intsV_below HIVo.out hb4
      have HFS:Hid _:=hFP.toV
      obtain ⟨as_,cs,rfl,_⟩:=id HFS.out
      clear hFP hb4 HST HRo HXo HBo HBw HIVo
      go_wp2_with fail
      go_loopw [13,42] (fun m iv wr=>∃ (n:Nat) (T:List Rl.Fc),n≤p.arity.length∧iv=.int .i64 n∧Hid (Md.Run p (Rl.set l) n (some T))∧T.length≤60∧Hid (FactsV wr m T)∧Hid (Below w4.heap.size w4 wr)) (fun _ iv _=>p.arity.length - (intOf iv).toNat)
      case atStart=>exact ⟨0,Rl.set l,Nat.zero_le _,rfl,rfl,HL6.out,HFS.out,Below.refl _ _⟩
      case round =>
       obtain ⟨wx,hwx⟩:∃ wx,wx=wr:=⟨_,rfl⟩
       subst hwx
       obtain ⟨n,T,hn,rfl,HRN,hT6,HFT,HBx⟩:=hrel
       obtain ⟨aT,cT,rfl,_⟩:=id HFT.out
       have HBwx:Hid (Below w.heap.size w wx):=HB4.out.trans (HBx.out.mono HB4.out.size)
       have HXx:Hid _:=(HBx.out.block _ (heap_lt HX4.out)).trans HX4.out
       by_cases hlt:n<p.arity.length
       · have c0:wx.cell? ⟨w.heap.size,0,none⟩=some (.slice a0 p.arity.length n0):=by rw [Lib.cell_of_heap HXx.out]; rfl
         have c1:wx.cell? ⟨w.heap.size,1,none⟩=some (.slice a1 p.names.length n1):=by rw [Lib.cell_of_heap HXx.out]; rfl
         have c2:wx.cell? ⟨w.heap.size,2,none⟩=some (.slice a2 p.rules.length n2):=by rw [Lib.cell_of_heap HXx.out]; rfl
         have HTF:Hid _:=Md.run_facts HFN.out.2 HSF.out HRN.out
         have HGR:Hid _:=grown_any p n T _ _ _ _ _ wx (HP.out.1.below HBwx.out) HP.out.2.1 (HP.out.2.2.below HP.out.1.rl HBwx.out) HFN.out.1 HFN.out.2 (intsV_below HIV4.out HBx.out) HFT.out HTF.out hT6
         go_wp2_with fail
         refine Calls.mono HGR.out ?_
         rintro _ w5 ⟨v5,x,hx,rfl,hF5,hb5⟩
         have HB5:Hid (Below w4.heap.size w4 w5):=HBx.out.trans (hb5.mono HBx.out.size)
         have HBw5:Hid (Below w.heap.size w w5):=HB4.out.trans (HB5.out.mono HB4.out.size)
         have HF5:Hid _:=hF5
         obtain ⟨a5,c5,rfl,_⟩:=id hF5
         have HRX:Hid (Md.Run p (Rl.set l) (n+1) x):=⟨some T,HRN.out,hx⟩
         clear hF5 hb5 HGR c0 c1 c2 HXx HBx HBwx
         cases x with
         | some U =>
          have hU6:U.length≤60:=hx.2.2.len
          have he:Md.errOf (some U)=0:=rfl
          rw [he]
          clear he hx
          go_wp2_with fail
          go_roundw
          case rel=>exact ⟨n+1,U,hlt,by go_num,HRX.out,hU6,HF5.out,HB5.out⟩
          case measure=>simp [intOf]; omega
         | none =>
          have he:Md.errOf none=2:=rfl
          rw [he]
          clear he hx
          go_wp2_with fail
          refine bodyPost_ret (results_tmp2 rfl _ _ _) rfl ?_
          exact ⟨_,_,[],rfl,.inr ⟨HZ.out,none,Md.run_none_le HRX.out hlt,rfl,rfl⟩,⟨none,0,rfl,⟨Nat.le_refl _,fun _=>rfl⟩,.inl rfl⟩,HBw5.out⟩
       · have hdd:decide (n<p.arity.length)=false:=decide_eq_false hlt
         have HMD:Hid (Md.IsModel p l (some T)):=by
          have e:n=p.arity.length:=by omega
          show Md.Run _ _ _ _
          rw [← e]; exact HRN.out
         go_wp2_with fail
         refine bodyPost_ret (results_tmp2 rfl _ _ _) rfl ?_
         exact ⟨_,_,T,rfl,.inr ⟨HZ.out,some T,HMD.out,rfl,rfl⟩,HFT.out,HBwx.out⟩
 · have g1:(St.levErr p != 0)=true:=by simpa using hlev
   have HPRE:Hid (Md.pre p l o=St.levErr p∧¬ St.levErr p=0):=⟨by unfold Md.pre Sc.thn; rw [if_neg hlev],hlev⟩
   clear hlev
   go_wp2_with fail
   refine bodyPost_ret (results_tmp2 rfl _ _ _) rfl ?_
   exact ⟨_,_,[],rfl,.inl ⟨by rw [HPRE.out.1]; exact HPRE.out.2,HPRE.out.1.symm,rfl⟩,⟨none,0,rfl,⟨Nat.le_refl _,fun _=>rfl⟩,.inl rfl⟩,HB2.out⟩
theorem Model_any (p:Sc.Prog) (l:List Rl.Fc) (va vn vr vl:Value) (w:World) (hP:ProgV w va vn vr p) (hF:ProgFit p) (hcap:RulesCap w vr) (hV:FactsV w vl l) (hVl:l.length≤9223372036854775807) (hVF:∀ f,f∈l→FFit f) :
 Calls Tryz.prog 27 #[progVal va vn vr,vl] w fun e w'=>∃ v c S,e=.returned (.tuple #[v,.int .i64 c])∧Md.MRes p l [] c S∧FactsV w' v S∧Below w.heap.size w w':=by
 obtain ⟨a0,n0,rfl,_⟩:=id hP.ar
 obtain ⟨a1,n1,rfl,_⟩:=id hP.nm
 obtain ⟨a2,n2,rfl,_⟩:=id hP.rl
 obtain ⟨al,cl,rfl,_⟩:=id hV
 have bT:=(Below.refl w.heap.size w).alloc (Nat.le_refl _) (.cells #[.slice a0 p.arity.length n0,.slice a1 p.names.length n1,.slice a2 p.rules.length n2] 26)
 have HBX:Hid _:=heap_alloc_new w (.cells #[.slice a0 p.arity.length n0,.slice a1 p.names.length n1,.slice a2 p.rules.length n2] 26)
 have HB:Hid (Below w.heap.size w _):=bT
 have HC:Hid _:=checkedModel_any p l [] _ _ _ _ (.slice none 0 0) _ (hP.below bT) hF (hcap.below hP.rl bT) (factsV_below hV bT) hVl hVF ⟨none,0,rfl,⟨Nat.le_refl _,fun _=>rfl⟩,.inl rfl⟩ (Nat.zero_le _) (fun _ h=>absurd h (by simp))
 clear hP hF hcap hV hVF bT
 go_enter Tryz.func27,Tryz.ntmps27
 go_upto_region 1 with fail
 generalize w.alloc (.cells #[.slice a0 p.arity.length n0,.slice a1 p.names.length n1,.slice a2 p.rules.length n2] 26)=w1 at *
 have c0:w1.cell? ⟨w.heap.size,0,none⟩=some (.slice a0 p.arity.length n0):=by rw [Lib.cell_of_heap HBX.out]; rfl
 have c1:w1.cell? ⟨w.heap.size,1,none⟩=some (.slice a1 p.names.length n1):=by rw [Lib.cell_of_heap HBX.out]; rfl
 have c2:w1.cell? ⟨w.heap.size,2,none⟩=some (.slice a2 p.rules.length n2):=by rw [Lib.cell_of_heap HBX.out]; rfl
 go_wp2_with fail
 refine Calls.mono HC.out ?_
 rintro _ w2 ⟨v,c,S,rfl,hR,hFS,hb2⟩
 have HR:Hid _:=hR
 have HFS:Hid _:=hFS
 obtain ⟨as_,cs,rfl,_⟩:=id hFS
 have HB2:Hid (Below w.heap.size w w2):=HB.out.trans (hb2.mono HB.out.size)
 clear hb2 HC HB HBX c0 c1 c2 hR hFS
 go_wp2_with fail
 refine bodyPost_ret (results_tmp2 rfl _ _ _) rfl ?_
 exact ⟨_,c,S,rfl,HR.out,HFS.out,HB2.out⟩
namespace Md
theorem take_same {l m:List Rl.Fc} {k:Nat} (h:l.take k=m.take k) (hl:k<l.length) (hm:k<m.length) (he:Rl.factD l k=Rl.factD m k):l.take (k+1)=m.take (k+1):=by
 rw [List.take_add_one,List.take_add_one,factD_get l k hl,factD_get m k hm,h,he]
theorem all_same {l m:List Rl.Fc} {k:Nat} (h:l.take k=m.take k) (hlm:l.length=m.length) (hk:¬ k<l.length):l=m:=by
 rw [List.take_of_length_le (by omega),List.take_of_length_le (by omega)] at h
 exact h
end Md
def Cmp1F (h:Nat) (w:World):Prop :=
 ∀ (z:World) (f g:Rl.Fc) (ao bo:Option Addr) (ca cb:Nat),Below w.heap.size w z→IntsV z (.slice ao f.args.length ca) f.args→IntsV z (.slice bo g.args.length cb) g.args→FFit f→FFit g→Calls Tryz.prog h #[fcVal f.pred (.slice ao f.args.length ca),fcVal g.pred (.slice bo g.args.length cb)] z fun e w'=>e=.returned (.bool (Rl.ord f g==0))∧Below z.heap.size z w'
theorem SameFacts_any (l m:List Rl.Fc) (v u:Value) (w:World) (hV:FactsV w v l) (hU:FactsV w u m) (hl:l.length≤9223372036854775807) (hf:∀ f,f∈l→FFit f) (hg:∀ f,f∈m→FFit f) :
 Calls Tryz.prog 21 #[v,u] w fun e w'=>∃ t,e=.returned (.bool t)∧(t=true↔l=m)∧Below w.heap.size w w':=by
 obtain ⟨ao,cap,rfl,_,hA⟩:=hV
 obtain ⟨bo,cbp,rfl,_,hB⟩:=hU
 have HA:Hid (FactsAt w ao l):=hA
 have HB:Hid (FactsAt w bo m):=hB
 have HF:Hid ((∀ f,f∈l→FFit f)∧∀ f,f∈m→FFit f):=⟨hf,hg⟩
 clear hA hB hf hg
 by_cases hlen:l.length=m.length
 · rw [← hlen]
   have HLEN:Hid (l.length=m.length):=hlen
   have hne:((l.length:Int) != (l.length:Int))=false:=by simp
   clear hlen
   go_enter Tryz.func21,Tryz.ntmps21
   go_wp2_with fail
   go_loopw [5] (fun i wr=>∃ k:Nat,k≤l.length∧i=.int .i64 k∧Hid (l.take k=m.take k)∧Below w.heap.size w wr) (fun i _=>l.length - (intOf i).toNat)
   case atStart=>exact ⟨0,Nat.zero_le _,rfl,rfl,Below.refl _ _⟩
   case round =>
    obtain ⟨k,hk,rfl,HTK,hbw⟩:=hrel
    by_cases hlt:k<l.length
    · obtain ⟨b,off,rfl,p0,fv,p1,hIv⟩:=facts_at HA.out k hlt
      have hltm:k<m.length:=by rw [← HLEN.out]; exact hlt
      obtain ⟨b2,off2,rfl,r0,gv,r1,hJv⟩:=facts_at HB.out k hltm
      have HIV:Hid (IntsV w fv (Rl.factD l k).args∧IntsV w gv (Rl.factD m k).args∧FFit (Rl.factD l k)∧FFit (Rl.factD m k)):=⟨hIv,hJv,HF.out.1 _ (factD_mem l k hlt),HF.out.2 _ (factD_mem m k hltm)⟩
      have HNX:Hid (Rl.factD l k=Rl.factD m k→l.take (k+1)=m.take (k+1)):=fun e=>Md.take_same HTK.out hlt hltm e
      have HNO:Hid (¬ Rl.factD l k=Rl.factD m k→¬ l=m):=fun h e=>h (by rw [e])
      obtain ⟨af,cf,rfl,_⟩:=hIv
      obtain ⟨ag,cg,rfl,_⟩:=hJv
      have a0:=cell_below hbw p0
      have a1:=cell_below hbw p1
      have c0:=cell_below hbw r0
      have c1:=cell_below hbw r1
      clear p0 p1 r0 r1 hltm HTK
      generalize Rl.factD l k=g at *
      generalize Rl.factD m k=g2 at *
      have HN:Hid (∀ z,Below wr.heap.size wr z→Calls Tryz.prog 44 #[fcVal g.pred (.slice af g.args.length cf),fcVal g2.pred (.slice ag g2.args.length cg)] z fun e w'=>e=.returned (.int .i64 (Rl.ord g g2))∧Below wr.heap.size wr w'∧w'.cell? ⟨b,off+k * 2,none⟩=some (.int .i64 g.pred)∧w'.cell? ⟨b,off+k * 2+1,none⟩=some (.slice af g.args.length cf)∧w'.cell? ⟨b2,off2+k * 2,none⟩=some (.int .i64 g2.pred)∧w'.cell? ⟨b2,off2+k * 2+1,none⟩=some (.slice ag g2.args.length cg)):=by
       intro z hz
       have hzw:=hbw.trans (hz.mono hbw.size)
       refine (OrderOf_any g g2 _ _ z (intsV_below HIV.out.1 hzw) (intsV_below HIV.out.2.1 hzw) HIV.out.2.2.1 HIV.out.2.2.2).mono ?_
       rintro e w' ⟨h1,h2⟩
       have h3:=hz.trans (h2.mono hz.size)
       exact ⟨h1,h3,cell_below h3 a0,cell_below h3 a1,cell_below h3 c0,cell_below h3 c1⟩
      have HGA:∀ b o,Below wr.heap.size wr b→Below wr.heap.size wr (b.alloc o):=fun _ o h=>h.alloc h.size o
      have HGD:∀ b,Below wr.heap.size wr b→Below wr.heap.size wr b.drew:=fun _ h=>⟨h.os,h.tape,h.output,h.size,h.block⟩
      have HGR:Below wr.heap.size wr wr:=Below.refl _ _
      by_cases ho:Rl.ord g g2=0
      · have HE:Hid _:=HNX.out (Rl.ord_zero.mp ho)
        rw [ho] at HN
        clear ho HNX HNO
        go_upto_region 6 with fail
        go_region_held3 (fun yy=>yy.cell? ⟨b,off+k * 2,none⟩=some (.int .i64 g.pred)∧yy.cell? ⟨b,off+k * 2+1,none⟩=some (.slice af g.args.length cf)∧yy.cell? ⟨b2,off2+k * 2,none⟩=some (.int .i64 g2.pred)∧yy.cell? ⟨b2,off2+k * 2+1,none⟩=some (.slice ag g2.args.length cg)∧Below wr.heap.size wr yy) (go_keep) (
         (go_at_call 44; refine Calls.mono (HN.out _ ?_) ?_; (simp [*]); rintro e w2 ⟨rfl,hb2,hz2,hz3,hz4,hz5⟩))
        clear HGA HGD HGR HN hz2 hz3 hz4 hz5
        have hb3:=hbw.trans (hb2.mono hbw.size)
        clear a0 a1 c0 c1 hb2 hbw
        go_wp2_with fail
        go_roundw
        case rel=>exact ⟨k+1,by omega,by go_num,HE.out,hb3⟩
        case measure=>simp [intOf]; omega
      · have HE:Hid (¬ l=m):=HNO.out (fun e=>ho (Rl.ord_zero.mpr e))
        have gne:(Rl.ord g g2 != 0)=true:=by simpa using ho
        generalize Rl.ord g g2=od at *
        clear ho HNX HNO
        go_upto_region 6 with fail
        go_region_held3 (fun yy=>yy.cell? ⟨b,off+k * 2,none⟩=some (.int .i64 g.pred)∧yy.cell? ⟨b,off+k * 2+1,none⟩=some (.slice af g.args.length cf)∧yy.cell? ⟨b2,off2+k * 2,none⟩=some (.int .i64 g2.pred)∧yy.cell? ⟨b2,off2+k * 2+1,none⟩=some (.slice ag g2.args.length cg)∧Below wr.heap.size wr yy) (go_keep) (
         (go_at_call 44; refine Calls.mono (HN.out _ ?_) ?_; (simp [*]); rintro e w2 ⟨rfl,hb2,hz2,hz3,hz4,hz5⟩))
        clear HGA HGD HGR HN hz2 hz3 hz4 hz5
        have hb3:=hbw.trans (hb2.mono hbw.size)
        clear a0 a1 c0 c1 hb2 hbw
        go_wp2_with fail
        go_ret
        exact ⟨false,rfl,⟨fun h=>(by cases h),fun h=>absurd h HE.out⟩,hb3⟩
    · have HE:Hid (l=m):=Md.all_same HTK.out HLEN.out hlt
      go_wp2_with fail
      go_ret
      exact ⟨true,rfl,⟨fun _=>HE.out,fun _=>rfl⟩,hbw⟩
 · have HE:Hid (¬ l=m):=fun e=>hlen (by rw [e])
   have hne:((l.length:Int) != (m.length:Int))=true:=by simp; omega
   have hne2:(l.length != m.length)=true:=by simpa using hlen
   clear hlen
   go_enter Tryz.func21,Tryz.ntmps21
   go_wp2_with fail
   go_ret
   exact ⟨false,rfl,⟨fun h=>(by cases h),fun h=>absurd h HE.out⟩,Below.refl _ _⟩
theorem is1_any (w:World):Cmp1F 70 w:=by
 intro z f g ao bo ca cb hz hI hJ hF hG
 have bT:=(Below.refl z.heap.size z).alloc (Nat.le_refl _) (.cells #[.int .i64 f.pred,.slice ao f.args.length ca] 55)
 have bU:=(Below.refl (z.alloc (.cells #[.int .i64 f.pred,.slice ao f.args.length ca] 55)).heap.size (z.alloc (.cells #[.int .i64 f.pred,.slice ao f.args.length ca] 55))).alloc (Nat.le_refl _) (.cells #[.int .i64 g.pred,.slice bo g.args.length cb] 55)
 have hB:=bT.trans (bU.mono bT.size)
 have HB:Hid _:=hB
 have HO:Hid _:=Order_any f g _ _ _ (intsV_below hI hB) (intsV_below hJ hB) hF hG
 clear hI hJ hF hG bT bU hB hz
 go_enter Tryz.func70,Tryz.ntmps70
 go_upto_region 1 with fail
 go_wp2_with fail
 refine Calls.mono HO.out ?_
 rintro _ z2 ⟨rfl,hg2⟩
 have HB2:Hid (Below z.heap.size z z2):=HB.out.trans (hg2.below.mono HB.out.size)
 clear HO hg2 HB
 go_wp2_with fail
 go_ret
 exact ⟨rfl,HB2.out⟩
theorem EqualF_any (h:Nat) (l m:List Rl.Fc) (v u:Value) (w:World) (hV:FactsV w v l) (hU:FactsV w u m) (hl:l.length≤9223372036854775807) (hf:∀ f,f∈l→FFit f) (hg:∀ f,f∈m→FFit f) (he:∀ args w,(callFunc h args).run Tryz.prog w=.ok (.enter h args) w) (hC:Cmp1F h w) :
 Calls Tryz.prog 69 #[v,u,.func (.func h) #[] #[]] w fun e w'=>∃ t,e=.returned (.bool t)∧(t=true↔l=m)∧Below w.heap.size w w':=by
 obtain ⟨ao,cap,rfl,_,hA⟩:=hV
 obtain ⟨bo,cbp,rfl,_,hB⟩:=hU
 have HA:Hid (FactsAt w ao l):=hA
 have HB:Hid (FactsAt w bo m):=hB
 have HF:Hid ((∀ f,f∈l→FFit f)∧∀ f,f∈m→FFit f):=⟨hf,hg⟩
 have HC:Hid (Cmp1F h w):=hC
 clear hA hB hf hg hC
 by_cases hlen:l.length=m.length
 · rw [← hlen]
   have HLEN:Hid (l.length=m.length):=hlen
   have hne:((l.length:Int) != (l.length:Int))=false:=by simp
   clear hlen
   go_enter Tryz.func69,Tryz.ntmps69
   go_wp2_with fail
   go_loopw [17] (fun i wr=>∃ k:Nat,k≤l.length∧i=.int .i64 k∧Hid (l.take k=m.take k)∧Below w.heap.size w wr) (fun i _=>l.length - (intOf i).toNat)
   case atStart=>exact ⟨0,Nat.zero_le _,rfl,rfl,Below.refl _ _⟩
   case round =>
    obtain ⟨k,hk,rfl,HTK,hbw⟩:=hrel
    by_cases hlt:k<l.length
    · obtain ⟨b,off,rfl,p0,fv,p1,hIv⟩:=facts_at HA.out k hlt
      have hltm:k<m.length:=by rw [← HLEN.out]; exact hlt
      obtain ⟨b2,off2,rfl,r0,gv,r1,hJv⟩:=facts_at HB.out k hltm
      have HIV:Hid (IntsV w fv (Rl.factD l k).args∧IntsV w gv (Rl.factD m k).args∧FFit (Rl.factD l k)∧FFit (Rl.factD m k)):=⟨hIv,hJv,HF.out.1 _ (factD_mem l k hlt),HF.out.2 _ (factD_mem m k hltm)⟩
      have HNX:Hid (Rl.factD l k=Rl.factD m k→l.take (k+1)=m.take (k+1)):=fun e=>Md.take_same HTK.out hlt hltm e
      have HNO:Hid (¬ Rl.factD l k=Rl.factD m k→¬ l=m):=fun h e=>h (by rw [e])
      obtain ⟨af,cf,rfl,_⟩:=hIv
      obtain ⟨ag,cg,rfl,_⟩:=hJv
      have a0:=cell_below hbw p0
      have a1:=cell_below hbw p1
      have c0:=cell_below hbw r0
      have c1:=cell_below hbw r1
      have HBW:Hid _:=hbw
      clear p0 p1 r0 r1 hltm HTK hbw
      generalize Rl.factD l k=g at *
      generalize Rl.factD m k=g2 at *
      go_upto_region 6 with fail
      have bT:=(Below.refl wr.heap.size wr).alloc (Nat.le_refl _) (.cells #[.int .i64 g.pred,.slice af g.args.length cf] 55)
      have HX1:Hid _:=heap_alloc_new wr (.cells #[.int .i64 g.pred,.slice af g.args.length cf] 55)
      have HB1:Hid (Below w.heap.size w _):=HBW.out.trans (bT.mono HBW.out.size)
      have d0:=cell_below bT c0
      have d1:=cell_below bT c1
      clear a0 a1 c0 c1 bT HBW
      generalize wr.alloc (.cells #[.int .i64 g.pred,.slice af g.args.length cf] 55)=wp at *
      generalize wr.heap.size=GB at *
      go_upto_region 7 with fail
      have bU:=(Below.refl wp.heap.size wp).alloc (Nat.le_refl _) (.cells #[.int .i64 g2.pred,.slice ag g2.args.length cg] 55)
      have HX2:Hid _:=heap_alloc_new wp (.cells #[.int .i64 g2.pred,.slice ag g2.args.length cg] 55)
      have HX1':Hid _:=(bU.block _ (heap_lt HX1.out)).trans HX1.out
      have HB2:Hid (Below w.heap.size w _):=HB1.out.trans (bU.mono HB1.out.size)
      clear d0 d1 bU HB1 HX1
      generalize wp.alloc (.cells #[.int .i64 g2.pred,.slice ag g2.args.length cg] 55)=wq at *
      generalize wp.heap.size=HB9 at *
      have e0:wq.cell? ⟨GB,0,none⟩=some (.int .i64 g.pred):=by rw [Lib.cell_of_heap HX1'.out]; rfl
      have e1:wq.cell? ⟨GB,1,none⟩=some (.slice af g.args.length cf):=by rw [Lib.cell_of_heap HX1'.out]; rfl
      have e2:wq.cell? ⟨HB9,0,none⟩=some (.int .i64 g2.pred):=by rw [Lib.cell_of_heap HX2.out]; rfl
      have e3:wq.cell? ⟨HB9,1,none⟩=some (.slice ag g2.args.length cg):=by rw [Lib.cell_of_heap HX2.out]; rfl
      have HCC:Hid _:=HC.out wq g g2 af ag cf cg HB2.out (intsV_below HIV.out.1 HB2.out) (intsV_below HIV.out.2.1 HB2.out) HIV.out.2.2.1 HIV.out.2.2.2
      clear HX1' HX2
      go_wp2_with fail
      refine Calls.mono HCC.out ?_
      rintro _ w3 ⟨rfl,hb3⟩
      have HB3:Hid (Below w.heap.size w w3):=HB2.out.trans (hb3.mono HB2.out.size)
      clear hb3 HCC e0 e1 e2 e3
      by_cases ho:Rl.ord g g2=0
      · have HE:Hid _:=HNX.out (Rl.ord_zero.mp ho)
        rw [ho]
        clear ho HNX HNO
        go_wp2_with fail
        go_roundw
        case rel=>exact ⟨k+1,by omega,by go_num,HE.out,HB3.out⟩
        case measure=>simp [intOf]; omega
      · have HE:Hid (¬ l=m):=HNO.out (fun e=>ho (Rl.ord_zero.mpr e))
        have gne:(Rl.ord g g2==0)=false:=by simpa using ho
        rw [gne]
        clear ho HNX HNO gne
        go_wp2_with fail
        go_ret
        exact ⟨false,rfl,⟨fun h=>(by cases h),fun h=>absurd h HE.out⟩,HB3.out⟩
    · have HE:Hid (l=m):=Md.all_same HTK.out HLEN.out hlt
      go_wp2_with fail
      go_ret
      exact ⟨true,rfl,⟨fun _=>HE.out,fun _=>rfl⟩,hbw⟩
 · have HE:Hid (¬ l=m):=fun e=>hlen (by rw [e])
   have hne:((l.length:Int) != (m.length:Int))=true:=by simp; omega
   have hne2:(l.length != m.length)=true:=by simpa using hlen
   clear hlen
   go_enter Tryz.func69,Tryz.ntmps69
   go_wp2_with fail
   go_ret
   exact ⟨false,rfl,⟨fun h=>(by cases h),fun h=>absurd h HE.out⟩,Below.refl _ _⟩
theorem Match_wide (l:List Rl.Fc) (p:Int) (y:List Int) (z:List Bool) (v u t:Value) (w:World) (hV:FactsV w v l) (hU:IntsV w u y) (hT:BoolsV w t z) (hl:l.length≤1048576) (hf:∀ f,f∈l→f.args.length≤1048576) (hy:y.length≤9223372036854775807) (hz:z.length≤9223372036854775807) :
 Calls Tryz.prog 72 #[v,.int .i64 p,u,t] w fun e w'=>∃ v',e=.returned v'∧FactsV w' v' (Rl.matchL l p y z)∧Below w.heap.size w w':=by
 have hmf:∀ (fn:Fn) (first cap:Array Value) (w:World),(Instr.makeFunc fn first cap).run Tryz.prog w=.ok (.func fn first cap) w:=fun _ _ _ _=>rfl
 obtain ⟨ao,cap,rfl,hc1,hA⟩:=id hV
 obtain ⟨bo,cbp,rfl,hB⟩:=hU
 obtain ⟨zo,czp,rfl,hc3,hZ⟩:=hT
 have HV:Hid (FactsV w (.slice ao l.length cap) l):=hV
 have HB:Hid (IntsAt w bo y):=hB
 have HZ:Hid (BoolsAt w zo z):=hZ
 obtain ⟨hc3,hc4⟩:=hc3
 clear hV hB hZ hc1 hA
 go_enter Tryz.func72,Tryz.ntmps72
 go_wp2_with fail
 have hn:(min (z.length:Int) (y.length:Int)).toNat=(z.take y.length).length:=by rw [List.length_take]; omega
 rw [hn]
 have hb1:Below w.heap.size w (w.alloc (Obj.cells #[Value.int IntKind.i64 p] 3)):=(Below.refl _ _).alloc (Nat.le_refl _) _
 have hb2:=hb1.alloc hb1.size (Obj.cells #[Value.slice bo y.length cbp] 22)
 have hb3:=hb2.alloc hb2.size (Obj.cells #[Value.slice zo (z.take y.length).length czp] 57)
 have e0:(((w.alloc (Obj.cells #[Value.int IntKind.i64 p] 3)).alloc (Obj.cells #[Value.slice bo y.length cbp] 22)).alloc (Obj.cells #[Value.slice zo (z.take y.length).length czp] 57)).cell? ⟨w.heap.size,0,none⟩=some (.int .i64 p):=by rw [Lib.cell_of_heap (three_new w _ _ _).1]; rfl
 have e1:(((w.alloc (Obj.cells #[Value.int IntKind.i64 p] 3)).alloc (Obj.cells #[Value.slice bo y.length cbp] 22)).alloc (Obj.cells #[Value.slice zo (z.take y.length).length czp] 57)).cell? ⟨w.heap.size+1,0,none⟩=some (.slice bo y.length cbp):=by rw [Lib.cell_of_heap (three_new w _ _ _).2.1]; rfl
 have e2:(((w.alloc (Obj.cells #[Value.int IntKind.i64 p] 3)).alloc (Obj.cells #[Value.slice bo y.length cbp] 22)).alloc (Obj.cells #[Value.slice zo (z.take y.length).length czp] 57)).cell? ⟨w.heap.size+2,0,none⟩=some (.slice zo (z.take y.length).length czp):=by rw [Lib.cell_of_heap (three_new w _ _ _).2.2]; rfl
 refine Calls.mono (keep_any l _ _ 117 _ (Rl.fits p y (z.take y.length)) (factsV_below HV.out hb3) (by omega) hf rl_enters56 (match1_any _ w.heap.size p y (z.take y.length) bo zo cbp czp e0 e1 e2 (intsAt_below9 HB.out hb3) (boolsAt_take (boolsAt_below HZ.out hb3) _) (by rw [List.length_take]; omega))) ?_
 rintro e w3 ⟨v3,rfl,hS,hbk⟩
 have HS:Hid (FactsV w3 v3 (Rl.matchL l p y z)):=by
  have h:=hS.toV
  rw [show Rl.fits p y (z.take y.length)=Rl.fits p y z from funext fun f=>by unfold Rl.fits; rw [agree_take _ _ _ _ (Nat.le_refl _)]] at h
  exact h
 obtain ⟨q3,_,hown3,_⟩:=id hS
 obtain ⟨a3,c3,rfl⟩:=own_slice hown3
 have hb4:=hb3.trans (hbk.mono hb3.size)
 clear hown3 hS hbk hb1 hb2 hb3 e0 e1 e2 hn HV HB HZ hc3 hc4
 go_wp2_with fail
 go_ret
 exact ⟨_,rfl,HS.out,hb4⟩
theorem boolsV_below {w w':World} {v:Value} {l:List Bool} (h:BoolsV w v l) (hb:Below w.heap.size w w'):BoolsV w' v l:=by
 obtain ⟨ao,cap,rfl,hc,h⟩:=h
 exact ⟨ao,cap,rfl,hc,boolsAt_below h hb⟩
namespace Md
theorem mres_zero {p:Sc.Prog} {l o S:List Rl.Fc} {c:Int} (h:MRes p l o c S) (hc:c=0):pre p l o=0∧IsModel p l (some S):=by
 rcases h with ⟨h1,h2,_⟩ | ⟨h1,x,h2,h3,h4⟩
 · exact absurd (h2.symm.trans hc) h1
 · cases x with
   | none=>rw [hc] at h3; cases h3
   | some T=>rw [h4]; exact ⟨h1,h2⟩
theorem mres_bad {p:Sc.Prog} {l o S:List Rl.Fc} {c:Int} (h:MRes p l o c S) (hc:¬ c=0):S=[]:=by
 rcases h with ⟨_,_,h⟩ | ⟨_,x,_,h3,h4⟩
 · exact h
 · cases x with
   | none=>exact h4
   | some T=>exact absurd h3 hc
theorem run_len {p:Sc.Prog} {m:List Rl.Fc} (hm:m.length≤60):∀ {n:Nat} {S:List Rl.Fc},Run p m n (some S)→S.length≤60
 | 0,S,h=>by unfold Run at h; injection h with h; subst h; exact hm
 | n+1,S,h=>by
  obtain ⟨a,_,h2⟩:=h
  cases a with
  | none=>cases h2
  | some T=>exact h2.2.2.len
theorem mres_facts {p:Sc.Prog} {l o S:List Rl.Fc} {c:Int} (h:MRes p l o c S):S.length≤60∧∀ f,f∈S→f.args.length≤3:=by
 by_cases hc:c=0
 · obtain ⟨h1,h2⟩:=mres_zero h hc
   obtain ⟨hck,hfl,hl,_⟩:=pre_zero h1
   obtain ⟨h6,hr⟩:=chkF_zero hck hl
   have hp:=fine_of hck hfl
   exact ⟨run_len (Nat.le_trans (set_length l) h6) h2,fun f hf=>right_args hp.ok ((run_facts hp (set_facts hr) h2).right f hf)⟩
 · rw [mres_bad h hc]
   exact ⟨Nat.zero_le _,fun f hf=>absurd hf (by simp)⟩
theorem mres_fit {p:Sc.Prog} {l o S:List Rl.Fc} {c:Int} (h:MRes p l o c S):∀ f,f∈S→FFit f:=fun f hf=>by have:=(mres_facts h).2 f hf; unfold FFit; omega
end Md
theorem md_enters70:∀ args w,(callFunc 70 args).run Tryz.prog w=.ok (.enter 70 args) w:=enters_of Tryz.func70 (by kernel_rfl) rfl
theorem Is_any (p:Sc.Prog) (l o:List Rl.Fc) (va vn vr vl vo:Value) (w:World) (hP:ProgV w va vn vr p) (hF:ProgFit p) (hcap:RulesCap w vr) (hV:FactsV w vl l) (hVl:l.length≤9223372036854775807) (hVF:∀ f,f∈l→FFit f) (hO:FactsV w vo o) (hOl:o.length≤9223372036854775807) (hOF:∀ f,f∈o→FFit f) :
 Calls Tryz.prog 28 #[progVal va vn vr,vl,vo] w fun e w'=>∃ t c S,e=.returned (.tuple #[.bool t,.int .i64 c])∧Md.MRes p l o c S∧(t=true↔c=0∧Rl.set o=S)∧Below w.heap.size w w':=by
 obtain ⟨a0,n0,rfl,_⟩:=id hP.ar
 obtain ⟨a1,n1,rfl,_⟩:=id hP.nm
 obtain ⟨a2,n2,rfl,_⟩:=id hP.rl
 obtain ⟨al,cl,rfl,_⟩:=id hV
 obtain ⟨ao,co,rfl,_⟩:=id hO
 have bT:=(Below.refl w.heap.size w).alloc (Nat.le_refl _) (.cells #[.slice a0 p.arity.length n0,.slice a1 p.names.length n1,.slice a2 p.rules.length n2] 26)
 have HBX:Hid _:=heap_alloc_new w (.cells #[.slice a0 p.arity.length n0,.slice a1 p.names.length n1,.slice a2 p.rules.length n2] 26)
 have HB:Hid (Below w.heap.size w _):=bT
 have HO:Hid (FactsV w (.slice ao o.length co) o):=hO
 have HC:Hid _:=checkedModel_any p l o _ _ _ _ _ _ (hP.below bT) hF (hcap.below hP.rl bT) (factsV_below hV bT) hVl hVF (factsV_below hO bT) hOl hOF
 clear hP hF hcap hV hVF hO hOF bT
 go_enter Tryz.func28,Tryz.ntmps28
 go_upto_region 1 with fail
 generalize w.alloc (.cells #[.slice a0 p.arity.length n0,.slice a1 p.names.length n1,.slice a2 p.rules.length n2] 26)=w1 at *
 have c0:w1.cell? ⟨w.heap.size,0,none⟩=some (.slice a0 p.arity.length n0):=by rw [Lib.cell_of_heap HBX.out]; rfl
 have c1:w1.cell? ⟨w.heap.size,1,none⟩=some (.slice a1 p.names.length n1):=by rw [Lib.cell_of_heap HBX.out]; rfl
 have c2:w1.cell? ⟨w.heap.size,2,none⟩=some (.slice a2 p.rules.length n2):=by rw [Lib.cell_of_heap HBX.out]; rfl
 go_wp2_with fail
 refine Calls.mono HC.out ?_
 rintro _ w2 ⟨v,c,S,rfl,hR,hFS,hb2⟩
 have HR:Hid _:=hR
 have HFS:Hid _:=hFS
 obtain ⟨as_,cs,rfl,_⟩:=id hFS
 have HB2:Hid (Below w.heap.size w w2):=HB.out.trans (hb2.mono HB.out.size)
 clear hb2 HC HB HBX c0 c1 c2 hR hFS
 by_cases hc:c=0
 · have HZ:Hid _:=Md.pre_zero (Md.mres_zero HR.out hc).1
   have HOK:Hid _:=Md.chkF_zero HZ.out.1 HZ.out.2.2.2
   have HOA:Hid (∀ f,f∈o→f.args.length≤3):=fun f hf=>Md.right_args (Ru.progOk_of HZ.out.1) (HOK.out.2 f hf)
   have HST:Hid _:=Set_any o _ w2 (factsV_below HO.out HB2.out) (by have:=HOK.out.1; omega) (fun f hf=>by have:=HOA.out f hf; omega)
   subst hc
   go_wp2_with fail
   refine Calls.mono HST.out ?_
   rintro _ w3 ⟨v3,rfl,hFP,hb3⟩
   have HF3:Hid _:=hFP.toV
   obtain ⟨a3,c3,rfl,_⟩:=id HF3.out
   have HB3:Hid (Below w.heap.size w w3):=HB2.out.trans (hb3.mono HB2.out.size)
   have HEQ:Hid _:=EqualF_any 70 (Rl.set o) S _ _ w3 HF3.out (factsV_below HFS.out hb3) (Nat.le_trans (Md.set_length o) (by have:=HOK.out.1; omega)) (fun f hf=>by have:=HOA.out f (Rl.mem_set.mp hf); unfold FFit; omega) (Md.mres_fit HR.out) md_enters70 (is1_any w3)
   clear hFP hb3 HST
   go_wp2_with fail
   refine Calls.mono HEQ.out ?_
   rintro _ w4 ⟨t,rfl,ht,hb4⟩
   have HB4:Hid (Below w.heap.size w w4):=HB3.out.trans (hb4.mono HB3.out.size)
   have HT:Hid _:=ht
   clear hb4 HEQ ht
   go_wp2_with fail
   refine bodyPost_ret (results_tmp2 rfl _ _ _) rfl ?_
   exact ⟨t,0,S,rfl,HR.out,⟨fun h=>⟨rfl,HT.out.mp h⟩,fun h=>HT.out.mpr h.2⟩,HB4.out⟩
 · have g:(c != 0)=true:=by simpa using hc
   have HNC:Hid (¬ c=0):=hc
   clear hc
   go_wp2_with fail
   refine bodyPost_ret (results_tmp2 rfl _ _ _) rfl ?_
   exact ⟨false,c,S,rfl,HR.out,⟨fun h=>(by cases h),fun h=>absurd h.1 HNC.out⟩,HB2.out⟩
theorem Ask_any (p:Sc.Prog) (l:List Rl.Fc) (pd:Int) (y:List Int) (z:List Bool) (va vn vr vl vy vz:Value) (w:World) (hP:ProgV w va vn vr p) (hF:ProgFit p) (hcap:RulesCap w vr) (hV:FactsV w vl l) (hVl:l.length≤9223372036854775807) (hVF:∀ f,f∈l→FFit f) (hY:IntsV w vy y) (hYl:y.length≤9223372036854775807) (hZ:BoolsV w vz z) (hZl:z.length≤9223372036854775807) :
 Calls Tryz.prog 29 #[progVal va vn vr,vl,.int .i64 pd,vy,vz] w fun e w'=>∃ v c S,e=.returned (.tuple #[v,.int .i64 c])∧Md.MRes p l [] c S∧FactsV w' v (Rl.matchL S pd y z)∧Below w.heap.size w w':=by
 obtain ⟨a0,n0,rfl,_⟩:=id hP.ar
 obtain ⟨a1,n1,rfl,_⟩:=id hP.nm
 obtain ⟨a2,n2,rfl,_⟩:=id hP.rl
 obtain ⟨al,cl,rfl,_⟩:=id hV
 obtain ⟨ay,cy,rfl,_⟩:=id hY
 obtain ⟨az,cz,rfl,_⟩:=id hZ
 have bT:=(Below.refl w.heap.size w).alloc (Nat.le_refl _) (.cells #[.slice a0 p.arity.length n0,.slice a1 p.names.length n1,.slice a2 p.rules.length n2] 26)
 have HBX:Hid _:=heap_alloc_new w (.cells #[.slice a0 p.arity.length n0,.slice a1 p.names.length n1,.slice a2 p.rules.length n2] 26)
 have HB:Hid (Below w.heap.size w _):=bT
 have HY:Hid (IntsV w (.slice ay y.length cy) y∧y.length≤9223372036854775807):=⟨hY,hYl⟩
 have HZ:Hid (BoolsV w (.slice az z.length cz) z∧z.length≤9223372036854775807):=⟨hZ,hZl⟩
 have HC:Hid _:=Model_any p l _ _ _ _ _ (hP.below bT) hF (hcap.below hP.rl bT) (factsV_below hV bT) hVl hVF
 clear hP hF hcap hV hVF hY hZ bT
 go_enter Tryz.func29,Tryz.ntmps29
 go_upto_region 1 with fail
 generalize w.alloc (.cells #[.slice a0 p.arity.length n0,.slice a1 p.names.length n1,.slice a2 p.rules.length n2] 26)=w1 at *
 have c0:w1.cell? ⟨w.heap.size,0,none⟩=some (.slice a0 p.arity.length n0):=by rw [Lib.cell_of_heap HBX.out]; rfl
 have c1:w1.cell? ⟨w.heap.size,1,none⟩=some (.slice a1 p.names.length n1):=by rw [Lib.cell_of_heap HBX.out]; rfl
 have c2:w1.cell? ⟨w.heap.size,2,none⟩=some (.slice a2 p.rules.length n2):=by rw [Lib.cell_of_heap HBX.out]; rfl
 go_wp2_with fail
 refine Calls.mono HC.out ?_
 rintro _ w2 ⟨v,c,S,rfl,hR,hFS,hb2⟩
 have HR:Hid _:=hR
 have HFS:Hid _:=hFS
 obtain ⟨as_,cs,rfl,_⟩:=id hFS
 have HB2:Hid (Below w.heap.size w w2):=HB.out.trans (hb2.mono HB.out.size)
 have HMA:Hid _:=Match_wide S pd y z _ _ _ w2 HFS.out (intsV_below HY.out.1 HB2.out) (boolsV_below HZ.out.1 HB2.out) (by have:=(Md.mres_facts HR.out).1; omega) (fun f hf=>by have:=(Md.mres_facts HR.out).2 f hf; omega) HY.out.2 HZ.out.2
 clear hb2 HC HB HBX c0 c1 c2 hR hFS
 go_wp2_with fail
 refine Calls.mono HMA.out ?_
 rintro _ w3 ⟨v3,rfl,hF3,hb3⟩
 have HF3:Hid _:=hF3
 obtain ⟨a3,c3,rfl,_⟩:=id hF3
 have HB3:Hid (Below w.heap.size w w3):=HB2.out.trans (hb3.mono HB2.out.size)
 clear hb3 HMA hF3
 go_wp2_with fail
 refine bodyPost_ret (results_tmp2 rfl _ _ _) rfl ?_
 exact ⟨_,c,S,rfl,HR.out,HF3.out,HB3.out⟩
end Go.Proofs.YthenjegmigeieaaGreat
namespace Go.Proofs.YthenjegmigeieaaGreat
namespace Ch
open Md
def ChkRes (p:Sc.Prog) (l m puts takes:List Rl.Fc) (e:Int):Prop:=∃ c was,MRes p l [] c was ∧
 ((¬ c=0∧e=c)∨(c=0∧(60<puts.length∨60<takes.length)∧e=2) ∨
  (c=0∧¬ (60<puts.length∨60<takes.length)∧¬ Ru.factsErr p (puts++takes)=0∧e=Ru.factsErr p (puts++takes)) ∨
  (c=0∧¬ (60<puts.length∨60<takes.length)∧Ru.factsErr p (puts++takes)=0∧((Rl.set m=was∧e=0)∨(¬ Rl.set m=was∧e=4))))
def given (l puts takes:List Rl.Fc):List Rl.Fc:=Rl.union (Rl.minus l takes) puts
def ARes (p:Sc.Prog) (l m puts takes:List Rl.Fc) (e:Int) (G N C W:List Rl.Fc):Prop:=∃ e0,ChkRes p l m puts takes e0 ∧
 ((¬ e0=0∧e=e0∧G=[]∧N=[]∧C=[]∧W=[]) ∨
  (e0=0∧∃ c N',MRes p (given l puts takes) [] c N'∧((¬ c=0∧e=c∧G=[]∧N=[]∧C=[]∧W=[])∨(c=0∧e=0∧G=given l puts takes∧N=N'∧C=Rl.minus N' m∧W=Rl.minus m N'))))
theorem chk_zero {p:Sc.Prog} {l m puts takes:List Rl.Fc} (h:ChkRes p l m puts takes 0):∃ was,MRes p l [] 0 was∧puts.length≤60∧takes.length≤60∧Ru.factsErr p (puts++takes)=0∧Rl.set m=was:=by
 obtain ⟨c,was,h1,h | ⟨_,_,h⟩ | ⟨_,_,h2,h3⟩ | ⟨h0,h2,h3,h4⟩⟩:=h
 · exact absurd h.2.symm h.1
 · cases h
 · exact absurd h3.symm h2
 · rcases h4 with ⟨h4,_⟩ | ⟨_,h4⟩
   · subst h0
     exact ⟨was,h1,by omega,by omega,h3,h4⟩
   · cases h4
theorem chk_one {p:Sc.Prog} {l m puts takes:List Rl.Fc} {e e':Int} (h:ChkRes p l m puts takes e) (h':ChkRes p l m puts takes e'):e=e':=by
 obtain ⟨c,was,h1,h2⟩:=h
 obtain ⟨c',was',h1',h2'⟩:=h'
 obtain ⟨rfl,rfl⟩:=mres_one h1 h1'
 rcases h2 with ⟨a,b⟩ | ⟨a,b,d⟩ | ⟨a,b,d,f⟩ | ⟨a,b,d,f⟩ <;> rcases h2' with ⟨a',b'⟩ | ⟨a',b',d'⟩ | ⟨a',b',d',f'⟩ | ⟨a',b',d',f'⟩ <;> first
  | exact b.trans b'.symm
  | exact d.trans d'.symm
  | exact f.trans f'.symm
  | exact absurd a' a
  | exact absurd a a'
  | exact absurd b b'
  | exact absurd b' b
  | exact absurd d d'
  | exact absurd d' d
  | (rcases f with ⟨f1,f2⟩ | ⟨f1,f2⟩ <;> rcases f' with ⟨g1,g2⟩ | ⟨g1,g2⟩ <;> first | exact f2.trans g2.symm | exact absurd f1 g1 | exact absurd g1 f1)
theorem mem_union {l m:List Rl.Fc} {f:Rl.Fc}:f∈Rl.union l m↔f∈l∨f∈m:=Md.mem_union
theorem mem_minus {l m:List Rl.Fc} {f:Rl.Fc}:f∈Rl.minus l m↔f∈l∧f∉m:=by
 unfold Rl.minus
 rw [Rl.mem_set,List.mem_filter]
 refine and_congr Iff.rfl ?_
 cases h:Rl.has m f
 · simp; intro hm; rw [Rl.has_iff.mpr hm] at h; cases h
 · simp; exact Rl.has_iff.mp h
theorem play_there {a b:List Rl.Fc} (hb:Rl.Up b):Rl.union (Rl.minus a (Rl.minus a b)) (Rl.minus b a)=b:=by
 refine Rl.up_ext (Rl.set_isSet _).1 hb fun f=>?_
 show f∈Rl.union (Rl.minus a (Rl.minus a b)) (Rl.minus b a)↔f∈b
 rw [mem_union,mem_minus,mem_minus,mem_minus]
 constructor
 · rintro (⟨h1,h2⟩ | ⟨h1,_⟩)
   · exact Classical.byContradiction fun h=>h2 ⟨h1,h⟩
   · exact h1
 · intro h
   by_cases ha:f∈a
   · exact .inl ⟨ha,fun h2=>h2.2 h⟩
   · exact .inr ⟨h,ha⟩
theorem minus_len {l m:List Rl.Fc}:(Rl.minus l m).length≤l.length:=Nat.le_trans (Md.set_length _) (List.length_filter_le _ _)
end Ch
end Go.Proofs.YthenjegmigeieaaGreat
namespace Go.Proofs.YthenjegmigeieaaGreat
open Go.RowKit Go.Sort Go.Lib
theorem cloneIW_any (l:List Int) (v:Value) (w:World) (hV:IntsV w v l) (hl:l.length≤17592186044416) :
 Calls Tryz.prog 77 #[v] w fun e w'=>∃ v',e=.returned v'∧w'.ownsRow w.heap.size 3 1 v' l.length (l.map (Value.int .i64))∧Below w.heap.size w w':=by
 obtain ⟨i0,hi,hz0,hz1,hz2⟩:=info_parts rl_info3
 obtain ⟨ao,cap,rfl,hA⟩:=hV
 have q22:∀ (w:World) (a:Option Addr) (n c:Nat),(binOp .eql 22 (.slice a n c) (.slice none 0 0)).run Tryz.prog w=.ok (.bool a.isNone) w:=fun w a n c=>Lib.run_eql_slice_nil w 22 3 a n c 0 0 Tryz.underlying22
 have u22:∀ w,Sem.run Tryz.prog (underlying 22) w=.ok (TypeDesc.slice 3) w:=run_underlying Tryz.underlying22
 have HA:Hid (IntsAt w ao l):=hA
 clear hA
 cases ao with
 | none =>
  have hl0:l=[]:=by
   rcases HA.out with h | ⟨b,off,h,_⟩
   · exact h
   · cases h
  subst hl0
  go_enter Tryz.func77,Tryz.ntmps77
  go_wp2_with fail
  go_ret
  exact ⟨_,rfl,World.ownsRow_nil _ _ _ _,Below.refl _ _⟩
 | some a =>
  obtain ⟨b,off,hao⟩:∃ b off,l=[]∨a=⟨b,off,none⟩:=by
   rcases HA.out with h | ⟨b,off,h,_⟩
   · exact ⟨0,0,.inl h⟩
   · exact ⟨b,off,.inr (Option.some.inj h)⟩
  have HC:Hid (∀ j u,(l.map (Value.int .i64))[j]?=some u→w.cell? (a.add j)=some u):=by
   intro j u hj
   rcases HA.out with h | ⟨b,off,h,hc⟩
   · rw [h] at hj; simp at hj
   · have ha:=Option.some.inj h
     have hjl:j<l.length:=by
      rcases Nat.lt_or_ge j l.length with h2 | h2
      · exact h2
      · rw [List.getElem?_eq_none (by simpa using h2)] at hj; cases hj
     rw [List.getElem?_map,List.getElem?_eq_getElem hjl] at hj
     have hu:Value.int .i64 l[j]=u:=by simpa using hj
     rw [← hu,ha]
     have h3:=hc j hjl
     have h4:Sc.intD l j=l[j]:=by simp [Sc.intD,hjl]
     rw [h4] at h3
     rw [Addr.add_lit]
     exact h3
  clear HA
  go_enter Tryz.func77,Tryz.ntmps77
  go_wp2_with (at_builtin; refine wpList_append_own _ rfl _ _ 22 rfl w.heap.size 3 i0 _ 1 8 Tryz.underlying22 hi hz0 hz1 hz2 rfl (by decide) _ _ _ rfl (World.ownsRow_made w #[] 0 (Nat.le_refl _) (Nat.zero_le _) (by simp)) a l.length cap (l.map (Value.int .i64)) rfl ?qc1 ?qc2 ?qc3 ?qc4 ?qc5 ?qc6 ?_)
  case qc1=>rw [List.length_map,Nat.mul_one]
  case qc2 =>
   intro j u hj
   exact Lib.cell?_alloc_some _ (HC.out j u hj)
  case qc3 =>
   intro u hu
   obtain ⟨x,_,rfl⟩:=List.mem_map.mp hu
   rfl
  case qc4=>unfold maxLen; omega
  case qc5=>omega
  case qc6=>simp
  intro v' w1 hown hgrow hnil
  obtain ⟨ao9,cap9,rfl⟩:=own_slice hown
  have HB:Hid (Below w.heap.size w w1):=((Below.refl _ w).alloc (Nat.le_refl _) _).grown hgrow (by simp) (by intro k hk; simp [Value.ownBlock] at hk; omega)
  have HO:Hid _:=hown
  clear hown hgrow hnil HC
  go_wp2_with fail
  go_ret
  exact ⟨_,rfl,HO.out,HB.out⟩
theorem keepW_any (l:List Rl.Fc) (v:Value) (w:World) (h:Nat) (cb:Array Value) (P:Rl.Fc→Bool) (hV:FactsV w v l) (hl:l.length≤4398046511103) (hf:∀ f,f∈l→f.args.length≤17592186044416) (he:∀ args w,(callFunc h args).run Tryz.prog w=.ok (.enter h args) w) (hK:Keeps1 h cb w P) :
 Calls Tryz.prog 100 #[v,.func (.func h) #[] cb] w fun e w'=>∃ v',e=.returned v'∧FactsP w.heap.size w' v' (Rl.set (l.filter P))∧Below w.heap.size w w':=by
 obtain ⟨i0,hi,hz0,hz1,hz2⟩:=info_parts rl_info49
 obtain ⟨ao,cap,rfl,hcap,hA⟩:=hV
 have HA:Hid (FactsAt w ao l):=hA
 have HF:Hid (∀ f,f∈l→f.args.length≤17592186044416):=hf
 have HK:Hid (Keeps1 h cb w P):=hK
 clear hA hf hK
 go_enter Tryz.func100,Tryz.ntmps100
 go_wp2_with fail
 go_loopw [5,11] (fun vs i wr=>∃ (k:Nat) (q:List Fv),k≤l.length∧i=.int .i64 k∧wr.ownsRow w.heap.size 55 2 vs q.length (q.map fcCells).flatten∧q.map (·.1)=(l.take k).filter P∧(∀ p,p∈q→FvOk w p∧p.1∈l)∧Below w.heap.size w wr∧q.length≤k) (fun _ i _=>l.length - (intOf i).toNat)
 case atStart=>exact ⟨0,[],Nat.zero_le _,rfl,World.ownsRow_nil _ _ _ _,rfl,fun _ hp=>absurd hp (by simp),Below.refl _ _,Nat.le_refl _⟩
 case round =>
  obtain ⟨wo,hwo⟩:∃ wo,wo=wr:=⟨_,rfl⟩
  subst hwo
  obtain ⟨k,q,hk,rfl,hown,hqf,hqo,hb,hqk⟩:=hrel
  have HQF:Hid _:=hqf
  have HQO:Hid _:=hqo
  clear hqf hqo
  obtain ⟨aos,caps,rfl⟩:=own_slice hown
  by_cases hlt:k<l.length
  · obtain ⟨b,off,rfl,p0,fv,p1,hIv⟩:=facts_at HA.out k hlt
    have hmem:=factD_mem l k hlt
    have HTK:Hid ((l.take (k+1)).filter P=(l.take k).filter P++if P (Rl.factD l k) then [Rl.factD l k] else []):=by
     show _=_
     rw [List.take_add_one,factD_get l k hlt,List.filter_append]
     simp only [Option.toList_some,List.filter_cons,List.filter_nil]
    have HIV:Hid (IntsV w fv (Rl.factD l k).args):=hIv
    have HFF:Hid (FFit (Rl.factD l k)):=by have:=HF.out _ hmem; show _≤_; omega
    have HM:Hid (Rl.factD l k∈l):=hmem
    obtain ⟨af,cf,rfl,_⟩:=hIv
    have q0:=cell_below hb p0
    have q1:=cell_below hb p1
    clear p0 p1 hmem
    generalize Rl.factD l k=f at *
    go_upto_region 5 with fail
    have hba:Below wo.heap.size wo (wo.alloc (.cells #[.int .i64 f.pred,.slice af f.args.length cf] 55)):=(Below.refl _ _).alloc (Nat.le_refl _) _
    have hbx:=rl_new wo (.cells #[.int .i64 f.pred,.slice af f.args.length cf] 55)
    have hown1:=ownsRow_below hown hba
    have hb1:=hb.trans (hba.mono hb.size)
    clear hown hba hb q0 q1
    generalize hfb:wo.heap.size=FB at *
    generalize wo.alloc (.cells #[.int .i64 f.pred,.slice af f.args.length cf] 55)=wa at *
    clear hfb
    have c0:wa.cell? ⟨FB,0,none⟩=some (.int .i64 f.pred):=by rw [Lib.cell_of_heap hbx]; rfl
    have c1:wa.cell? ⟨FB,1,none⟩=some (.slice af f.args.length cf):=by rw [Lib.cell_of_heap hbx]; rfl
    go_wp2_with fail
    refine Calls.mono (HK.out wa f af cf hb1 (intsV_below HIV.out hb1) HFF.out) ?_
    rintro e w1 ⟨he1,hb2⟩
    subst he1
    have hbx2:=(hb2.block _ (rl_lt hbx)).trans hbx
    have hown2:=ownsRow_below hown1 hb2
    have hb3:=hb1.trans (hb2.mono hb1.size)
    clear hown1 hb2 hb1 hbx c0 c1
    have c0:w1.cell? ⟨FB,0,none⟩=some (.int .i64 f.pred):=by rw [Lib.cell_of_heap hbx2]; rfl
    have c1:w1.cell? ⟨FB,1,none⟩=some (.slice af f.args.length cf):=by rw [Lib.cell_of_heap hbx2]; rfl
    cases hp:P f
    · rw [hp] at HTK
      have HT2:Hid (q.map (·.1)=(l.take (k+1)).filter P):=by show _=_; rw [HTK.out,HQF.out]; simp
      clear HTK HQF
      go_wp2_with fail
      go_roundw
      case rel=>exact ⟨k+1,q,by omega,by go_num,hown2,HT2.out,HQO.out,hb3,by omega⟩
      case measure=>simp [intOf]; omega
    · rw [hp] at HTK
      have HT2:Hid ((q++[(f,Value.slice af f.args.length cf)]).map (·.1)=(l.take (k+1)).filter P):=by show _=_; rw [HTK.out,← HQF.out]; simp
      have HO2:Hid (∀ p,p∈q++[(f,Value.slice af f.args.length cf)]→FvOk w p∧p.1∈l):=by
       intro p hp
       rcases List.mem_append.mp hp with hp | hp
       · exact HQO.out p hp
       · obtain rfl:p=(f,Value.slice af f.args.length cf):=by simpa using hp
         exact ⟨⟨HIV.out,HFF.out⟩,HM.out⟩
      clear HTK HQF HQO
      have hbsz:=hb3.size
      go_wp2_with (at_builtin; refine wpList_append_own _ rfl (.tmp 18) (.tmp 20) 27 rfl w.heap.size 55 i0 _ 2 32 Tryz.underlying27 hi hz0 hz1 hz2 rfl (by decide) _ _ _ rfl (hown2.alloc _) ⟨w1.heap.size,0,none⟩ 1 1 (fcCells (f,.slice af f.args.length cf)) rfl rfl ?c1 ?c2 ?c3 ?c4 ?c5 ?_)
      case c1=>exact news2 w1 _ _ 55
      case c2=>intro u hu; simp [fcCells] at hu; rcases hu with rfl | rfl <;> rfl
      case c3=>unfold maxLen; omega
      case c4=>omega
      case c5=>simp; omega
      intro vs2 w4 hown4 hgrow4 _
      obtain ⟨ao9,cap9,rfl⟩:=own_slice hown4
      have hb5:Below w.heap.size w w4:=(hb3.alloc hb3.size _).grown hgrow4 (by simp; omega) (fun k hk=>(hown2.lt k hk).1)
      have hown5:w4.ownsRow w.heap.size 55 2 (.slice ao9 (q.length+1) cap9) (q++[(f,Value.slice af f.args.length cf)]).length ((q++[(f,Value.slice af f.args.length cf)]).map fcCells).flatten:=by
       rw [List.length_append,List.map_append,List.flatten_append]
       simpa using hown4
      clear hown4 hgrow4 hown2 hb3 c0 c1 hbx2
      go_wp2_with fail
      go_roundw
      case rel=>exact ⟨k+1,_,by omega,by go_num,hown5,HT2.out,HO2.out,hb5,by rw [List.length_append]; simp; omega⟩
      case measure=>simp [intOf]; omega
  · have HQF2:Hid (q.map (·.1)=l.filter P):=by show _=_; rw [HQF.out,List.take_of_length_le (by omega)]
    clear HQF
    rcases ownsRow_forms9 hown with ⟨hv,hq0⟩ | ⟨g,caps2,hv⟩
    · injection hv with e1 e2 e3
      subst e1 e3
      have hq1:q=[]:=List.eq_nil_of_length_eq_zero hq0
      subst hq1
      have HS:Hid (Rl.set (l.filter P)=[]):=by show _=_; rw [← HQF2.out]; rfl
      have hs:=AnyF.slices_SortFunc_none Tryz.sortF none 0 (.func (.func 71) #[] #[]) wo
      change Calls Tryz.prog 106 _ _ _ at hs
      have HSS:Hid _:=hs
      clear hs hown
      simp only [List.length_nil]
      go_wp2_with fail
      refine Calls.mono HSS.out ?_
      rintro e w5 ⟨rfl,rfl⟩
      go_wp2_with fail
      refine Calls.mono (compact_nil _ _ _ _) ?_
      rintro e w5 ⟨rfl,rfl⟩
      go_wp2_with fail
      refine wp_loop_rounds 1 ?_
      rw [rounds_succ]
      go_wp2_with fail
      go_ret
      exact ⟨_,rfl,by rw [HS.out]; exact ⟨[],rfl,World.ownsRow_nil _ _ _ _,fun _ hp=>absurd hp (by simp)⟩,hb⟩
    · injection hv with e1 e2 e3
      subst e1 e3
      have hgl:=hown.lt g rfl
      have hql:q.length<4611686018427387904:=by omega
      have HSO:Hid _:=sort_any w wo w.heap.size g caps q hgl.1 hb.block hown (fun p hp=>(HQO.out p hp).1) hql
      go_wp2_with fail
      refine Calls.mono HSO.out ?_
      rintro e w5 ⟨rfl,q2,hperm,hsorted,hrow5,hgr5⟩
      have hl5:q2.length=q.length:=hperm.length_eq
      have hlow5:∀ k,k<w.heap.size→w5.heap[k]?=w.heap[k]?:=fun k hk=>(hgr5.block k (Nat.lt_of_lt_of_le hk hb.size) (by intro e; injection e; omega)).trans (hb.block k hk)
      have HCO:Hid _:=compact_any w w5 w.heap.size g caps q2 hgl.1 hlow5 hrow5 (fun p hp=>(HQO.out p (hperm.mem_iff.mp hp)).1) (by omega)
      rw [hl5] at HCO
      have HSET:Hid ((Rl.dd q2).map (·.1)=Rl.set (l.filter P)):=by
       show _=_
       rw [Rl.isSet_eq (Rl.dd_set q2 hsorted),← HQF2.out]
       exact Rl.set_same fun x=>(hperm.map (·.1)).mem_iff
      have HDO:Hid (∀ p,p∈Rl.dd q2→FvOk w p∧p.1∈l):=fun p hp=>HQO.out p (hperm.mem_iff.mp (Rl.dd_sub _ _ hp))
      have hdl:(Rl.dd q2).length≤4398046511103:=by have:=Rl.dd_length q2; omega
      have hbw5:Below w.heap.size w w5:=⟨hgr5.os.trans hb.os,hgr5.tape.trans hb.tape,hgr5.output.trans hb.output,Nat.le_trans hb.size hgr5.size,hlow5⟩
      clear hperm hsorted hrow5 hgr5 hlow5 HSO hown hb HQO HQF2 hl5
      go_wp2_with fail
      refine Calls.mono HCO.out ?_
      rintro e w6 ⟨rfl,hrow6,hgr6⟩
      have hbw6:Below w.heap.size w w6:=⟨hgr6.os.trans hbw5.os,hgr6.tape.trans hbw5.tape,hgr6.output.trans hbw5.output,Nat.le_trans hbw5.size hgr6.size,fun k hk=>(hgr6.block k (Nat.lt_of_lt_of_le hk hbw5.size) (by intro e; injection e; omega)).trans (hbw5.block k hk)⟩
      clear hbw5 hgr6 HCO
      generalize Rl.dd q2=D at *
      go_wp2_with fail
      go_loopw [29] (fun i wr=>∃ (m:Nat) (R:List Fv),m≤D.length∧i=.int .i64 m∧FRow wr w.heap.size g caps R∧R.map (·.1)=D.map (·.1)∧(∀ j,m≤j→R[j]?=D[j]?)∧(∀ j p,j<m→R[j]?=some p→wr.ownsRow w.heap.size 3 1 p.2 p.1.args.length (p.1.args.map (Value.int .i64)))∧Below w.heap.size w wr) (fun i _=>D.length - (intOf i).toNat)
      case atStart=>exact ⟨0,D,Nat.zero_le _,rfl,hrow6,rfl,fun _ _=>rfl,fun j p hj=>absurd hj (by omega),hbw6⟩
      case round =>
       clear hrow6 hbw6
       obtain ⟨wp,hwp⟩:∃ wp,wp=wr:=⟨_,rfl⟩
       subst hwp
       obtain ⟨m,R,hm,rfl,hrow,hmap,hrest,hargs,hb⟩:=hrel
       have hRl:R.length=D.length:=by have:=congrArg List.length hmap; simpa using this
       have HRL:Hid (R.length=D.length):=hRl
       have HMAP:Hid _:=hmap
       have HREST:Hid _:=hrest
       have HARGS:Hid _:=hargs
       clear hmap hrest hargs hRl
       by_cases hlt:m<D.length
       · obtain ⟨x,hx,hxm⟩:=get_lt hlt
         have hRx:R[m]?=some x:=(HREST.out m (Nat.le_refl _)).trans hx
         obtain ⟨c0,c1⟩:=hrow.cell hRx
         obtain ⟨xa,xc,hxv⟩:=fv_slice (HDO.out x hxm).1
         have HIX:Hid (IntsV w x.2 x.1.args∧x.1.args.length≤17592186044416):=⟨(HDO.out x hxm).1.1,HF.out _ (HDO.out x hxm).2⟩
         have HXV:Hid (x.2=.slice xa x.1.args.length xc):=hxv
         rw [hxv] at c1
         have HRX:Hid (R[m]?=some x∧D[m]?=some x):=⟨hRx,hx⟩
         clear hRx hx hxm hxv
         have f1:=hrow.frozen (m * 2+1)
         have hmr:m<R.length:=by rw [HRL.out]; exact hlt
         go_wp2_with fail
         refine Calls.mono (cloneIW_any x.1.args _ wp (by have h3:=intsV_below HIX.out.1 hb; rw [HXV.out] at h3; exact h3) HIX.out.2) ?_
         rintro e w7 ⟨v7,rfl,hown7,hb7⟩
         obtain ⟨a7,c7,rfl⟩:=own_slice hown7
         have hrow7:=hrow.keep (hb7.block g hrow.lt.2)
         have hput:=hrow7.put1 HRX.out.1 (.slice a7 x.1.args.length c7)
         obtain ⟨d0,d1⟩:=hrow7.cell HRX.out.1
         rw [HXV.out] at d1
         have df1:=hrow7.frozen (m * 2+1)
         have hb8:Below w.heap.size w (w7.setCell ⟨g,m * 2+1,none⟩ (.slice a7 x.1.args.length c7)):=by
          have h1:=hb.trans (hb7.mono hb.size)
          exact ⟨h1.os,h1.tape,h1.output,by simpa [World.setCell] using h1.size,fun k hk=>(Below.heap_setCell _ _ _ _ (show ¬ k=g by omega)).trans (h1.block k hk)⟩
         have HA2:Hid (∀ j p,j<m+1→(R.set m (x.1,Value.slice a7 x.1.args.length c7))[j]?=some p→(w7.setCell ⟨g,m * 2+1,none⟩ (.slice a7 x.1.args.length c7)).ownsRow w.heap.size 3 1 p.2 p.1.args.length (p.1.args.map (Value.int .i64))):=by
          intro j p hj hjp
          rw [List.getElem?_set] at hjp
          by_cases hjm:m=j
          · rw [if_pos hjm,if_pos (by omega)] at hjp
            obtain rfl:(x.1,Value.slice a7 x.1.args.length c7)=p:=by simpa using hjp
            exact own3_set (rl_own_le hown7 hb.size) hrow7 _ _
          · rw [if_neg hjm] at hjp
            exact own3_set (ownsRow_below (HARGS.out j p (by omega) hjp) hb7) hrow7 _ _
         have HM2:Hid ((R.set m (x.1,Value.slice a7 x.1.args.length c7)).map (·.1)=D.map (·.1)):=by
          show _=_
          rw [List.map_set,HMAP.out]
          apply List.ext_getElem?
          intro t
          rw [List.getElem?_set]
          split
          · rename_i ht
            subst ht
            rw [if_pos (by simpa using hlt),List.getElem?_map,HRX.out.2]
            rfl
          · rfl
         have HR2:Hid (∀ j,m+1≤j→(R.set m (x.1,Value.slice a7 x.1.args.length c7))[j]?=D[j]?):=fun j hj=>by
          rw [List.getElem?_set,if_neg (by omega)]
          exact HREST.out j (by omega)
         clear hrow hown7 hb7 hrow7 hb HARGS HMAP HREST c0 c1 f1
         go_wp2_with fail
         go_roundw
         case rel=>exact ⟨m+1,_,by omega,by go_num,hput,HM2.out,HR2.out,HA2.out,hb8⟩
         case measure=>simp [intOf]; omega
       · have hme:m=D.length:=by omega
         have HFP:Hid (FactsP w.heap.size wp (.slice (some ⟨g,0,none⟩) D.length caps) (Rl.set (l.filter P))):=by
          refine ⟨R,HMAP.out.trans HSET.out,by rw [← HRL.out]; exact hrow,fun p hp=>?_⟩
          obtain ⟨j,hj,hjp⟩:=List.getElem_of_mem hp
          exact HARGS.out j p (by have:=HRL.out; omega) (by rw [List.getElem?_eq_getElem hj,hjp])
         clear hrow HARGS HMAP HREST
         go_wp2_with fail
         go_ret
         exact ⟨_,rfl,HFP.out,hb⟩
theorem SetW_any (l:List Rl.Fc) (v:Value) (w:World) (hV:FactsV w v l) (hl:l.length≤4398046511103) (hf:∀ f,f∈l→f.args.length≤17592186044416) :
 Calls Tryz.prog 54 #[v] w fun e w'=>∃ v',e=.returned v'∧FactsP w.heap.size w' v' (Rl.set l)∧Below w.heap.size w w':=by
 have HK:Hid (Calls Tryz.prog 100 #[v,.func (.func 101) #[] #[]] w fun e w'=>∃ v',e=.returned v'∧FactsP w.heap.size w' v' (Rl.set l)∧Below w.heap.size w w'):=by
  have h:=keepW_any l v w 101 #[] (fun _=>true) hV hl hf rl_enters49 (set1_any w)
  rw [List.filter_eq_self.mpr (fun _ _=>rfl)] at h
  exact h
 obtain ⟨ao,cap,rfl,_⟩:=hV
 have hmf:∀ (fn:Fn) (first cap:Array Value) (w:World),(Instr.makeFunc fn first cap).run Tryz.prog w=.ok (.func fn first cap) w:=fun _ _ _ _=>rfl
 go_enter Tryz.func54,Tryz.ntmps54
 go_wp2_with fail
 refine Calls.mono HK.out ?_
 rintro e w1 ⟨v',rfl,hP,hb⟩
 obtain ⟨q,hq,hown,_⟩:=id hP
 obtain ⟨a9,c9,rfl⟩:=own_slice hown
 have HP:Hid _:=hP
 clear hP hown HK
 go_wp2_with fail
 go_ret
 exact ⟨_,rfl,HP.out,hb⟩
theorem bsearchW_any (l:List Rl.Fc) (f:Rl.Fc) (ao fa:Option Addr) (cap fc:Nat) (w:World) (hup:Rl.Up l) (hA:FactsAt w ao l) (hI:IntsV w (.slice fa f.args.length fc) f.args) (hl:l.length≤4398046511103) (hf:∀ f,f∈l→FFit f) (hF:FFit f) :
 Calls Tryz.prog 141 #[.slice ao l.length cap,fcVal f.pred (.slice fa f.args.length fc),.func (.func 71) #[] #[]] w fun e w'=>∃ i:Int,e=.returned (.tuple #[.int .i64 i,.bool (Rl.has l f)])∧Below w.heap.size w w':=by
 have HA:Hid (FactsAt w ao l):=hA
 have HI:Hid (IntsV w (.slice fa f.args.length fc) f.args∧FFit f∧∀ f,f∈l→FFit f):=⟨hI,hF,hf⟩
 have HUP:Hid (Rl.Up l):=hup
 clear hA hI hf hF hup
 go_enter Tryz.func141,Tryz.ntmps141
 have hba:Below w.heap.size w (w.alloc (.cells #[.int .i64 f.pred,.slice fa f.args.length fc] 55)):=(Below.refl _ _).alloc (Nat.le_refl _) _
 have hFB:=rl_new w (.cells #[.int .i64 f.pred,.slice fa f.args.length fc] 55)
 go_wp2_with fail
 generalize hwa:w.alloc (.cells #[.int .i64 f.pred,.slice fa f.args.length fc] 55)=wa at *
 have e0:wa.cell? ⟨w.heap.size,0,none⟩=some (.int .i64 f.pred):=by rw [Lib.cell_of_heap hFB]; rfl
 have e1:wa.cell? ⟨w.heap.size,1,none⟩=some (.slice fa f.args.length fc):=by rw [Lib.cell_of_heap hFB]; rfl
 have HE:Hid (wa.cell? ⟨w.heap.size,0,none⟩=some (.int .i64 f.pred)∧wa.cell? ⟨w.heap.size,1,none⟩=some (.slice fa f.args.length fc)):=⟨e0,e1⟩
 clear hwa hFB e0 e1
 go_loopw [9,10] (fun iv jv wr=>∃ i j:Nat,i≤j∧j≤l.length∧iv=.int .i64 i∧jv=.int .i64 j∧(∀ a,a<i→Rl.ord (Rl.factD l a) f<0)∧(∀ a,j≤a→a<l.length→0≤Rl.ord (Rl.factD l a) f)∧Below wa.heap.size wa wr) (fun iv jv _=>(intOf jv).toNat - (intOf iv).toNat)
 case atStart=>exact ⟨0,l.length,Nat.zero_le _,Nat.le_refl _,rfl,rfl,fun a h=>absurd h (Nat.not_lt_zero _),fun a h1 h2=>absurd h2 (by omega),Below.refl _ _⟩
 case round =>
  obtain ⟨wo,hwo⟩:∃ wo,wo=wr:=⟨_,rfl⟩
  subst hwo
  obtain ⟨i,j,hij,hj,rfl,rfl,hlo,hhi,hb⟩:=hrel
  have HLO:Hid _:=hlo
  have HHI:Hid _:=hhi
  clear hlo hhi
  by_cases hlt:i<j
  · go_upto_region 5 with fail
    obtain ⟨h,hhe⟩:∃ h:Nat,h=(i+j) / 2:=⟨_,rfl⟩
    have hh:((i:Int)+(j:Int)) / 2=(h:Int):=by omega
    have hih:i≤h:=by omega
    have hhj:h<j:=by omega
    have hhl:h<l.length:=by omega
    obtain ⟨b,off,rfl,p0,fv,p1,hIv⟩:=facts_at HA.out h hhl
    have HG:Hid (FFit (Rl.factD l h)):=HI.out.2.2 _ (factD_mem l h hhl)
    have hbo:=hba.trans (hb.mono hba.size)
    obtain ⟨ga,gc,rfl,_⟩:=id hIv
    have c0:=cell_below hbo p0
    have c1:=cell_below hbo p1
    have d0:=cell_below hb HE.out.1
    have d1:=cell_below hb HE.out.2
    have HN:Hid (∀ yy,yy.cell? ⟨b,off+h * 2,none⟩=some (.int .i64 (Rl.factD l h).pred)∧yy.cell? ⟨b,off+h * 2+1,none⟩=some (.slice ga (Rl.factD l h).args.length gc)∧yy.cell? ⟨w.heap.size,0,none⟩=some (.int .i64 f.pred)∧yy.cell? ⟨w.heap.size,1,none⟩=some (.slice fa f.args.length fc)∧Below wo.heap.size wo yy→Calls Tryz.prog 71 #[fcVal (Rl.factD l h).pred (.slice ga (Rl.factD l h).args.length gc),fcVal f.pred (.slice fa f.args.length fc)] yy fun e w'=>e=.returned (.int .i64 (Rl.ord (Rl.factD l h) f))∧Below wo.heap.size wo w'∧w'.cell? ⟨b,off+h * 2,none⟩=some (.int .i64 (Rl.factD l h).pred)∧w'.cell? ⟨b,off+h * 2+1,none⟩=some (.slice ga (Rl.factD l h).args.length gc)∧w'.cell? ⟨w.heap.size,0,none⟩=some (.int .i64 f.pred)∧w'.cell? ⟨w.heap.size,1,none⟩=some (.slice fa f.args.length fc)):=by
     intro yy hyy
     obtain ⟨y0,y1,y2,y3,y4⟩:=hyy
     have hby:=hbo.trans (y4.mono hbo.size)
     refine Calls.mono (Order_any _ f _ _ yy (intsV_below hIv hby) (intsV_below HI.out.1 hby) HG.out HI.out.2.1) ?_
     rintro e w' ⟨rfl,hg⟩
     have hb9:=hg.below
     exact ⟨rfl,y4.trans (hb9.mono y4.size),cell_below hb9 y0,cell_below hb9 y1,cell_below hb9 y2,cell_below hb9 y3⟩
    have HGA:∀ b o,Below wo.heap.size wo b→Below wo.heap.size wo (b.alloc o):=fun _ o h=>h.alloc h.size o
    have HGD:∀ b,Below wo.heap.size wo b→Below wo.heap.size wo b.drew:=fun _ h=>⟨h.os,h.tape,h.output,h.size,h.block⟩
    have HGR:Below wo.heap.size wo wo:=Below.refl _ _
    obtain ⟨g,hg⟩:∃ g,g=Rl.factD l h:=⟨_,rfl⟩
    have HGE:Hid (g=Rl.factD l h):=hg
    rw [← hg] at HN c0 c1
    clear hg p0 p1 hIv
    rw [hh]
    clear hh hhe
    go_region_held3 (fun yy=>yy.cell? ⟨b,off+h * 2,none⟩=some (.int .i64 g.pred)∧yy.cell? ⟨b,off+h * 2+1,none⟩=some (.slice ga g.args.length gc)∧yy.cell? ⟨w.heap.size,0,none⟩=some (.int .i64 f.pred)∧yy.cell? ⟨w.heap.size,1,none⟩=some (.slice fa f.args.length fc)∧Below wo.heap.size wo yy) (go_keep) (
     (go_at_call 71; refine Calls.mono (HN.out _ ?_) ?_; (simp [*]); rintro e w2 ⟨rfl,hb2,hz2,hz3,hz4,hz5⟩))
    have hbz:=hb.trans (hb2.mono hb.size)
    clear HGA HGD HGR HN hz2 hz3 hz4 hz5 c0 c1 d0 d1 hb hbo hb2
    by_cases ho:Rl.ord g f<0
    · have HL2:Hid (∀ a,a<h+1→Rl.ord (Rl.factD l a) f<0):=by
       intro a ha
       rw [HGE.out] at ho
       rcases Nat.lt_or_ge a h with h1 | h1
       · exact Rl.ord_trans (up_at HUP.out h1 hhl) ho
       · rw [show a=h by omega]
         exact ho
      go_wp2_with fail
      go_roundw
      case rel=>exact ⟨h+1,j,by omega,hj,by go_num,rfl,HL2.out,HHI.out,hbz⟩
      case measure=>simp [intOf]; omega
    · have HH2:Hid (∀ a,h≤a→a<l.length→0≤Rl.ord (Rl.factD l a) f):=by
       intro a ha1 ha2
       rw [HGE.out] at ho
       rcases Nat.lt_or_ge h a with h1 | h1
       · rcases (show Rl.ord (Rl.factD l a) f<0∨0≤Rl.ord (Rl.factD l a) f by omega) with h2 | h2
         · exact absurd (Rl.ord_trans (up_at HUP.out h1 ha2) h2) ho
         · exact h2
       · rw [show a=h by omega]
         omega
      go_wp2_with fail
      go_roundw
      case rel=>exact ⟨i,h,hih,by omega,rfl,rfl,HLO.out,HH2.out,hbz⟩
      case measure=>simp [intOf]; omega
  · have hji:j=i:=by omega
    subst hji
    have HR:Hid _:=has_at HUP.out HLO.out HHI.out
    go_upto_region 8 with fail
    by_cases hjl:j<l.length
    · rw [decide_eq_true hjl,Bool.true_and] at HR
      obtain ⟨b,off,rfl,p0,fv,p1,hIv⟩:=facts_at HA.out j hjl
      have HG:Hid (FFit (Rl.factD l j)):=HI.out.2.2 _ (factD_mem l j hjl)
      have hbo:=hba.trans (hb.mono hba.size)
      obtain ⟨ga,gc,rfl,_⟩:=id hIv
      have c0:=cell_below hbo p0
      have c1:=cell_below hbo p1
      have d0:=cell_below hb HE.out.1
      have d1:=cell_below hb HE.out.2
      have HN:Hid (∀ yy,yy.cell? ⟨b,off+j * 2,none⟩=some (.int .i64 (Rl.factD l j).pred)∧yy.cell? ⟨b,off+j * 2+1,none⟩=some (.slice ga (Rl.factD l j).args.length gc)∧yy.cell? ⟨w.heap.size,0,none⟩=some (.int .i64 f.pred)∧yy.cell? ⟨w.heap.size,1,none⟩=some (.slice fa f.args.length fc)∧Below wo.heap.size wo yy→Calls Tryz.prog 71 #[fcVal (Rl.factD l j).pred (.slice ga (Rl.factD l j).args.length gc),fcVal f.pred (.slice fa f.args.length fc)] yy fun e w'=>e=.returned (.int .i64 (Rl.ord (Rl.factD l j) f))∧Below wo.heap.size wo w'∧w'.cell? ⟨b,off+j * 2,none⟩=some (.int .i64 (Rl.factD l j).pred)∧w'.cell? ⟨b,off+j * 2+1,none⟩=some (.slice ga (Rl.factD l j).args.length gc)∧w'.cell? ⟨w.heap.size,0,none⟩=some (.int .i64 f.pred)∧w'.cell? ⟨w.heap.size,1,none⟩=some (.slice fa f.args.length fc)):=by
       intro yy hyy
       obtain ⟨y0,y1,y2,y3,y4⟩:=hyy
       have hby:=hbo.trans (y4.mono hbo.size)
       refine Calls.mono (Order_any _ f _ _ yy (intsV_below hIv hby) (intsV_below HI.out.1 hby) HG.out HI.out.2.1) ?_
       rintro e w' ⟨rfl,hg⟩
       have hb9:=hg.below
       exact ⟨rfl,y4.trans (hb9.mono y4.size),cell_below hb9 y0,cell_below hb9 y1,cell_below hb9 y2,cell_below hb9 y3⟩
      have HGA:∀ b o,Below wo.heap.size wo b→Below wo.heap.size wo (b.alloc o):=fun _ o h=>h.alloc h.size o
      have HGD:∀ b,Below wo.heap.size wo b→Below wo.heap.size wo b.drew:=fun _ h=>⟨h.os,h.tape,h.output,h.size,h.block⟩
      have HGR:Below wo.heap.size wo wo:=Below.refl _ _
      obtain ⟨g,hg⟩:∃ g,g=Rl.factD l j:=⟨_,rfl⟩
      have HGE:Hid (g=Rl.factD l j):=hg
      rw [← hg] at HN c0 c1
      clear hg p0 p1 hIv
      rw [← HGE.out] at HR
      go_region_held3 (fun yy=>yy.cell? ⟨b,off+j * 2,none⟩=some (.int .i64 g.pred)∧yy.cell? ⟨b,off+j * 2+1,none⟩=some (.slice ga g.args.length gc)∧yy.cell? ⟨w.heap.size,0,none⟩=some (.int .i64 f.pred)∧yy.cell? ⟨w.heap.size,1,none⟩=some (.slice fa f.args.length fc)∧Below wo.heap.size wo yy) (go_keep) (
       (go_at_call 71; refine Calls.mono (HN.out _ ?_) ?_; (simp [*]); rintro e w2 ⟨rfl,hb2,hz2,hz3,hz4,hz5⟩))
      have hbz:=hba.trans ((hb.trans (hb2.mono hb.size)).mono hba.size)
      clear HGA HGD HGR HN hz2 hz3 hz4 hz5 c0 c1 d0 d1 hb hbo hb2
      go_wp2_with fail
      go_ret2
      exact ⟨j,by rw [HR.out]; rfl,hbz⟩
    · have hjd:decide (j<l.length)=false:=decide_eq_false hjl
      rw [hjd,Bool.false_and] at HR
      have hbz:Below w.heap.size w wo.drew:=by
       have h9:=hba.trans (hb.mono hba.size)
       exact ⟨h9.os,h9.tape,h9.output,h9.size,h9.block⟩
      go_region
      go_wp2_with fail
      go_ret2
      exact ⟨j,by rw [HR.out]; rfl,hbz⟩
theorem minus1W_any (w:World) (B:Nat) (m:List Rl.Fc) (bo:Option Addr) (cbp:Nat) (h0:w.cell? ⟨B,0,none⟩=some (.slice bo (Rl.set m).length cbp)) (hB:FactsAt w bo (Rl.set m)) (hl:(Rl.set m).length≤4398046511103) (hf:∀ f,f∈Rl.set m→FFit f) :
 Keeps1 140 #[.pointer (some ⟨B,0,none⟩)] w (fun x=>!Rl.has m x):=by
 intro v g ao cap hv hIg hFg
 show Calls Tryz.prog 140 #[fcVal g.pred (.slice ao g.args.length cap),.pointer (some ⟨B,0,none⟩)] v _
 have hba:Below v.heap.size v (v.alloc (.cells #[.int .i64 g.pred,.slice ao g.args.length cap] 55)):=(Below.refl _ _).alloc (Nat.le_refl _) _
 have c0:=cell_below hba (cell_below hv h0)
 have c1:=cell_below hv h0
 have hGa:=rl_new v (.cells #[.int .i64 g.pred,.slice ao g.args.length cap] 55)
 have d0:(v.alloc (.cells #[.int .i64 g.pred,.slice ao g.args.length cap] 55)).cell? ⟨v.heap.size,0,none⟩=some (.int .i64 g.pred):=by rw [Lib.cell_of_heap hGa]; rfl
 have d1:(v.alloc (.cells #[.int .i64 g.pred,.slice ao g.args.length cap] 55)).cell? ⟨v.heap.size,1,none⟩=some (.slice ao g.args.length cap):=by rw [Lib.cell_of_heap hGa]; rfl
 have HH:Hid (Rl.has (Rl.set m) g=Rl.has m g):=by
  show _=_
  rw [Bool.eq_iff_iff,Rl.has_iff,Rl.has_iff,Rl.mem_set]
 have HC:Hid (∀ yy,Below v.heap.size v yy→Calls Tryz.prog 141 #[.slice bo (Rl.set m).length cbp,fcVal g.pred (.slice ao g.args.length cap),.func (.func 71) #[] #[]] yy fun e w'=>∃ i:Int,e=.returned (.tuple #[.int .i64 i,.bool (Rl.has m g)])∧Below v.heap.size v w'):=by
  intro yy hy
  refine Calls.mono (bsearchW_any (Rl.set m) g bo ao cbp cap yy (Rl.set_isSet m).1 (factsAt_below8 (factsAt_below8 hB hv) hy) (intsV_below hIg hy) hl hf hFg) ?_
  rintro e w' ⟨i,rfl,hb⟩
  exact ⟨i,by rw [HH.out],hy.trans (hb.mono hy.size)⟩
 have hmf:∀ (fn:Fn) (first cap:Array Value) (w:World),(Instr.makeFunc fn first cap).run Tryz.prog w=.ok (.func fn first cap) w:=fun _ _ _ _=>rfl
 clear hB hf hGa h0 hIg HH
 generalize (Rl.set m).length=n at *
 go_enter Tryz.func140,Tryz.ntmps140
 go_wp2_with fail
 refine Calls.mono (HC.out _ hba) ?_
 rintro e w1 ⟨i,rfl,hb1⟩
 clear HC hba c0 c1 d0 d1 hv
 go_wp2_with fail
 go_ret
 exact ⟨rfl,hb1⟩
theorem MinusW_any (l m:List Rl.Fc) (v u:Value) (w:World) (hV:FactsV w v l) (hU:FactsV w u m) (hl:l.length≤4398046511103) (hm:m.length≤4398046511103) (hf:∀ f,f∈l→f.args.length≤17592186044416) (hg:∀ f,f∈m→f.args.length≤17592186044416) :
 Calls Tryz.prog 96 #[v,u] w fun e w'=>∃ v',e=.returned v'∧FactsV w' v' (Rl.minus l m)∧Below w.heap.size w w':=by
 have hmf:∀ (fn:Fn) (first cap:Array Value) (w:World),(Instr.makeFunc fn first cap).run Tryz.prog w=.ok (.func fn first cap) w:=fun _ _ _ _=>rfl
 have HS:Hid _:=SetW_any m u w hU (by omega) hg
 have HF:Hid ((∀ f,f∈l→f.args.length≤17592186044416)∧(∀ f,f∈Rl.set m→FFit f)∧(Rl.set m).length≤4398046511103):=⟨hf,fun f h=>Nat.le_trans (hg f (Rl.mem_set.mp h)) (by decide),by have:=set_length m; omega⟩
 have HV:Hid (FactsV w v l):=hV
 obtain ⟨ao,cap,rfl,_,_⟩:=id hV
 obtain ⟨bo,cbp,rfl,_,_⟩:=id hU
 clear hV hU hf hg
 go_enter Tryz.func96,Tryz.ntmps96
 go_wp2_with fail
 refine Calls.mono HS.out ?_
 rintro e w1 ⟨v1,rfl,hP,hb1⟩
 obtain ⟨a1,c1,rfl,_,hA1⟩:=hP.toV
 have HA1:Hid (FactsAt w1 a1 (Rl.set m)):=hA1
 clear hP hA1 HS
 generalize hn:(Rl.set m).length=n at *
 have HN:Hid ((Rl.set m).length=n):=hn
 clear hn
 go_wp2_with fail
 have hb2:Below w1.heap.size w1 (w1.alloc (Obj.cells #[Value.slice a1 n c1] 27)):=(Below.refl _ _).alloc (Nat.le_refl _) _
 have hb3:=hb1.trans (hb2.mono hb1.size)
 have e0:(w1.alloc (Obj.cells #[Value.slice a1 n c1] 27)).cell? ⟨w1.heap.size,0,none⟩=some (.slice a1 (Rl.set m).length c1):=by rw [Lib.cell_of_heap (rl_new w1 _),HN.out]; rfl
 refine Calls.mono (keepW_any l _ _ 140 _ (fun x=>!Rl.has m x) (factsV_below HV.out hb3) (by omega) HF.out.1 rl_enters54 (minus1W_any _ w1.heap.size m a1 c1 e0 (factsAt_below8 HA1.out hb2) (by rw [HN.out]; exact HF.out.2.2) HF.out.2.1)) ?_
 rintro e w3 ⟨v3,rfl,hS,hbk⟩
 have HS:Hid (FactsV w3 v3 (Rl.minus l m)):=hS.toV
 obtain ⟨q3,_,hown3,_⟩:=id hS
 obtain ⟨a3,c3,rfl⟩:=own_slice hown3
 have hb4:=hb3.trans (hbk.mono hb3.size)
 clear hown3 hS hbk hb1 hb2 hb3 e0 HV HF HA1 HN
 go_wp2_with fail
 go_ret
 exact ⟨_,rfl,HS.out,hb4⟩
end Go.Proofs.YthenjegmigeieaaGreat
namespace Go.Proofs.YthenjegmigeieaaGreat
open Go.RowKit
theorem new_below (y:World) (o:Obj):Below y.heap.size y (y.alloc o):=(Below.refl _ _).alloc (Nat.le_refl _) o
theorem facts_new1 (y:World) (f:Rl.Fc) (u:Value) (h:IntsV y u f.args):FactsV (y.alloc (.cells #[.int .i64 f.pred,u] 55)) (.slice (some ⟨y.heap.size,0,none⟩) 1 1) [f]:=by
 refine ⟨_,_,rfl,⟨Nat.le_refl _,fun h=>by cases h⟩,.inr ⟨_,_,rfl,fun i hi=>?_⟩⟩
 have h0:i=0:=by simp at hi; omega
 subst h0
 exact ⟨by rw [Lib.cell_of_heap (rl_new y _)]; rfl,u,by rw [Lib.cell_of_heap (rl_new y _)]; rfl,intsV_below h (new_below _ _)⟩
theorem facts_new2 (y:World) (f g:Rl.Fc) (u v:Value) (h:IntsV y u f.args) (k:IntsV y v g.args):FactsV (y.alloc (.cells #[.int .i64 f.pred,u,.int .i64 g.pred,v] 55)) (.slice (some ⟨y.heap.size,0,none⟩) 2 2) [f,g]:=by
 refine ⟨_,_,rfl,⟨Nat.le_refl _,fun h=>by cases h⟩,.inr ⟨_,_,rfl,fun i hi=>?_⟩⟩
 have h0:i=0∨i=1:=by simp at hi; omega
 rcases h0 with rfl | rfl
 · exact ⟨by rw [Lib.cell_of_heap (rl_new y _)]; rfl,u,by rw [Lib.cell_of_heap (rl_new y _)]; rfl,intsV_below h (new_below _ _)⟩
 · exact ⟨by rw [Lib.cell_of_heap (rl_new y _)]; rfl,v,by rw [Lib.cell_of_heap (rl_new y _)]; rfl,intsV_below k (new_below _ _)⟩
theorem chk1_any (w:World):Cmp1F 139 w:=by
 intro z f g ao bo ca cb hz hI hJ hF hG
 have bT:=(Below.refl z.heap.size z).alloc (Nat.le_refl _) (.cells #[.int .i64 f.pred,.slice ao f.args.length ca] 55)
 have bU:=(Below.refl (z.alloc (.cells #[.int .i64 f.pred,.slice ao f.args.length ca] 55)).heap.size (z.alloc (.cells #[.int .i64 f.pred,.slice ao f.args.length ca] 55))).alloc (Nat.le_refl _) (.cells #[.int .i64 g.pred,.slice bo g.args.length cb] 55)
 have hB:=bT.trans (bU.mono bT.size)
 have HB:Hid _:=hB
 have HO:Hid _:=Order_any f g _ _ _ (intsV_below hI hB) (intsV_below hJ hB) hF hG
 clear hI hJ hF hG bT bU hB hz
 go_enter Tryz.func139,Tryz.ntmps139
 go_upto_region 1 with fail
 go_wp2_with fail
 refine Calls.mono HO.out ?_
 rintro _ z2 ⟨rfl,hg2⟩
 have HB2:Hid (Below z.heap.size z z2):=HB.out.trans (hg2.below.mono HB.out.size)
 clear HO hg2 HB
 go_wp2_with fail
 go_ret
 exact ⟨rfl,HB2.out⟩
theorem ch_enters139:∀ args w,(callFunc 139 args).run Tryz.prog w=.ok (.enter 139 args) w:=enters_of Tryz.func139 (by kernel_rfl) rfl
theorem chCheck_any (p:Sc.Prog) (l m puts takes:List Rl.Fc) (va vn vr vl vm vp vt:Value) (w:World) (hP:ProgV w va vn vr p) (hF:ProgFit p) (hcap:RulesCap w vr) (hV:FactsV w vl l) (hVl:l.length≤9223372036854775807) (hVF:∀ f,f∈l→FFit f) (hM:FactsV w vm m) (hMl:m.length≤4398046511103) (hMF:∀ f,f∈m→f.args.length≤17592186044416) (hU:FactsV w vp puts) (hUl:puts.length≤9223372036854775807) (hUF:∀ f,f∈puts→FFit f) (hK:FactsV w vt takes) (hKl:takes.length≤9223372036854775807) (hKF:∀ f,f∈takes→FFit f) :
 Calls Tryz.prog 94 #[progVal va vn vr,vl,vm,vp,vt] w fun e w'=>∃ c,e=.returned (.int .i64 c)∧Ch.ChkRes p l m puts takes c∧Below w.heap.size w w':=by
 obtain ⟨a0,n0,rfl,_⟩:=id hP.ar
 obtain ⟨a1,n1,rfl,_⟩:=id hP.nm
 obtain ⟨a2,n2,rfl,_⟩:=id hP.rl
 obtain ⟨al,cl,rfl,_⟩:=id hV
 obtain ⟨am,cm,rfl,_⟩:=id hM
 obtain ⟨ap,cp,rfl,hpc,hpA⟩:=id hU
 obtain ⟨at_,ct,rfl,htc,htA⟩:=id hK
 have bT:=(Below.refl w.heap.size w).alloc (Nat.le_refl _) (.cells #[.slice a0 p.arity.length n0,.slice a1 p.names.length n1,.slice a2 p.rules.length n2] 26)
 have HBX:Hid _:=heap_alloc_new w (.cells #[.slice a0 p.arity.length n0,.slice a1 p.names.length n1,.slice a2 p.rules.length n2] 26)
 have HB:Hid (Below w.heap.size w _):=bT
 have HP:Hid (ProgV w (.slice a0 p.arity.length n0) (.slice a1 p.names.length n1) (.slice a2 p.rules.length n2) p∧ProgFit p∧RulesCap w (.slice a2 p.rules.length n2)):=⟨hP,hF,hcap⟩
 have HV:Hid (FactsV w (.slice al l.length cl) l∧l.length≤9223372036854775807∧∀ f,f∈l→FFit f):=⟨hV,hVl,hVF⟩
 have HM:Hid (FactsV w (.slice am m.length cm) m∧m.length≤4398046511103∧∀ f,f∈m→f.args.length≤17592186044416):=⟨hM,hMl,hMF⟩
 have HU:Hid (FactsV w (.slice ap puts.length cp) puts∧puts.length≤9223372036854775807∧∀ f,f∈puts→FFit f):=⟨hU,hUl,hUF⟩
 have HK:Hid (FactsV w (.slice at_ takes.length ct) takes∧takes.length≤9223372036854775807∧∀ f,f∈takes→FFit f):=⟨hK,hKl,hKF⟩
 have HPC:Hid ((ap=none→cp=0)∧(at_=none→ct=0)):=⟨hpc.2,htc.2⟩
 have HC:Hid _:=Model_any p l _ _ _ _ _ (hP.below bT) hF (hcap.below hP.rl bT) (factsV_below hV bT) hVl hVF
 clear hP hF hcap hV hVl hVF hM hMl hMF hU hUl hUF hK hKl hKF bT hpc hpA htc htA
 go_enter Tryz.func94,Tryz.ntmps94
 go_upto_region 1 with fail
 generalize w.alloc (.cells #[.slice a0 p.arity.length n0,.slice a1 p.names.length n1,.slice a2 p.rules.length n2] 26)=w1 at *
 have HXX:Hid (∀ y,Below w1.heap.size w1 y→y.cell? ⟨w.heap.size,0,none⟩=some (.slice a0 p.arity.length n0)∧y.cell? ⟨w.heap.size,1,none⟩=some (.slice a1 p.names.length n1)∧y.cell? ⟨w.heap.size,2,none⟩=some (.slice a2 p.rules.length n2)):=fun y hy=>by
  have h:=(hy.block _ (heap_lt HBX.out)).trans HBX.out
  exact ⟨by rw [Lib.cell_of_heap h]; rfl,by rw [Lib.cell_of_heap h]; rfl,by rw [Lib.cell_of_heap h]; rfl⟩
 obtain ⟨c0,c1,c2⟩:=HXX.out w1 (Below.refl _ _)
 go_wp2_with fail
 refine Calls.mono HC.out ?_
 rintro _ w2 ⟨v2,c,was,rfl,hR,hF2,hb2⟩
 have HR:Hid _:=hR
 have HF2:Hid _:=hF2
 obtain ⟨as_,cs,rfl,_⟩:=id hF2
 have HB2:Hid (Below w1.heap.size w1 w2):=hb2
 have HW2:Hid (Below w.heap.size w w2):=HB.out.trans (hb2.mono HB.out.size)
 clear c0 c1 c2 hb2 HC hR hF2
 by_cases hc:c=0
 · subst hc
   by_cases hs:60<puts.length∨60<takes.length
   · have HCR:Hid (Ch.ChkRes p l m puts takes 2):=⟨0,was,HR.out,.inr (.inl ⟨rfl,hs,rfl⟩)⟩
     by_cases h1:60<puts.length
     · have g1:decide (60<puts.length)=true:=decide_eq_true h1
       have i1:decide ((60:Int)<(puts.length:Int))=true:=decide_eq_true (by omega)
       clear hs h1
       go_wp2_with fail
       go_ret
       exact ⟨2,rfl,HCR.out,HW2.out⟩
     · have g1:decide (60<puts.length)=false:=decide_eq_false h1
       have i1:decide ((60:Int)<(puts.length:Int))=false:=decide_eq_false (by omega)
       have g2:decide (60<takes.length)=true:=decide_eq_true (hs.resolve_left h1)
       have i2:decide ((60:Int)<(takes.length:Int))=true:=decide_eq_true (by omega)
       clear hs h1
       go_wp2_with fail
       go_ret
       exact ⟨2,rfl,HCR.out,HW2.out⟩
   · have hpl:puts.length≤60:=by omega
     have htl:takes.length≤60:=by omega
     have g1:decide (60<puts.length)=false:=decide_eq_false (by omega)
     have g2:decide (60<takes.length)=false:=decide_eq_false (by omega)
     have i1:decide ((60:Int)<(puts.length:Int))=false:=decide_eq_false (by omega)
     have i2:decide ((60:Int)<(takes.length:Int))=false:=decide_eq_false (by omega)
     have HS:Hid _:=hs
     clear hs
     go_upto_region 6 with fail
     have hx:=new_below w2 (.cells #[.slice ap puts.length cp,.slice at_ takes.length ct] 27)
     have hrow:=heap_alloc_new w2 (.cells #[.slice ap puts.length cp,.slice at_ takes.length ct] 27)
     have HB3:Hid (Below w1.heap.size w1 (w2.alloc (.cells #[.slice ap puts.length cp,.slice at_ takes.length ct] 27))):=HB2.out.trans (hx.mono HB2.out.size)
     have HW3:Hid (Below w.heap.size w (w2.alloc (.cells #[.slice ap puts.length cp,.slice at_ takes.length ct] 27))):=HB.out.trans (HB3.out.mono HB.out.size)
     have HF3:Hid _:=factsV_below HF2.out hx
     have HPA:Hid (FactsAt (w2.alloc (.cells #[.slice ap puts.length cp,.slice at_ takes.length ct] 27)) ap puts):=by
      obtain ⟨x1,x2,x3,_,x4⟩:=factsV_below HU.out.1 HW3.out
      injection x3 with e1 _ _
      show FactsAt _ _ _
      rw [← e1] at x4; exact x4
     have HTA:Hid (FactsAt (w2.alloc (.cells #[.slice ap puts.length cp,.slice at_ takes.length ct] 27)) at_ takes):=by
      obtain ⟨x1,x2,x3,_,x4⟩:=factsV_below HK.out.1 HW3.out
      injection x3 with e1 _ _
      show FactsAt _ _ _
      rw [← e1] at x4; exact x4
     have HCC:Hid _:=concat_any puts takes w2.heap.size ap at_ cp ct _ ⟨HPA.out,HPC.out.1⟩ ⟨HTA.out,HPC.out.2⟩ (by rw [Lib.cell_of_heap hrow]; rfl) (by rw [Lib.cell_of_heap hrow]; rfl) (by omega) (by omega) HU.out.2.2 HK.out.2.2
     clear hx hrow HF2 HB2 HW2 HPA HTA
     go_wp2_with fail
     generalize w2.alloc (.cells #[.slice ap puts.length cp,.slice at_ takes.length ct] 27)=w3 at *
     generalize w2.heap.size=RB at *
     refine Calls.mono HCC.out ?_
     rintro _ w4 ⟨v4,rfl,hF4,hb4⟩
     have HPT:Hid (FactsV w4 v4 (puts++takes)∧(puts++takes).length≤120∧∀ f,f∈puts++takes→FFit f):=⟨hF4,by rw [List.length_append]; omega,fun f hf=>(List.mem_append.mp hf).elim (HU.out.2.2 f) (HK.out.2.2 f)⟩
     obtain ⟨a4,c4,rfl,_,hA4⟩:=id hF4
     have HA4:Hid (FactsAt w4 a4 (puts++takes)):=hA4
     have HB4:Hid (Below w1.heap.size w1 w4):=HB3.out.trans (hb4.mono HB3.out.size)
     have HF5:Hid _:=factsV_below HF3.out hb4
     obtain ⟨pt,hpt⟩:∃ pt,pt=puts++takes:=⟨_,rfl⟩
     have HPE:Hid (pt=puts++takes):=hpt
     rw [← hpt] at HPT HA4 ⊢
     have hptl:pt.length≤120:=HPT.out.2.1
     clear hb4 HCC HF3 HB3 HW3 hF4 hA4 hpt
     go_wp2_with fail
     go_loopw [38] (fun iv wr=>∃ k:Nat,k≤pt.length∧iv=.int .i64 k∧Hid (Ru.factsErr p pt=Ru.factsErr p (pt.drop k))∧Hid (Below w4.heap.size w4 wr)) (fun iv _=>pt.length - (intOf iv).toNat)
     case atStart=>exact ⟨0,Nat.zero_le _,rfl,rfl,Below.refl _ _⟩
     case round =>
      obtain ⟨wo,hwo⟩:∃ wo,wo=wr:=⟨_,rfl⟩
      subst hwo
      obtain ⟨k,hk,rfl,HD,HBo⟩:=hrel
      have HB1o:Hid (Below w1.heap.size w1 wo):=HB4.out.trans (HBo.out.mono HB4.out.size)
      have HWo:Hid (Below w.heap.size w wo):=HB.out.trans (HB1o.out.mono HB.out.size)
      by_cases hlt:k<pt.length
      · obtain ⟨b,off,rfl,p0,fv,p1,hIv⟩:=facts_at HA4.out k hlt
        have q0:=cell_below HBo.out p0
        have q1:=cell_below HBo.out p1
        have HIV:Hid (IntsV w4 fv (Rl.factD pt k).args):=hIv
        obtain ⟨ag,cg,rfl,_⟩:=hIv
        have HFk:Hid (FFit (Rl.factD pt k)):=HPT.out.2.2 _ (factD_mem pt k hlt)
        have HDD:Hid _:=Ru.factsErr_drop p pt k hlt
        clear p0 p1
        generalize Rl.factD pt k=f at *
        go_upto_region 9 with fail
        have bT:=(Below.refl wo.heap.size wo).alloc (Nat.le_refl _) (.cells #[.int .i64 f.pred,.slice ag f.args.length cg] 55)
        have HTB:Hid _:=heap_alloc_new wo (.cells #[.int .i64 f.pred,.slice ag f.args.length cg] 55)
        have HBq:Hid (Below w4.heap.size w4 _):=HBo.out.trans (bT.mono HBo.out.size)
        have HB1q:Hid (Below w1.heap.size w1 _):=HB1o.out.trans (bT.mono HB1o.out.size)
        clear q0 q1 bT
        generalize wo.alloc (.cells #[.int .i64 f.pred,.slice ag f.args.length cg] 55)=wq at *
        generalize wo.heap.size=TB at *
        have HWq:Hid (Below w.heap.size w wq):=HB.out.trans (HB1q.out.mono HB.out.size)
        obtain ⟨c0,c1,c2⟩:=HXX.out wq HB1q.out
        have f0:wq.cell? ⟨TB,0,none⟩=some (.int .i64 f.pred):=by rw [Lib.cell_of_heap HTB.out]; rfl
        have f1:wq.cell? ⟨TB,1,none⟩=some (.slice ag f.args.length cg):=by rw [Lib.cell_of_heap HTB.out]; rfl
        go_wp2_with fail
        refine Calls.mono (ScFact_any p _ _ _ f.pred f.args _ wq (ProgV.below HP.out.1 HWq.out) HP.out.2.1 (intsV_below HIV.out HBq.out) HFk.out) ?_
        rintro _ w5 ⟨rfl,hb5⟩
        have HB5:Hid (Below w4.heap.size w4 w5):=HBq.out.trans (hb5.mono HBq.out.size)
        have HW5:Hid (Below w.heap.size w w5):=HWq.out.trans (hb5.mono HWq.out.size)
        clear c0 c1 c2 f0 f1 hb5 HBq HB1q HTB HWq
        by_cases he:Sc.fact p f.pred f.args=0
        · have ge:(Sc.fact p f.pred f.args != 0)=false:=by simpa using he
          have HDN:Hid (Ru.factsErr p pt=Ru.factsErr p (pt.drop (k+1))):=by show _=_; rw [HD.out,HDD.out,if_neg (by simpa using he)]
          clear he HD HDD
          go_wp2_with fail
          go_roundw
          case rel=>exact ⟨k+1,hlt,by go_num,HDN.out,HB5.out⟩
          case measure=>simp [intOf]; omega
        · have ge:(Sc.fact p f.pred f.args != 0)=true:=by simpa using he
          have HDN:Hid (Ru.factsErr p pt=Sc.fact p f.pred f.args):=by show _=_; rw [HD.out,HDD.out,if_pos (by simpa using he)]
          have HCR:Hid (Ch.ChkRes p l m puts takes (Sc.fact p f.pred f.args)):=by
           refine ⟨0,was,HR.out,.inr (.inr (.inl ⟨rfl,HS.out,?_,?_⟩))⟩
           · rw [← HPE.out,HDN.out]; exact he
           · rw [← HPE.out,HDN.out]
          clear he HD HDD
          go_wp2_with fail
          go_ret
          exact ⟨_,rfl,HCR.out,HW5.out⟩
      · have hdd:decide (k<pt.length)=false:=decide_eq_false hlt
        have HDN:Hid (Ru.factsErr p (puts++takes)=0):=by show _=_; rw [← HPE.out,HD.out,List.drop_of_length_le (by omega)]; rfl
        have HST:Hid _:=SetW_any m _ wo (factsV_below HM.out.1 HWo.out) HM.out.2.1 HM.out.2.2
        go_wp2_with fail
        refine Calls.mono HST.out ?_
        rintro _ w5 ⟨v5,rfl,hFP,hb5⟩
        have HF6:Hid _:=hFP.toV
        obtain ⟨a5,c5,rfl,_⟩:=id HF6.out
        have HW5:Hid (Below w.heap.size w w5):=HWo.out.trans (hb5.mono HWo.out.size)
        have HEQ:Hid _:=EqualF_any 139 (Rl.set m) was _ _ w5 HF6.out (factsV_below (factsV_below HF5.out HBo.out) hb5) (Nat.le_trans (Md.set_length m) (by have:=HM.out.2.1; omega)) (fun f hf=>by have:=HM.out.2.2 f (Rl.mem_set.mp hf); unfold FFit; omega) (Md.mres_fit HR.out) ch_enters139 (chk1_any w5)
        clear hFP hb5 HST
        go_wp2_with fail
        refine Calls.mono HEQ.out ?_
        rintro _ w6 ⟨t,rfl,ht,hb6⟩
        have HW6:Hid (Below w.heap.size w w6):=HW5.out.trans (hb6.mono HW5.out.size)
        have HT:Hid _:=ht
        clear hb6 HEQ ht
        cases t
        · have HCR:Hid (Ch.ChkRes p l m puts takes 4):=⟨0,was,HR.out,.inr (.inr (.inr ⟨rfl,HS.out,HDN.out,.inr ⟨fun e=>(by have:=HT.out.mpr e; cases this),rfl⟩⟩))⟩
          go_wp2_with fail
          go_ret
          exact ⟨_,rfl,HCR.out,HW6.out⟩
        · have HCR:Hid (Ch.ChkRes p l m puts takes 0):=⟨0,was,HR.out,.inr (.inr (.inr ⟨rfl,HS.out,HDN.out,.inl ⟨HT.out.mp rfl,rfl⟩⟩))⟩
          go_wp2_with fail
          go_ret
          exact ⟨_,rfl,HCR.out,HW6.out⟩
 · have g:(c != 0)=true:=by simpa using hc
   have HCR:Hid (Ch.ChkRes p l m puts takes c):=⟨c,was,HR.out,.inl ⟨hc,rfl⟩⟩
   clear hc
   go_wp2_with fail
   go_ret
   exact ⟨_,rfl,HCR.out,HW2.out⟩
structure Cl2 (ZB:Nat) (y z:World):Prop where
 eq:∀ b o v,b≠ZB→y.cell? ⟨b,o,none⟩=some v→z.cell? ⟨b,o,none⟩=some v
 no:∀ o v,y.cell? ⟨ZB,o,none⟩=some v→∃ a n c,v=.slice a n c
theorem cl2_box {ZB:Nat} {y z:World} {a0 a1:Option Addr} {n0 n1 c0 c1:Nat} {t:TypeId} (hZ:y.heap[ZB]?=some (.cells #[.slice a0 n0 c0,.slice a1 n1 c1] t)) (ho:∀ k,¬ k=ZB→z.heap[k]?=y.heap[k]?):Cl2 ZB y z:=by
 refine ⟨fun b o v hb hc=>?_,fun o v hc=>?_⟩
 · have h1:z.cell? ⟨b,o,none⟩=y.cell? ⟨b,o,none⟩:=by unfold World.cell?; rw [ho b hb]
   rw [h1]; exact hc
 · rw [Lib.cell_of_heap hZ] at hc
   match o,hc with
   | 0,hc=>exact ⟨_,_,_,(Option.some.inj hc).symm⟩
   | 1,hc=>exact ⟨_,_,_,(Option.some.inj hc).symm⟩
   | n+2,hc=>simp at hc
theorem Cl2.ni {ZB:Nat} {y z:World} (h:Cl2 ZB y z) {b o:Nat} {kd:IntKind} {i:Int} (hc:y.cell? ⟨b,o,none⟩=some (.int kd i)):b≠ZB:=by
 rintro rfl; obtain ⟨_,_,_,e⟩:=h.no _ _ hc; cases e
theorem Cl2.ints {ZB:Nat} {y z:World} (h:Cl2 ZB y z) {v:Value} {l:List Int} (hv:IntsV y v l):IntsV z v l:=by
 obtain ⟨ao,cap,rfl,hA⟩:=hv
 refine ⟨ao,cap,rfl,?_⟩
 rcases hA with hA | ⟨b,off,rfl,hc⟩
 · exact .inl hA
 · exact .inr ⟨b,off,rfl,fun i hi=>h.eq _ _ _ (h.ni (hc i hi)) (hc i hi)⟩
theorem Cl2.facts {ZB:Nat} {y z:World} (h:Cl2 ZB y z) {v:Value} {l:List Rl.Fc} (hv:FactsV y v l):FactsV z v l:=by
 obtain ⟨ao,cap,rfl,h2,hA⟩:=hv
 refine ⟨ao,cap,rfl,h2,?_⟩
 rcases hA with hA | ⟨b,off,rfl,hc⟩
 · exact .inl hA
 · refine .inr ⟨b,off,rfl,fun i hi=>?_⟩
   obtain ⟨h0,u,h1,h2⟩:=hc i hi
   exact ⟨h.eq _ _ _ (h.ni h0) h0,u,h.eq _ _ _ (h.ni h0) h1,h.ints h2⟩
theorem given_len {l puts takes:List Rl.Fc}:(Ch.given l puts takes).length≤l.length+puts.length:=by
 have h1:=Md.union_len (l:=Rl.minus l takes) (m:=puts)
 have h2:=Ch.minus_len (l:=l) (m:=takes)
 show (Rl.union _ _).length≤_
 omega
theorem Apply_any (p:Sc.Prog) (l m puts takes:List Rl.Fc) (va vn vr vl vm vp vt:Value) (w:World) (hP:ProgV w va vn vr p) (hF:ProgFit p) (hcap:RulesCap w vr) (hV:FactsV w vl l) (hVl:l.length≤9223372036854775807) (hVF:∀ f,f∈l→FFit f) (hM:FactsV w vm m) (hMl:m.length≤4398046511103) (hMF:∀ f,f∈m→f.args.length≤17592186044416) (hU:FactsV w vp puts) (hUl:puts.length≤9223372036854775807) (hUF:∀ f,f∈puts→FFit f) (hK:FactsV w vt takes) (hKl:takes.length≤9223372036854775807) (hKF:∀ f,f∈takes→FFit f) :
 Calls Tryz.prog 46 #[progVal va vn vr,vl,vm,vp,vt] w fun e w'=>∃ vg vw vc vd c G N C D,e=.returned (.tuple #[vg,vw,.agg #[vc,vd],.int .i64 c])∧Ch.ARes p l m puts takes c G N C D∧FactsV w' vg G∧FactsV w' vw N∧FactsV w' vc C∧FactsV w' vd D∧Below w.heap.size w w':=by
 obtain ⟨a0,n0,rfl,_⟩:=id hP.ar
 obtain ⟨a1,n1,rfl,_⟩:=id hP.nm
 obtain ⟨a2,n2,rfl,_⟩:=id hP.rl
 obtain ⟨al,cl,rfl,_⟩:=id hV
 obtain ⟨am,cm,rfl,_⟩:=id hM
 obtain ⟨ap,cp,rfl,hpc,hpA⟩:=id hU
 obtain ⟨at_,ct,rfl,htc,htA⟩:=id hK
 have b0:=(Below.refl w.heap.size w).alloc (Nat.le_refl _) (.cells #[.slice a0 p.arity.length n0,.slice a1 p.names.length n1,.slice a2 p.rules.length n2] 26)
 have hX:=heap_alloc_new w (.cells #[.slice a0 p.arity.length n0,.slice a1 p.names.length n1,.slice a2 p.rules.length n2] 26)
 have s1:(w.alloc (.cells #[.slice a0 p.arity.length n0,.slice a1 p.names.length n1,.slice a2 p.rules.length n2] 26)).heap.size=w.heap.size+1:=by simp
 have b1:=(Below.refl (w.alloc (.cells #[.slice a0 p.arity.length n0,.slice a1 p.names.length n1,.slice a2 p.rules.length n2] 26)).heap.size (w.alloc (.cells #[.slice a0 p.arity.length n0,.slice a1 p.names.length n1,.slice a2 p.rules.length n2] 26))).alloc (Nat.le_refl _) (.cells #[.slice none 0 0,.slice none 0 0] 84)
 have HBX:Hid _:=(b1.block _ (Array.getElem?_eq_some_iff.mp hX).1).trans hX
 have hZ1:=heap_alloc_new (w.alloc (.cells #[.slice a0 p.arity.length n0,.slice a1 p.names.length n1,.slice a2 p.rules.length n2] 26)) (.cells #[.slice none 0 0,.slice none 0 0] 84)
 rw [s1] at hZ1
 have HZ1:Hid _:=hZ1
 have bT:=b0.trans (b1.mono b0.size)
 have HB:Hid (Below w.heap.size w _):=bT
 have HP:Hid (ProgV w (.slice a0 p.arity.length n0) (.slice a1 p.names.length n1) (.slice a2 p.rules.length n2) p∧ProgFit p∧RulesCap w (.slice a2 p.rules.length n2)):=⟨hP,hF,hcap⟩
 have HV:Hid (FactsV w (.slice al l.length cl) l∧l.length≤9223372036854775807∧∀ f,f∈l→FFit f):=⟨hV,hVl,hVF⟩
 have HM:Hid (FactsV w (.slice am m.length cm) m∧m.length≤4398046511103∧∀ f,f∈m→f.args.length≤17592186044416):=⟨hM,hMl,hMF⟩
 have HU:Hid (FactsV w (.slice ap puts.length cp) puts∧puts.length≤9223372036854775807∧∀ f,f∈puts→FFit f):=⟨hU,hUl,hUF⟩
 have HK:Hid (FactsV w (.slice at_ takes.length ct) takes∧takes.length≤9223372036854775807∧∀ f,f∈takes→FFit f):=⟨hK,hKl,hKF⟩
 have HC:Hid _:=chCheck_any p l m puts takes _ _ _ _ _ _ _ _ (hP.below bT) hF (hcap.below hP.rl bT) (factsV_below hV bT) hVl hVF (factsV_below hM bT) hMl hMF (factsV_below hU bT) hUl hUF (factsV_below hK bT) hKl hKF
 clear hP hF hcap hV hVl hVF hM hMl hMF hU hUl hUF hK hKl hKF bT hpc hpA htc htA b0 hX s1 b1 hZ1
 go_enter Tryz.func46,Tryz.ntmps46
 go_upto_region 1 with fail
 generalize (w.alloc (.cells #[.slice a0 p.arity.length n0,.slice a1 p.names.length n1,.slice a2 p.rules.length n2] 26)).alloc (.cells #[.slice none 0 0,.slice none 0 0] 84)=w1 at *
 have HXX:Hid (∀ y,Below w1.heap.size w1 y→y.cell? ⟨w.heap.size,0,none⟩=some (.slice a0 p.arity.length n0)∧y.cell? ⟨w.heap.size,1,none⟩=some (.slice a1 p.names.length n1)∧y.cell? ⟨w.heap.size,2,none⟩=some (.slice a2 p.rules.length n2)):=fun y hy=>by
  have h:=(hy.block _ (heap_lt HBX.out)).trans HBX.out
  exact ⟨by rw [Lib.cell_of_heap h]; rfl,by rw [Lib.cell_of_heap h]; rfl,by rw [Lib.cell_of_heap h]; rfl⟩
 have HZZ:Hid (∀ y,Below w1.heap.size w1 y→y.heap[w.heap.size+1]?=some (.cells #[.slice none 0 0,.slice none 0 0] 84)):=fun y hy=>(hy.block _ (heap_lt HZ1.out)).trans HZ1.out
 obtain ⟨c0,c1,c2⟩:=HXX.out w1 (Below.refl _ _)
 go_wp2_with fail
 refine Calls.mono HC.out ?_
 rintro _ w2 ⟨e0,rfl,hR,hb2⟩
 have HR:Hid (Ch.ChkRes p l m puts takes e0):=hR
 have HB2:Hid (Below w1.heap.size w1 w2):=hb2
 have HW2:Hid (Below w.heap.size w w2):=HB.out.trans (hb2.mono HB.out.size)
 have HX2:Hid _:=HZZ.out w2 HB2.out
 clear c0 c1 c2 hb2 HC hR
 by_cases he:e0=0
 · subst he
   obtain ⟨was,hwas,hpl,htl,hfe,hset⟩:=Ch.chk_zero HR.out
   have HWA:Hid _:=hwas
   have HPZ:Hid _:=Md.pre_zero (Md.mres_zero hwas rfl).1
   have HLR:Hid _:=Md.chkF_zero HPZ.out.1 HPZ.out.2.2.1
   have HOK:Hid _:=Ru.progOk_of HPZ.out.1
   have HFE:Hid (∀ f,f∈puts++takes→f.args.length≤3):=fun f hf=>Md.right_args HOK.out ((Md.factsErr_zero HPZ.out.1).mp hfe f hf)
   have HLA:Hid (∀ f,f∈l→f.args.length≤3):=fun f hf=>Md.right_args HOK.out (HLR.out.2 f hf)
   have hll:l.length≤60:=HLR.out.1
   have HMI:Hid _:=MinusW_any l takes _ _ w2 (factsV_below HV.out.1 HW2.out) (factsV_below HK.out.1 HW2.out) (by omega) (by omega) (fun f hf=>by have:=HLA.out f hf; omega) (fun f hf=>by have:=HFE.out f (List.mem_append_right _ hf); omega)
   clear hwas hfe hset
   go_wp2_with fail
   refine Calls.mono HMI.out ?_
   rintro _ w3 ⟨v3,rfl,hF3,hb3⟩
   have HF3:Hid _:=hF3
   obtain ⟨a3,c3,rfl,_⟩:=id hF3
   have HB3:Hid (Below w1.heap.size w1 w3):=HB2.out.trans (hb3.mono HB2.out.size)
   have HW3:Hid (Below w.heap.size w w3):=HB.out.trans (HB3.out.mono HB.out.size)
   have hml:=Ch.minus_len (l:=l) (m:=takes)
   have HUN:Hid _:=Union_any (Rl.minus l takes) puts _ _ w3 HF3.out (factsV_below HU.out.1 HW3.out) (by omega) (by omega) (fun f hf=>by have:=HLA.out f (Ch.mem_minus.mp hf).1; omega) (fun f hf=>by have:=HFE.out f (List.mem_append_left _ hf); omega)
   have HGA:Hid (∀ f,f∈Ch.given l puts takes→f.args.length≤3):=fun f hf=>by
    rcases Ch.mem_union.mp hf with h | h
    · exact HLA.out f (Ch.mem_minus.mp h).1
    · exact HFE.out f (List.mem_append_left _ h)
   have hgl:=given_len (l:=l) (puts:=puts) (takes:=takes)
   clear hF3 hb3 HMI HW2 HX2 HB2
   go_wp2_with fail
   refine Calls.mono HUN.out ?_
   rintro _ w4 ⟨v4,rfl,hF4,hb4⟩
   have HF4:Hid (FactsV w4 v4 (Ch.given l puts takes)):=hF4
   obtain ⟨a4,c4,rfl,_⟩:=id HF4.out
   have HB4:Hid (Below w1.heap.size w1 w4):=HB3.out.trans (hb4.mono HB3.out.size)
   have HW4:Hid (Below w.heap.size w w4):=HB.out.trans (HB4.out.mono HB.out.size)
   have HMO:Hid _:=Model_any p (Ch.given l puts takes) _ _ _ _ w4 (HP.out.1.below HW4.out) HP.out.2.1 (HP.out.2.2.below HP.out.1.rl HW4.out) HF4.out (by omega) (fun f hf=>by have:=HGA.out f hf; unfold FFit; omega)
   obtain ⟨c0,c1,c2⟩:=HXX.out w4 HB4.out
   clear hF4 hb4 HUN HF3 HB3 HW3
   go_wp2_with fail
   refine Calls.mono HMO.out ?_
   rintro _ w5 ⟨v5,c,N,rfl,hRN,hF5,hb5⟩
   have HRN:Hid _:=hRN
   have HF5:Hid _:=hF5
   obtain ⟨a5,c5,rfl,_⟩:=id hF5
   have HG5:Hid _:=factsV_below HF4.out hb5
   have HB5:Hid (Below w1.heap.size w1 w5):=HB4.out.trans (hb5.mono HB4.out.size)
   have HW5:Hid (Below w.heap.size w w5):=HB.out.trans (HB5.out.mono HB.out.size)
   have HX5:Hid _:=HZZ.out w5 HB5.out
   clear c0 c1 c2 hRN hF5 hb5 HMO HF4 HB4 HW4
   by_cases hc:c=0
   · subst hc
     have HNL:Hid _:=Md.mres_facts HRN.out
     have HM1:Hid _:=MinusW_any N m _ _ w5 HF5.out (factsV_below HM.out.1 HW5.out) (by have:=HNL.out.1; omega) HM.out.2.1 (fun f hf=>by have:=HNL.out.2 f hf; omega) HM.out.2.2
     clear HX5
     go_wp2_with fail
     refine Calls.mono HM1.out ?_
     rintro _ w6 ⟨v6,rfl,hF6,hb6⟩
     have HF6:Hid _:=hF6
     obtain ⟨a6,c6,rfl,_⟩:=id hF6
     have HN6:Hid _:=factsV_below HF5.out hb6
     have HG6:Hid _:=factsV_below HG5.out hb6
     have HB6:Hid (Below w1.heap.size w1 w6):=HB5.out.trans (hb6.mono HB5.out.size)
     have HW6:Hid (Below w.heap.size w w6):=HB.out.trans (HB6.out.mono HB.out.size)
     have HM2:Hid _:=MinusW_any m N _ _ w6 (factsV_below HM.out.1 HW6.out) HN6.out HM.out.2.1 (by have:=HNL.out.1; omega) HM.out.2.2 (fun f hf=>by have:=HNL.out.2 f hf; omega)
     clear hF6 hb6 HM1 HF5 HG5 HB5 HW5
     go_wp2_with fail
     refine Calls.mono HM2.out ?_
     rintro _ w7 ⟨v7,rfl,hF7,hb7⟩
     have HD7:Hid _:=hF7
     obtain ⟨a7,c7,rfl,_⟩:=id hF7
     have HC7:Hid _:=factsV_below HF6.out hb7
     have HN7:Hid _:=factsV_below HN6.out hb7
     have HG7:Hid _:=factsV_below HG6.out hb7
     have HB7:Hid (Below w1.heap.size w1 w7):=HB6.out.trans (hb7.mono HB6.out.size)
     have HW7:Hid (Below w.heap.size w w7):=HB.out.trans (HB7.out.mono HB.out.size)
     have HX7:Hid (w7.heap[w.heap.size+1]?=some (.cells #[.slice none 0 0,.slice none 0 0] 84)):=HZZ.out w7 HB7.out
     have HAR:Hid (Ch.ARes p l m puts takes 0 (Ch.given l puts takes) N (Rl.minus N m) (Rl.minus m N)):=⟨0,HR.out,.inr ⟨rfl,0,N,HRN.out,.inr ⟨rfl,rfl,rfl,rfl,rfl,rfl⟩⟩⟩
     clear hF7 hb7 HM2 HF6 HN6 HG6 HB6 HW6
     have k0:=HX7.out
     have z0:w7.cell? ⟨w.heap.size+1,0,none⟩=some (.slice none 0 0):=by rw [Lib.cell_of_heap k0]; rfl
     have y0:=Lib.frozen_of_heap k0 0
     have k1:(w7.setCell ⟨w.heap.size+1,0,none⟩ (.slice a6 (Rl.minus N m).length c6)).heap[w.heap.size+1]?=some (.cells #[.slice a6 (Rl.minus N m).length c6,.slice none 0 0] 84):=by rw [Lib.heap_setCell_same k0]; rfl
     have z1:(w7.setCell ⟨w.heap.size+1,0,none⟩ (.slice a6 (Rl.minus N m).length c6)).cell? ⟨w.heap.size+1,1,none⟩=some (.slice none 0 0):=by rw [Lib.cell_of_heap k1]; rfl
     have y1:=Lib.frozen_of_heap k1 1
     have k2:((w7.setCell ⟨w.heap.size+1,0,none⟩ (.slice a6 (Rl.minus N m).length c6)).setCell ⟨w.heap.size+1,1,none⟩ (.slice a7 (Rl.minus m N).length c7)).heap[w.heap.size+1]?=some (.cells #[.slice a6 (Rl.minus N m).length c6,.slice a7 (Rl.minus m N).length c7] 84):=by rw [Lib.heap_setCell_same k1]; rfl
     have d0:((w7.setCell ⟨w.heap.size+1,0,none⟩ (.slice a6 (Rl.minus N m).length c6)).setCell ⟨w.heap.size+1,1,none⟩ (.slice a7 (Rl.minus m N).length c7)).cell? ⟨w.heap.size+1,0,none⟩=some (.slice a6 (Rl.minus N m).length c6):=by rw [Lib.cell_of_heap k2]; rfl
     have d1:((w7.setCell ⟨w.heap.size+1,0,none⟩ (.slice a6 (Rl.minus N m).length c6)).setCell ⟨w.heap.size+1,1,none⟩ (.slice a7 (Rl.minus m N).length c7)).cell? ⟨w.heap.size+1,1,none⟩=some (.slice a7 (Rl.minus m N).length c7):=by rw [Lib.cell_of_heap k2]; rfl
     have HBB:Hid (Below w.heap.size w ((w7.setCell ⟨w.heap.size+1,0,none⟩ (.slice a6 (Rl.minus N m).length c6)).setCell ⟨w.heap.size+1,1,none⟩ (.slice a7 (Rl.minus m N).length c7))):=(HW7.out.setCell (p:=⟨w.heap.size+1,0,none⟩) (Nat.le_succ _) (.slice a6 (Rl.minus N m).length c6)).setCell (p:=⟨w.heap.size+1,1,none⟩) (Nat.le_succ _) (.slice a7 (Rl.minus m N).length c7)
     have HCL:Hid (Cl2 (w.heap.size+1) w7 ((w7.setCell ⟨w.heap.size+1,0,none⟩ (.slice a6 (Rl.minus N m).length c6)).setCell ⟨w.heap.size+1,1,none⟩ (.slice a7 (Rl.minus m N).length c7))):=cl2_box k0 (fun k hk=>by rw [heap_set_other hk,heap_set_other hk])
     clear k0 k1 k2
     go_wp2_with fail
     refine bodyPost_ret (v:=.tuple #[.slice a4 (Ch.given l puts takes).length c4,.slice a5 N.length c5,.agg #[.slice a6 (Rl.minus N m).length c6,.slice a7 (Rl.minus m N).length c7],.int .i64 0]) (by simp [results,Tryz.results46,go_sem,d0,d1]) rfl ?_
     exact ⟨_,_,_,_,_,_,_,_,_,rfl,HAR.out,HCL.out.facts HG7.out,HCL.out.facts HN7.out,HCL.out.facts HC7.out,HCL.out.facts HD7.out,HBB.out⟩
   · have g:(c != 0)=true:=by simpa using hc
     have HAR:Hid (Ch.ARes p l m puts takes c [] [] [] []):=⟨0,HR.out,.inr ⟨rfl,c,N,HRN.out,.inl ⟨hc,rfl,rfl,rfl,rfl,rfl⟩⟩⟩
     clear hc
     have k0:=HX5.out
     have z0:w5.cell? ⟨w.heap.size+1,0,none⟩=some (.slice none 0 0):=by rw [Lib.cell_of_heap k0]; rfl
     have y0:=Lib.frozen_of_heap k0 0
     have k1:(w5.setCell ⟨w.heap.size+1,0,none⟩ (.slice none 0 0)).heap[w.heap.size+1]?=some (.cells #[.slice none 0 0,.slice none 0 0] 84):=by rw [Lib.heap_setCell_same k0]; rfl
     have z1:(w5.setCell ⟨w.heap.size+1,0,none⟩ (.slice none 0 0)).cell? ⟨w.heap.size+1,1,none⟩=some (.slice none 0 0):=by rw [Lib.cell_of_heap k1]; rfl
     have y1:=Lib.frozen_of_heap k1 1
     have k2:((w5.setCell ⟨w.heap.size+1,0,none⟩ (.slice none 0 0)).setCell ⟨w.heap.size+1,1,none⟩ (.slice none 0 0)).heap[w.heap.size+1]?=some (.cells #[.slice none 0 0,.slice none 0 0] 84):=by rw [Lib.heap_setCell_same k1]; rfl
     have d0:((w5.setCell ⟨w.heap.size+1,0,none⟩ (.slice none 0 0)).setCell ⟨w.heap.size+1,1,none⟩ (.slice none 0 0)).cell? ⟨w.heap.size+1,0,none⟩=some (.slice none 0 0):=by rw [Lib.cell_of_heap k2]; rfl
     have d1:((w5.setCell ⟨w.heap.size+1,0,none⟩ (.slice none 0 0)).setCell ⟨w.heap.size+1,1,none⟩ (.slice none 0 0)).cell? ⟨w.heap.size+1,1,none⟩=some (.slice none 0 0):=by rw [Lib.cell_of_heap k2]; rfl
     have HBB:Hid (Below w.heap.size w ((w5.setCell ⟨w.heap.size+1,0,none⟩ (.slice none 0 0)).setCell ⟨w.heap.size+1,1,none⟩ (.slice none 0 0))):=(HW5.out.setCell (p:=⟨w.heap.size+1,0,none⟩) (Nat.le_succ _) (.slice none 0 0)).setCell (p:=⟨w.heap.size+1,1,none⟩) (Nat.le_succ _) (.slice none 0 0)
     have HCL:Hid (Cl2 (w.heap.size+1) w5 ((w5.setCell ⟨w.heap.size+1,0,none⟩ (.slice none 0 0)).setCell ⟨w.heap.size+1,1,none⟩ (.slice none 0 0))):=cl2_box k0 (fun k hk=>by rw [heap_set_other hk,heap_set_other hk])
     clear k0 k1 k2
     go_wp2_with fail
     refine bodyPost_ret (v:=.tuple #[.slice none 0 0,.slice none 0 0,.agg #[.slice none 0 0,.slice none 0 0],.int .i64 c]) (by simp [results,Tryz.results46,go_sem,d0,d1]) rfl ?_
     exact ⟨_,_,_,_,_,[],[],[],[],rfl,HAR.out,⟨none,0,rfl,⟨Nat.le_refl _,fun _=>rfl⟩,.inl rfl⟩,⟨none,0,rfl,⟨Nat.le_refl _,fun _=>rfl⟩,.inl rfl⟩,⟨none,0,rfl,⟨Nat.le_refl _,fun _=>rfl⟩,.inl rfl⟩,⟨none,0,rfl,⟨Nat.le_refl _,fun _=>rfl⟩,.inl rfl⟩,HBB.out⟩
 · have g:(e0 != 0)=true:=by simpa using he
   have HAR:Hid (Ch.ARes p l m puts takes e0 [] [] [] []):=⟨e0,HR.out,.inl ⟨he,rfl,rfl,rfl,rfl,rfl⟩⟩
   clear he
   have k0:=HX2.out
   have z0:w2.cell? ⟨w.heap.size+1,0,none⟩=some (.slice none 0 0):=by rw [Lib.cell_of_heap k0]; rfl
   have y0:=Lib.frozen_of_heap k0 0
   have k1:(w2.setCell ⟨w.heap.size+1,0,none⟩ (.slice none 0 0)).heap[w.heap.size+1]?=some (.cells #[.slice none 0 0,.slice none 0 0] 84):=by rw [Lib.heap_setCell_same k0]; rfl
   have z1:(w2.setCell ⟨w.heap.size+1,0,none⟩ (.slice none 0 0)).cell? ⟨w.heap.size+1,1,none⟩=some (.slice none 0 0):=by rw [Lib.cell_of_heap k1]; rfl
   have y1:=Lib.frozen_of_heap k1 1
   have k2:((w2.setCell ⟨w.heap.size+1,0,none⟩ (.slice none 0 0)).setCell ⟨w.heap.size+1,1,none⟩ (.slice none 0 0)).heap[w.heap.size+1]?=some (.cells #[.slice none 0 0,.slice none 0 0] 84):=by rw [Lib.heap_setCell_same k1]; rfl
   have d0:((w2.setCell ⟨w.heap.size+1,0,none⟩ (.slice none 0 0)).setCell ⟨w.heap.size+1,1,none⟩ (.slice none 0 0)).cell? ⟨w.heap.size+1,0,none⟩=some (.slice none 0 0):=by rw [Lib.cell_of_heap k2]; rfl
   have d1:((w2.setCell ⟨w.heap.size+1,0,none⟩ (.slice none 0 0)).setCell ⟨w.heap.size+1,1,none⟩ (.slice none 0 0)).cell? ⟨w.heap.size+1,1,none⟩=some (.slice none 0 0):=by rw [Lib.cell_of_heap k2]; rfl
   have HBB:Hid (Below w.heap.size w ((w2.setCell ⟨w.heap.size+1,0,none⟩ (.slice none 0 0)).setCell ⟨w.heap.size+1,1,none⟩ (.slice none 0 0))):=(HW2.out.setCell (p:=⟨w.heap.size+1,0,none⟩) (Nat.le_succ _) (.slice none 0 0)).setCell (p:=⟨w.heap.size+1,1,none⟩) (Nat.le_succ _) (.slice none 0 0)
   have HCL:Hid (Cl2 (w.heap.size+1) w2 ((w2.setCell ⟨w.heap.size+1,0,none⟩ (.slice none 0 0)).setCell ⟨w.heap.size+1,1,none⟩ (.slice none 0 0))):=cl2_box k0 (fun k hk=>by rw [heap_set_other hk,heap_set_other hk])
   clear k0 k1 k2
   go_wp2_with fail
   refine bodyPost_ret (v:=.tuple #[.slice none 0 0,.slice none 0 0,.agg #[.slice none 0 0,.slice none 0 0],.int .i64 e0]) (by simp [results,Tryz.results46,go_sem,d0,d1]) rfl ?_
   exact ⟨_,_,_,_,_,[],[],[],[],rfl,HAR.out,⟨none,0,rfl,⟨Nat.le_refl _,fun _=>rfl⟩,.inl rfl⟩,⟨none,0,rfl,⟨Nat.le_refl _,fun _=>rfl⟩,.inl rfl⟩,⟨none,0,rfl,⟨Nat.le_refl _,fun _=>rfl⟩,.inl rfl⟩,⟨none,0,rfl,⟨Nat.le_refl _,fun _=>rfl⟩,.inl rfl⟩,HBB.out⟩
def playV (VM VC VD:Value) (XB:Nat) (tQ:Nat) (vQ:Value):Prop :=
 match tQ with
 | 5=>vQ=VM
 | 6=>vQ=(.pointer (some ⟨XB,1,none⟩):Value)
 | 7=>vQ=VD
 | 9=>vQ=(.pointer (some ⟨XB,0,none⟩):Value)
 | 10=>vQ=VC
 | _=>True
def playT (VM VC VD:Value) (XB:Nat) (A B:List Rl.Fc) (tQ:Nat) (vQ:Value) (WQ:World):Prop :=
 if tQ=8 then FactsV WQ vQ A else if tQ=11 then FactsV WQ vQ B else if tQ=4 then FactsV WQ vQ B else playV VM VC VD XB tQ vQ
theorem playT_mono (VM VC VD:Value) (XB:Nat) (A B:List Rl.Fc) (tQ:Nat) (vQ:Value) (W W':World) (hb:Below W.heap.size W W') (h:playT VM VC VD XB A B tQ vQ W):playT VM VC VD XB A B tQ vQ W':=by
 unfold playT at h ⊢
 by_cases h8:tQ=8
 · rw [if_pos h8] at h ⊢; exact factsV_below h hb
 · rw [if_neg h8] at h ⊢
   by_cases h11:tQ=11
   · rw [if_pos h11] at h ⊢; exact factsV_below h hb
   · rw [if_neg h11] at h ⊢
     by_cases h4:tQ=4
     · rw [if_pos h4] at h ⊢; exact factsV_below h hb
     · rw [if_neg h4] at h ⊢; exact h
theorem Play_any (m came went:List Rl.Fc) (vm vc vd:Value) (w:World) (hM:FactsV w vm m) (hC:FactsV w vc came) (hD:FactsV w vd went) (hml:m.length≤1048576) (hcl:came.length≤1048576) (hdl:went.length≤1048576) (hmf:∀ f,f∈m→f.args.length≤1048576) (hcf:∀ f,f∈came→f.args.length≤1048576) (hdf:∀ f,f∈went→f.args.length≤1048576) :
 Calls Tryz.prog 50 #[vm,.agg #[vc,vd]] w fun e w'=>∃ v',e=.returned v'∧FactsV w' v' (Rl.union (Rl.minus m went) came)∧Below w.heap.size w w':=by
 obtain ⟨am,cm,rfl,_⟩:=id hM
 obtain ⟨ac,cc,rfl,_⟩:=id hC
 obtain ⟨ad,cd,rfl,_⟩:=id hD
 have b1:=new_below w (.cells #[.slice ac came.length cc,.slice ad went.length cd] 84)
 have HBX:Hid _:=heap_alloc_new w (.cells #[.slice ac came.length cc,.slice ad went.length cd] 84)
 have HB1:Hid (Below w.heap.size w _):=b1
 have HMI:Hid (∀ y,Below (w.alloc (.cells #[.slice ac came.length cc,.slice ad went.length cd] 84)).heap.size (w.alloc (.cells #[.slice ac came.length cc,.slice ad went.length cd] 84)) y→Calls Tryz.prog 96 #[.slice am m.length cm,.slice ad went.length cd] y fun e w'=>∃ v',e=.returned v'∧FactsV w' v' (Rl.minus m went)∧Below y.heap.size y w'):=fun y hy=>Minus_any m went _ _ y (factsV_below (factsV_below hM b1) hy) (factsV_below (factsV_below hD b1) hy) hml hdl hmf hdf
 have HUN:Hid (∀ y,Below (w.alloc (.cells #[.slice ac came.length cc,.slice ad went.length cd] 84)).heap.size (w.alloc (.cells #[.slice ac came.length cc,.slice ad went.length cd] 84)) y→∀ v,FactsV y v (Rl.minus m went)→Calls Tryz.prog 95 #[v,.slice ac came.length cc] y fun e w'=>∃ v',e=.returned v'∧FactsV w' v' (Rl.union (Rl.minus m went) came)∧Below y.heap.size y w'):=fun y hy v hv=>Union_any (Rl.minus m went) came v _ y hv (factsV_below (factsV_below hC b1) hy) (Nat.le_trans Ch.minus_len hml) hcl (fun f hf=>hmf f (Ch.mem_minus.mp hf).1) hcf
 clear hM hC hD hml hcl hdl hmf hcf hdf b1
 go_enter Tryz.func50,Tryz.ntmps50
 go_upto_region 1 with fail
 generalize w.alloc (.cells #[.slice ac came.length cc,.slice ad went.length cd] 84)=w1 at *
 obtain ⟨XB,hXB⟩:∃ XB,XB=w.heap.size:=⟨_,rfl⟩
 rw [← hXB] at HBX ⊢
 clear hXB
 have c0:w1.cell? ⟨XB,0,none⟩=some (.slice ac came.length cc):=by rw [Lib.cell_of_heap HBX.out]; rfl
 have c1:w1.cell? ⟨XB,1,none⟩=some (.slice ad went.length cd):=by rw [Lib.cell_of_heap HBX.out]; rfl
 refine wp_region_tabA (playT (.slice am m.length cm) (.slice ac came.length cc) (.slice ad went.length cd) XB (Rl.minus m went) (Rl.union (Rl.minus m went) came)) (by kernel_rfl) (by kernel_rfl) (playT_mono _ _ _ _ _ _) ?hop ?hend
 case hop =>
  refine AllOps.cons (fun a y h=>?_) ?_
  · have e0:a.eval (.tmp 0)=(.slice am m.length cm:Value):=h.old 0 (by kernel_rfl)
    refine opOk_val (v:=.slice am m.length cm) (w':=y) (wanted_none rfl) ?_ (fun t ht=>by cases ht; exact rfl) (Below.refl _ _)
    have ec:=evc a
    generalize a.eval=ev at *
    clear h
    go_simp
  refine AllOps.cons (fun a y h=>?_) ?_
  · have e3:a.eval (.tmp 3)=(.pointer (some ⟨XB,0,none⟩):Value):=h.old 3 (by kernel_rfl)
    refine opOk_val (v:=.pointer (some ⟨XB,1,none⟩)) (w':=y) (wanted_none rfl) ?_ (fun t ht=>by cases ht; exact rfl) (Below.refl _ _)
    have ec:=evc a
    generalize a.eval=ev at *
    clear h
    go_simp
  refine AllOps.cons (fun a y h=>?_) ?_
  · have e6:a.eval (.tmp 6)=(.pointer (some ⟨XB,1,none⟩):Value):=h.of 6 (by kernel_rfl)
    have x1:=cell_below h.below c1
    refine opOk_val (v:=.slice ad went.length cd) (w':=y) (wanted_none rfl) ?_ (fun t ht=>by cases ht; exact rfl) (Below.refl _ _)
    have ec:=evc a
    generalize a.eval=ev at *
    clear h
    go_simp
  refine AllOps.cons (fun a y h=>?_) ?_
  · have e5:a.eval (.tmp 5)=(.slice am m.length cm:Value):=h.of 5 (by kernel_rfl)
    have e7:a.eval (.tmp 7)=(.slice ad went.length cd:Value):=h.of 7 (by kernel_rfl)
    refine opOk_call (f:=96) (args:=#[.slice am m.length cm,.slice ad went.length cd]) (wanted_none rfl) ?_ ?_
    · have ec:=evc a
      have ef:=evf a
      generalize a.eval=ev at *
      clear h
      go_simp
    · refine Calls.mono (HMI.out y h.below) ?_
      rintro _ y2 ⟨v2,rfl,hF2,hb2⟩
      exact ⟨_,rfl,fun t ht=>by cases ht; exact hF2,hb2⟩
  refine AllOps.cons (fun a y h=>?_) ?_
  · have e3:a.eval (.tmp 3)=(.pointer (some ⟨XB,0,none⟩):Value):=h.old 3 (by kernel_rfl)
    refine opOk_val (v:=.pointer (some ⟨XB,0,none⟩)) (w':=y) (wanted_none rfl) ?_ (fun t ht=>by cases ht; exact rfl) (Below.refl _ _)
    have ec:=evc a
    generalize a.eval=ev at *
    clear h
    go_simp
  refine AllOps.cons (fun a y h=>?_) ?_
  · have e9:a.eval (.tmp 9)=(.pointer (some ⟨XB,0,none⟩):Value):=h.of 9 (by kernel_rfl)
    have x0:=cell_below h.below c0
    refine opOk_val (v:=.slice ac came.length cc) (w':=y) (wanted_none rfl) ?_ (fun t ht=>by cases ht; exact rfl) (Below.refl _ _)
    have ec:=evc a
    generalize a.eval=ev at *
    clear h
    go_simp
  refine AllOps.cons (fun a y h=>?_) ?_
  · have h8:FactsV y (a.eval (.tmp 8)) (Rl.minus m went):=h.of 8 (by kernel_rfl)
    obtain ⟨a8,c8,e8,_⟩:=id h8
    rw [e8] at h8
    have e10:a.eval (.tmp 10)=(.slice ac came.length cc:Value):=h.of 10 (by kernel_rfl)
    refine opOk_call (f:=95) (args:=#[.slice a8 (Rl.minus m went).length c8,.slice ac came.length cc]) (wanted_none rfl) ?_ ?_
    · have ec:=evc a
      have ef:=evf a
      generalize a.eval=ev at *
      clear h
      go_simp
    · refine Calls.mono (HUN.out y h.below _ h8) ?_
      rintro _ y2 ⟨v2,rfl,hF2,hb2⟩
      exact ⟨_,rfl,fun t ht=>by cases ht; exact hF2,hb2⟩
  refine AllOps.cons (fun a y h=>?_) ?_
  · have h11:FactsV y (a.eval (.tmp 11)) (Rl.union (Rl.minus m went) came):=h.of 11 (by kernel_rfl)
    obtain ⟨a8,c8,e11,_⟩:=id h11
    rw [e11] at h11
    refine opOk_val (v:=.slice a8 (Rl.union (Rl.minus m went) came).length c8) (w':=y) (wanted_none rfl) ?_ (fun t ht=>by cases ht; exact h11) (Below.refl _ _)
    have ec:=evc a
    generalize a.eval=ev at *
    clear h
    go_simp
  exact AllOps.nil
 case hend =>
  rintro ⟨tm,df⟩ wE hbE hdE hsE hstE hTE
  have h4:FactsV wE (tm.getD 4 undef) (Rl.union (Rl.minus m went) came):=ends_at (T:=playT (.slice am m.length cm) (.slice ac came.length cc) (.slice ad went.length cd) XB (Rl.minus m went) (Rl.union (Rl.minus m went) came)) (w:=wE) (a:=⟨tm,df⟩) (t:=4) hTE (by kernel_rfl)
  obtain ⟨a4,c4,e4,_⟩:=id h4
  rw [e4] at h4
  obtain rfl:df=[]:=hdE
  have HF4:Hid _:=h4
  have HBE:Hid (Below w.heap.size w wE):=HB1.out.trans (hbE.mono HB1.out.size)
  have hFE:=tmps_fold [5,6,7,8,9,10,11,4] tm _ hsE hstE
  clear hsE hstE hTE h4 hbE
  simp only [List.foldl_cons,List.foldl_nil,e4] at hFE
  clear e4
  generalize tm.getD 5 undef=x5 at hFE
  generalize tm.getD 6 undef=x6 at hFE
  generalize tm.getD 7 undef=x7 at hFE
  generalize tm.getD 8 undef=x8 at hFE
  generalize tm.getD 9 undef=x9 at hFE
  generalize tm.getD 10 undef=x10 at hFE
  generalize tm.getD 11 undef=x11 at hFE
  simp only [List.setIfInBounds_toArray,List.set_cons_zero,List.set_cons_succ] at hFE
  subst hFE
  go_wp2_with fail
  go_ret
  exact ⟨_,rfl,HF4.out,HBE.out⟩







abbrev rulObj (r:Tr.Rule) (v u:Value):Obj:=.cells #[.int .i64 r.at_,.string ⟨r.name.toArray⟩,v,.int .i64 r.fold,u] 240
abbrev pruObj (r:Sc.Rule) (v u:Value):Obj:=.cells #[.int .i64 r.pred,v,.int .i64 r.fold,u,.int .i64 r.vars] 40
abbrev pliObj (x:Sc.Lit) (v:Value):Obj:=.cells #[.int .i64 x.kind,.int .i64 x.op,.int .i64 x.pred,v] 49

end Go.Proofs.YthenjegmigeieaaGreat
