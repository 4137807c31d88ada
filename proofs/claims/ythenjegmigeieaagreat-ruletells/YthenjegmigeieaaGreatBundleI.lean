/- Own texts, one behind the other (part 9). -/
import Derived.Test.YthenjegmigeieaaGreatBundleH
import Derived.Test.YthenjegmigeieaaGreatRows
import Derived.Deep.QuietTactic
import Derived.BigQuiet
import Derived.Deep.RegionHeld3
import Derived.Deep.DeepCutAuto
import Derived.Deep.RegionLaw
set_option maxRecDepth 100000
set_option maxHeartbeats 8000000
namespace Go.Proofs.YthenjegmigeieaaGreat
open Go.RowKit
theorem rpInts_cell {w y:World} {b off:Nat} {ar:List Int} (h:IntsAt w (some ⟨b,off,none⟩) ar) (n:Nat) (hn:n<ar.length) (hb:Below w.heap.size w y):y.cell? ⟨b,off+n,none⟩=some (.int .i64 (Sc.intD ar n)):=by
 obtain ⟨b',off',e,hc⟩:=ints_at h n hn
 obtain ⟨rfl,rfl⟩:b=b'∧off=off':=by simpa using e
 exact cell_below hb hc
theorem rpRule_any (ar:List Int) (va vn vr:Value) (r:Sc.Rule) (vt vb:Value) (w:World) (har:ar.length≤9223372036854775807) (hA:IntsV w va ar) (hT:PTermsV w vt r.terms) (hL:PLitsV w vb r.body) (hF:RuleFit r) :
 Calls Tryz.prog 111 #[progVal va vn vr,pruleVal r vt vb] w fun e w'=>e=.returned (.int .i64 (Sc.ruleErr ar r))∧Below w.heap.size w w':=by
 obtain ⟨ao,cap,rfl,hA⟩:=hA
 obtain ⟨pred,ts,fold,body,vars⟩:=r
 have HT:Hid (PTermsV w vt ts):=hT
 have HL:Hid (PLitsV w vb body):=hL
 have HFT:Hid (ts.length≤9223372036854775807):=hF.1
 have HFB:Hid (∀ i,i<body.length→LitFit (Sc.litD body i)):=hF.2.2
 have hfb:body.length≤9223372036854775807:=hF.2.1
 obtain ⟨at_,ct,rfl,_,_⟩:=hT
 obtain ⟨ab,cb,rfl,hLA⟩:=hL
 have hLA:PLitsAt w ab body:=hLA
 have hA:IntsAt w ao ar:=hA
 simp only at HT HL
 clear hF
 have hR:=RB.start w (.cells #[.slice ao ar.length cap,vn,vr] 26) (.cells #[.int .i64 pred,.slice at_ ts.length ct,.int .i64 fold,.slice ab body.length cb,.int .i64 vars] 40)
 have HE0:Hid (Sc.ruleErr ar ⟨pred,ts,fold,body,vars⟩=if Sc.isPred ar pred then
  Sc.thn (if (ts.length:Int)≠Sc.intD ar pred.toNat then 1 else 0) (
  Sc.thn (if Tr.between vars 0 8 then 0 else 3) (
  Sc.thn (Sc.termsErr vars ts) (
  Sc.thn (if Tr.between fold 0 4 then 0 else 7) (
  Sc.thn (if fold≠0∧(ts.length=0∨body.length=0) then 1 else 0) (
  Sc.thn (if 4<body.length then 2 else 0) (
  Sc.thn (Sc.first (Sc.litAll ar vars) body) (if Sc.safe ⟨pred,ts,fold,body,vars⟩ then 0 else 4)))))))
 else 5):=rfl
 go_enter Tryz.func111,Tryz.ntmps111
 go_wp2_with fail
 refine (btw_any _ _ _ _).mono ?_
 rintro e w2 ⟨he,hw2⟩
 subst hw2
 cases g1:Sc.isPred ar pred
 · have hbt:Tr.between pred 0 ((ar.length:Int) - 1)=false:=g1
   rw [hbt] at he
   subst he
   have HV:Hid (Sc.ruleErr ar ⟨pred,ts,fold,body,vars⟩=5):=by show _=_; rw [HE0.out,g1]; rfl
   clear HE0 hLA hA hbt
   go_wp2_with fail
   go_ret
   exact ⟨by rw [HV.out]; rfl,hR.bel⟩
 have hbt:Tr.between pred 0 ((ar.length:Int) - 1)=true:=g1
 rw [hbt] at he
 subst he
 clear hbt
 obtain ⟨k,rfl,hk⟩:=nat_of g1
 obtain ⟨b,off,rfl,hc⟩:=ints_at hA k hk
 have HA2:Hid (IntsAt w (some ⟨b,off,none⟩) ar):=hA
 have hq:=cell_below hR.bel hc
 rw [g1,if_pos rfl,Int.toNat_natCast] at HE0
 clear hc hA
 go_upto_region 4 with fail
 generalize (w.alloc (.cells #[.slice (some ⟨b,off,none⟩) ar.length cap,vn,vr] 26)).alloc (.cells #[.int .i64 k,.slice at_ ts.length ct,.int .i64 fold,.slice ab body.length cb,.int .i64 vars] 40)=w1 at *
 have c1:w1.cell? ⟨w.heap.size,0,none⟩=some (.slice (some ⟨b,off,none⟩) ar.length cap):=by rw [Lib.cell_of_heap hR.b1]; rfl
 have d0:w1.cell? ⟨w.heap.size+1,0,none⟩=some (.int .i64 k):=by rw [Lib.cell_of_heap hR.b2]; rfl
 have d1:w1.cell? ⟨w.heap.size+1,1,none⟩=some (.slice at_ ts.length ct):=by rw [Lib.cell_of_heap hR.b2]; rfl
 have d2:w1.cell? ⟨w.heap.size+1,2,none⟩=some (.int .i64 fold):=by rw [Lib.cell_of_heap hR.b2]; rfl
 have d3:w1.cell? ⟨w.heap.size+1,3,none⟩=some (.slice ab body.length cb):=by rw [Lib.cell_of_heap hR.b2]; rfl
 have d4:w1.cell? ⟨w.heap.size+1,4,none⟩=some (.int .i64 vars):=by rw [Lib.cell_of_heap hR.b2]; rfl
 cases g2:((ts.length:Int) != Sc.intD ar k)
 rotate_left
 · have h2:¬ (ts.length:Int)=Sc.intD ar k:=by simpa using g2
   have HV:Hid (Sc.ruleErr ar ⟨k,ts,fold,body,vars⟩=1):=by show _=_; rw [HE0.out,if_pos h2]; rfl
   clear HE0 h2
   go_region_held3 (fun y=>y.cell? ⟨w.heap.size,0,none⟩=some (.slice (some ⟨b,off,none⟩) ar.length cap)∧y.cell? ⟨w.heap.size+1,0,none⟩=some (.int .i64 k)∧y.cell? ⟨w.heap.size+1,1,none⟩=some (.slice at_ ts.length ct)∧y.cell? ⟨b,off+k,none⟩=some (.int .i64 (Sc.intD ar k))) (go_keep) (fail)
   have hbd:=hR.bel.drew
   go_wp2_with fail
   go_ret
   exact ⟨by rw [HV.out]; rfl,hbd⟩
 have h2:(ts.length:Int)=Sc.intD ar k:=by simpa using g2
 rw [if_neg (by simp [h2]),Sc.thn_zero] at HE0
 clear h2
 go_region_held3 (fun y=>y.cell? ⟨w.heap.size,0,none⟩=some (.slice (some ⟨b,off,none⟩) ar.length cap)∧y.cell? ⟨w.heap.size+1,0,none⟩=some (.int .i64 k)∧y.cell? ⟨w.heap.size+1,1,none⟩=some (.slice at_ ts.length ct)∧y.cell? ⟨b,off+k,none⟩=some (.int .i64 (Sc.intD ar k))) (go_keep) (fail)
 have hR:=hR.drew
 clear c1 d0 d1 d2 d3 d4 hq
 generalize w1.drew=wd at *
 have c1:wd.cell? ⟨w.heap.size,0,none⟩=some (.slice (some ⟨b,off,none⟩) ar.length cap):=by rw [Lib.cell_of_heap hR.b1]; rfl
 have d0:wd.cell? ⟨w.heap.size+1,0,none⟩=some (.int .i64 k):=by rw [Lib.cell_of_heap hR.b2]; rfl
 have d1:wd.cell? ⟨w.heap.size+1,1,none⟩=some (.slice at_ ts.length ct):=by rw [Lib.cell_of_heap hR.b2]; rfl
 have d2:wd.cell? ⟨w.heap.size+1,2,none⟩=some (.int .i64 fold):=by rw [Lib.cell_of_heap hR.b2]; rfl
 have d3:wd.cell? ⟨w.heap.size+1,3,none⟩=some (.slice ab body.length cb):=by rw [Lib.cell_of_heap hR.b2]; rfl
 have d4:wd.cell? ⟨w.heap.size+1,4,none⟩=some (.int .i64 vars):=by rw [Lib.cell_of_heap hR.b2]; rfl
 go_wp2_with fail
 refine (btw_any _ _ _ _).mono ?_
 rintro e w2 ⟨he,rfl⟩
 cases g3:Tr.between vars 0 8
 · rw [g3] at he
   subst he
   have HV:Hid (Sc.ruleErr ar ⟨k,ts,fold,body,vars⟩=3):=by show _=_; rw [HE0.out,g3]; rfl
   clear HE0
   go_wp2_with fail
   go_ret
   exact ⟨by rw [HV.out]; rfl,hR.bel⟩
 rw [g3] at he
 subst he
 rw [g3,if_pos rfl,Sc.thn_zero] at HE0
 have hv08:0≤vars∧vars≤8:=by
  simp [Tr.between] at g3
  exact g3
 obtain ⟨hv0,hv8⟩:=hv08
 go_wp2_with fail
 refine Calls.mono (rpTerms_any ts vars _ _ ⟨hv0,hv8⟩ HFT.out (ptermsV_below HT.out hR.bel)) ?_
 rintro e w3 ⟨rfl,rfl⟩
 by_cases h4:Sc.termsErr vars ts=0
 rotate_left
 · have g4:(Sc.termsErr vars ts != 0)=true:=by simpa using h4
   have HV:Hid (Sc.ruleErr ar ⟨k,ts,fold,body,vars⟩=Sc.termsErr vars ts):=by show _=_; rw [HE0.out,Sc.thn_ne _ h4]
   clear HE0
   go_wp2_with fail
   go_ret
   exact ⟨by rw [HV.out]; rfl,hR.bel⟩
 have g4:(Sc.termsErr vars ts != 0)=false:=by simpa using h4
 rw [h4,Sc.thn_zero] at HE0
 rw [h4]
 clear h4 HFT HT g4
 go_wp2_with fail
 refine (btw_any _ _ _ _).mono ?_
 rintro e w2 ⟨he,rfl⟩
 cases g5:Tr.between fold 0 4
 · rw [g5] at he
   subst he
   have HV:Hid (Sc.ruleErr ar ⟨k,ts,fold,body,vars⟩=7):=by show _=_; rw [HE0.out,g5]; rfl
   clear HE0
   go_wp2_with fail
   go_ret
   exact ⟨by rw [HV.out]; rfl,hR.bel⟩
 rw [g5] at he
 subst he
 rw [g5,if_pos rfl,Sc.thn_zero] at HE0
 have hf0:0≤fold:=by
  simp [Tr.between] at g5
  exact g5.1
 by_cases h6:fold≠0∧(ts.length=0∨body.length=0)
 · have HV:Hid (Sc.ruleErr ar ⟨k,ts,fold,body,vars⟩=1):=by show _=_; rw [HE0.out,if_pos h6]; rfl
   clear HE0
   have g6:decide (0<fold)=true:=decide_eq_true (by omega)
   by_cases h7:ts.length=0
   · have g7:((ts.length:Int)==0)=true:=by simp [h7]
     clear h6 h7
     go_wp2_with fail
     go_ret
     exact ⟨by rw [HV.out]; rfl,hR.bel⟩
   · have g7:((ts.length:Int)==0)=false:=by simp; exact fun e=>h7 (by rw [e]; rfl)
     have h8:body.length=0:=h6.2.resolve_left h7
     have g8:((body.length:Int)==0)=true:=by simp [h8]
     clear h6 h7 h8
     go_wp2_with fail
     go_ret
     exact ⟨by rw [HV.out]; rfl,hR.bel⟩
 rw [if_neg h6,Sc.thn_zero] at HE0
 go_upto_region 13 with fail
 go_cut [59] (fun v wx=>v=.bool false∧wx=w2)
 case first =>
  by_cases g6:0<fold
  · have g6':decide (0<fold)=true:=decide_eq_true g6
    have h9:¬ (ts.length=0∨body.length=0):=fun h=>h6 ⟨by omega,h⟩
    have g7:((ts.length:Int)==0)=false:=by simp; exact fun e=>h9 (.inl (by rw [e]; rfl))
    have g8:((body.length:Int)==0)=false:=by simp; exact fun e=>h9 (.inr (by rw [e]; rfl))
    clear h6 h9
    go_wp2_with fail
    go_meet
    exact ⟨rfl,rfl⟩
  · have g6':decide (0<fold)=false:=decide_eq_false g6
    clear h6
    go_wp2_with fail
    go_meet
    exact ⟨rfl,rfl⟩
 case rest =>
  obtain ⟨rfl,rfl⟩:=hcut
  clear h6
  by_cases h8:4<body.length
  · have HV:Hid (Sc.ruleErr ar ⟨k,ts,fold,body,vars⟩=2):=by show _=_; rw [HE0.out,if_pos h8]; rfl
    have g8:decide (4<body.length)=true:=decide_eq_true h8
    have g8':decide ((4:Int)<(body.length:Int))=true:=decide_eq_true (by omega)
    clear HE0
    go_wp2_with fail
    go_ret
    exact ⟨by rw [HV.out]; rfl,hR.bel⟩
  have g8:decide (4<body.length)=false:=decide_eq_false h8
  have g8':decide ((4:Int)<(body.length:Int))=false:=decide_eq_false (by omega)
  rw [if_neg h8,Sc.thn_zero] at HE0
  go_wp2_with fail
  clear c1 d0 d1 d2 d3 d4
  go_loopw [7] (fun i wr=>∃ j:Nat,j≤body.length∧i=.int .i64 j∧RB w (.cells #[.slice (some ⟨b,off,none⟩) ar.length cap,vn,vr] 26) (.cells #[.int .i64 k,.slice at_ ts.length ct,.int .i64 fold,.slice ab body.length cb,.int .i64 vars] 40) wr∧Sc.first (Sc.litAll ar vars) body=Sc.first (Sc.litAll ar vars) (body.drop j)) (fun i _=>body.length - (intOf i).toNat)
  case atStart=>exact ⟨0,Nat.zero_le _,rfl,hR,rfl⟩
  case round =>
   clear hR
   obtain ⟨j,hj,rfl,hR,hfj⟩:=hrel
   have HFJ:Hid _:=hfj
   clear hfj
   have c1:wr.cell? ⟨w.heap.size,0,none⟩=some (.slice (some ⟨b,off,none⟩) ar.length cap):=by rw [Lib.cell_of_heap hR.b1]; rfl
   have d0:wr.cell? ⟨w.heap.size+1,0,none⟩=some (.int .i64 k):=by rw [Lib.cell_of_heap hR.b2]; rfl
   have d1:wr.cell? ⟨w.heap.size+1,1,none⟩=some (.slice at_ ts.length ct):=by rw [Lib.cell_of_heap hR.b2]; rfl
   have d2:wr.cell? ⟨w.heap.size+1,2,none⟩=some (.int .i64 fold):=by rw [Lib.cell_of_heap hR.b2]; rfl
   have d3:wr.cell? ⟨w.heap.size+1,3,none⟩=some (.slice ab body.length cb):=by rw [Lib.cell_of_heap hR.b2]; rfl
   have d4:wr.cell? ⟨w.heap.size+1,4,none⟩=some (.int .i64 vars):=by rw [Lib.cell_of_heap hR.b2]; rfl
   by_cases hjl:j<body.length
   · obtain ⟨b3,off3,rfl,p0,p1,p2,v,p3,hTv⟩:=plits_at hLA j hjl
     have HTV:Hid (PTermsV w v (Sc.litD body j).terms):=hTv
     obtain ⟨av,cv,rfl,_,_⟩:=hTv
     have q0:=cell_below hR.bel p0
     have q1:=cell_below hR.bel p1
     have q2:=cell_below hR.bel p2
     have q3:=cell_below hR.bel p3
     have HFD:Hid (Sc.first (Sc.litAll ar vars) body=Sc.thn (Sc.litAll ar vars (Sc.litD body j)) (Sc.first (Sc.litAll ar vars) (body.drop (j+1)))):=HFJ.out.trans (Sc.first_drop _ _ _ j hjl)
     have HFI:Hid (LitFit (Sc.litD body j)):=HFB.out j hjl
     have hb1:Below wr.heap.size wr (wr.alloc (.cells #[.int .i64 (Sc.litD body j).kind,.int .i64 (Sc.litD body j).op,.int .i64 (Sc.litD body j).pred,.slice av (Sc.litD body j).terms.length cv] 49)):=(Below.refl _ _).alloc (Nat.le_refl _) _
     have hlb:=heap_alloc_new wr (.cells #[.int .i64 (Sc.litD body j).kind,.int .i64 (Sc.litD body j).op,.int .i64 (Sc.litD body j).pred,.slice av (Sc.litD body j).terms.length cv] 49)
     have hR1:=hR.below hb1
     clear p0 p1 p2 p3 hb1 HFJ hLA HL
     generalize hx:Sc.litD body j=x at *
     clear hx
     obtain ⟨kind,op,pd,xt⟩:=x
     simp only at *
     go_upto_region 21 with fail
     clear hR c1 d0 d1 d2 d3 d4 q0 q1 q2 q3
     generalize wr.alloc (.cells #[.int .i64 kind,.int .i64 op,.int .i64 pd,.slice av xt.length cv] 49)=wz at *
     generalize hLB:wr.heap.size=LB at *
     clear hLB
     have hR:=hR1
     have c1:wz.cell? ⟨w.heap.size,0,none⟩=some (.slice (some ⟨b,off,none⟩) ar.length cap):=by rw [Lib.cell_of_heap hR.b1]; rfl
     have d0:wz.cell? ⟨w.heap.size+1,0,none⟩=some (.int .i64 k):=by rw [Lib.cell_of_heap hR.b2]; rfl
     have d1:wz.cell? ⟨w.heap.size+1,1,none⟩=some (.slice at_ ts.length ct):=by rw [Lib.cell_of_heap hR.b2]; rfl
     have d2:wz.cell? ⟨w.heap.size+1,2,none⟩=some (.int .i64 fold):=by rw [Lib.cell_of_heap hR.b2]; rfl
     have d3:wz.cell? ⟨w.heap.size+1,3,none⟩=some (.slice (some ⟨b3,off3,none⟩) body.length cb):=by rw [Lib.cell_of_heap hR.b2]; rfl
     have d4:wz.cell? ⟨w.heap.size+1,4,none⟩=some (.int .i64 vars):=by rw [Lib.cell_of_heap hR.b2]; rfl
     clear hR
     have l0:wz.cell? ⟨LB,0,none⟩=some (.int .i64 kind):=by rw [Lib.cell_of_heap hlb]; rfl
     have l1:wz.cell? ⟨LB,1,none⟩=some (.int .i64 op):=by rw [Lib.cell_of_heap hlb]; rfl
     have l2:wz.cell? ⟨LB,2,none⟩=some (.int .i64 pd):=by rw [Lib.cell_of_heap hlb]; rfl
     have l3:wz.cell? ⟨LB,3,none⟩=some (.slice av xt.length cv):=by rw [Lib.cell_of_heap hlb]; rfl
     go_wp2_with fail
     refine (btw_any _ _ _ _).mono ?_
     rintro e w2 ⟨he,rfl⟩
     cases g9:Tr.between kind 1 4
     · rw [g9] at he
       subst he
       have hkk:¬ kind=1∧¬ kind=2∧¬ kind=3∧¬ kind=4:=by
        simp [Tr.between] at g9
        omega
       have HLE:Sc.litErr ar ⟨kind,op,pd,xt⟩=7:=by simp [Sc.litErr,hkk.1,hkk.2.1,hkk.2.2.1,hkk.2.2.2]
       have HV:Hid (Sc.ruleErr ar ⟨k,ts,fold,body,vars⟩=7):=by show _=_; rw [HE0.out,HFD.out,Sc.litAll,HLE]; rfl
       clear HE0 HFD HLE
       go_wp2_with fail
       go_ret
       exact ⟨by rw [HV.out]; rfl,hR1.bel⟩
     rw [g9] at he
     subst he
     have hkk:kind=1∨kind=2∨kind=3∨kind=4:=by
      simp [Tr.between] at g9
      omega
     clear g9
     rcases hkk with rfl | rfl | rfl | rfl
     · skip
       cases g3:(op != 0)
       rotate_left
       · have h3:¬ op=0:=by simpa using g3
         have HLE:Sc.litErr ar ⟨1,op,pd,xt⟩=3:=by rw [Sc.litErr,if_pos (by simp),if_pos h3]
         have HV:Hid (Sc.ruleErr ar ⟨k,ts,fold,body,vars⟩=3):=by show _=_; rw [HE0.out,HFD.out,Sc.litAll,HLE]; rfl
         clear HE0 HFD HLE
         go_wp2_with fail
         go_ret
         exact ⟨by rw [HV.out]; rfl,hR1.bel⟩
       have h3:op=0:=by simpa using g3
       go_wp2_with fail
       refine (btw_any _ _ _ _).mono ?_
       rintro e w2 ⟨he,rfl⟩
       cases g4:Sc.isPred ar pd
       · have hbt:Tr.between pd 0 ((ar.length:Int) - 1)=false:=g4
         rw [hbt] at he
         subst he
         clear hbt
         have HLE:Sc.litErr ar ⟨1,op,pd,xt⟩=5:=by rw [Sc.litErr,if_pos (by simp),if_neg (by simpa using h3)]; simp only [g4]; rfl
         have HV:Hid (Sc.ruleErr ar ⟨k,ts,fold,body,vars⟩=5):=by show _=_; rw [HE0.out,HFD.out,Sc.litAll,HLE]; rfl
         clear HE0 HFD HLE
         go_wp2_with fail
         go_ret
         exact ⟨by rw [HV.out]; rfl,hR1.bel⟩
       have hbt:Tr.between pd 0 ((ar.length:Int) - 1)=true:=g4
       rw [hbt] at he
       subst he
       clear hbt
       obtain ⟨kp,rfl,hkp⟩:=nat_of g4
       have hq:=rpInts_cell HA2.out kp hkp hR1.bel
       have HL1:Sc.litErr ar ⟨1,op,kp,xt⟩=if (xt.length:Int)≠Sc.intD ar kp then 1 else 0:=by
        rw [Sc.litErr,if_pos (by simp),if_neg (by simpa using h3)]
        simp only [g4]
        rfl
       go_upto_region 28 with fail
       cases g5:((xt.length:Int) != Sc.intD ar kp)
       · have h5:(xt.length:Int)=Sc.intD ar kp:=by simpa using g5
         have HL0:Sc.litErr ar ⟨1,op,kp,xt⟩=0:=by rw [HL1,if_neg (by simp [h5])]
         clear HL1 h5
         go_region_held3 (fun y=>y.cell? ⟨w.heap.size,0,none⟩=some (.slice (some ⟨b,off,none⟩) ar.length cap)∧y.cell? ⟨LB,2,none⟩=some (.int .i64 kp)∧y.cell? ⟨LB,3,none⟩=some (.slice av xt.length cv)∧y.cell? ⟨b,off+kp,none⟩=some (.int .i64 (Sc.intD ar kp))) (go_keep) (fail)
         have hRd:=hR1.drew
         have hld:=(show w2.drew.heap[LB]?=_ from hlb)
         clear c1 d0 d1 d2 d3 d4 hq l0 l1 l2 l3 hlb hR1
         generalize w2.drew=wy at *
         have l3:wy.cell? ⟨LB,3,none⟩=some (.slice av xt.length cv):=by rw [Lib.cell_of_heap hld]; rfl
         have d4:wy.cell? ⟨w.heap.size+1,4,none⟩=some (.int .i64 vars):=by rw [Lib.cell_of_heap hRd.b2]; rfl
         have HLE:Sc.litErr ar ⟨1,op,kp,xt⟩=0:=by exact HL0
         go_wp2_with fail
         refine Calls.mono (rpTerms_any xt vars _ _ ⟨by omega,by omega⟩ HFI.out (ptermsV_below HTV.out hRd.bel)) ?_
         rintro e w5 ⟨rfl,rfl⟩
         by_cases h10:Sc.termsErr vars xt=0
         rotate_left
         · have g10:(Sc.termsErr vars xt != 0)=true:=by simpa using h10
           have HV:Hid (Sc.ruleErr ar ⟨k,ts,fold,body,vars⟩=Sc.termsErr vars xt):=by show _=_; rw [HE0.out,HFD.out,Sc.litAll,HLE,Sc.thn_zero,Sc.thn_ne _ h10,Sc.thn_ne _ h10]
           clear HE0 HFD HLE
           go_wp2_with fail
           go_ret
           exact ⟨by rw [HV.out]; rfl,hRd.bel⟩
         have g10:(Sc.termsErr vars xt != 0)=false:=by simpa using h10
         have HV:Hid (Sc.first (Sc.litAll ar vars) body=Sc.first (Sc.litAll ar vars) (body.drop (j+1))):=by show _=_; rw [HFD.out,Sc.litAll,HLE,Sc.thn_zero,h10,Sc.thn_zero]
         clear HFD HLE
         rw [h10]
         go_wp2_with fail
         go_roundw
         case rel=>exact ⟨j+1,by omega,by go_num,hRd,HV.out⟩
         case measure=>simp [intOf]; omega
       · have h5:¬ (xt.length:Int)=Sc.intD ar kp:=by simpa using g5
         have HL0:Sc.litErr ar ⟨1,op,kp,xt⟩=1:=by rw [HL1,if_pos h5]
         clear HL1 h5
         have HV:Hid (Sc.ruleErr ar ⟨k,ts,fold,body,vars⟩=1):=by show _=_; rw [HE0.out,HFD.out,Sc.litAll,HL0]; rfl
         clear HE0 HFD HL0
         go_region_held3 (fun y=>y.cell? ⟨w.heap.size,0,none⟩=some (.slice (some ⟨b,off,none⟩) ar.length cap)∧y.cell? ⟨LB,2,none⟩=some (.int .i64 kp)∧y.cell? ⟨LB,3,none⟩=some (.slice av xt.length cv)∧y.cell? ⟨b,off+kp,none⟩=some (.int .i64 (Sc.intD ar kp))) (go_keep) (fail)
         have hbd:=hR1.bel.drew
         go_wp2_with fail
         go_ret
         exact ⟨by rw [HV.out]; rfl,hbd⟩
     · skip
       cases g3:(op != 0)
       rotate_left
       · have h3:¬ op=0:=by simpa using g3
         have HLE:Sc.litErr ar ⟨2,op,pd,xt⟩=3:=by rw [Sc.litErr,if_pos (by simp),if_pos h3]
         have HV:Hid (Sc.ruleErr ar ⟨k,ts,fold,body,vars⟩=3):=by show _=_; rw [HE0.out,HFD.out,Sc.litAll,HLE]; rfl
         clear HE0 HFD HLE
         go_wp2_with fail
         go_ret
         exact ⟨by rw [HV.out]; rfl,hR1.bel⟩
       have h3:op=0:=by simpa using g3
       go_wp2_with fail
       refine (btw_any _ _ _ _).mono ?_
       rintro e w2 ⟨he,rfl⟩
       cases g4:Sc.isPred ar pd
       · have hbt:Tr.between pd 0 ((ar.length:Int) - 1)=false:=g4
         rw [hbt] at he
         subst he
         clear hbt
         have HLE:Sc.litErr ar ⟨2,op,pd,xt⟩=5:=by rw [Sc.litErr,if_pos (by simp),if_neg (by simpa using h3)]; simp only [g4]; rfl
         have HV:Hid (Sc.ruleErr ar ⟨k,ts,fold,body,vars⟩=5):=by show _=_; rw [HE0.out,HFD.out,Sc.litAll,HLE]; rfl
         clear HE0 HFD HLE
         go_wp2_with fail
         go_ret
         exact ⟨by rw [HV.out]; rfl,hR1.bel⟩
       have hbt:Tr.between pd 0 ((ar.length:Int) - 1)=true:=g4
       rw [hbt] at he
       subst he
       clear hbt
       obtain ⟨kp,rfl,hkp⟩:=nat_of g4
       have hq:=rpInts_cell HA2.out kp hkp hR1.bel
       have HL1:Sc.litErr ar ⟨2,op,kp,xt⟩=if (xt.length:Int)≠Sc.intD ar kp then 1 else 0:=by
        rw [Sc.litErr,if_pos (by simp),if_neg (by simpa using h3)]
        simp only [g4]
        rfl
       go_upto_region 28 with fail
       cases g5:((xt.length:Int) != Sc.intD ar kp)
       · have h5:(xt.length:Int)=Sc.intD ar kp:=by simpa using g5
         have HL0:Sc.litErr ar ⟨2,op,kp,xt⟩=0:=by rw [HL1,if_neg (by simp [h5])]
         clear HL1 h5
         go_region_held3 (fun y=>y.cell? ⟨w.heap.size,0,none⟩=some (.slice (some ⟨b,off,none⟩) ar.length cap)∧y.cell? ⟨LB,2,none⟩=some (.int .i64 kp)∧y.cell? ⟨LB,3,none⟩=some (.slice av xt.length cv)∧y.cell? ⟨b,off+kp,none⟩=some (.int .i64 (Sc.intD ar kp))) (go_keep) (fail)
         have hRd:=hR1.drew
         have hld:=(show w2.drew.heap[LB]?=_ from hlb)
         clear c1 d0 d1 d2 d3 d4 hq l0 l1 l2 l3 hlb hR1
         generalize w2.drew=wy at *
         have l3:wy.cell? ⟨LB,3,none⟩=some (.slice av xt.length cv):=by rw [Lib.cell_of_heap hld]; rfl
         have d4:wy.cell? ⟨w.heap.size+1,4,none⟩=some (.int .i64 vars):=by rw [Lib.cell_of_heap hRd.b2]; rfl
         have HLE:Sc.litErr ar ⟨2,op,kp,xt⟩=0:=by exact HL0
         go_wp2_with fail
         refine Calls.mono (rpTerms_any xt vars _ _ ⟨by omega,by omega⟩ HFI.out (ptermsV_below HTV.out hRd.bel)) ?_
         rintro e w5 ⟨rfl,rfl⟩
         by_cases h10:Sc.termsErr vars xt=0
         rotate_left
         · have g10:(Sc.termsErr vars xt != 0)=true:=by simpa using h10
           have HV:Hid (Sc.ruleErr ar ⟨k,ts,fold,body,vars⟩=Sc.termsErr vars xt):=by show _=_; rw [HE0.out,HFD.out,Sc.litAll,HLE,Sc.thn_zero,Sc.thn_ne _ h10,Sc.thn_ne _ h10]
           clear HE0 HFD HLE
           go_wp2_with fail
           go_ret
           exact ⟨by rw [HV.out]; rfl,hRd.bel⟩
         have g10:(Sc.termsErr vars xt != 0)=false:=by simpa using h10
         have HV:Hid (Sc.first (Sc.litAll ar vars) body=Sc.first (Sc.litAll ar vars) (body.drop (j+1))):=by show _=_; rw [HFD.out,Sc.litAll,HLE,Sc.thn_zero,h10,Sc.thn_zero]
         clear HFD HLE
         rw [h10]
         go_wp2_with fail
         go_roundw
         case rel=>exact ⟨j+1,by omega,by go_num,hRd,HV.out⟩
         case measure=>simp [intOf]; omega
       · have h5:¬ (xt.length:Int)=Sc.intD ar kp:=by simpa using g5
         have HL0:Sc.litErr ar ⟨2,op,kp,xt⟩=1:=by rw [HL1,if_pos h5]
         clear HL1 h5
         have HV:Hid (Sc.ruleErr ar ⟨k,ts,fold,body,vars⟩=1):=by show _=_; rw [HE0.out,HFD.out,Sc.litAll,HL0]; rfl
         clear HE0 HFD HL0
         go_region_held3 (fun y=>y.cell? ⟨w.heap.size,0,none⟩=some (.slice (some ⟨b,off,none⟩) ar.length cap)∧y.cell? ⟨LB,2,none⟩=some (.int .i64 kp)∧y.cell? ⟨LB,3,none⟩=some (.slice av xt.length cv)∧y.cell? ⟨b,off+kp,none⟩=some (.int .i64 (Sc.intD ar kp))) (go_keep) (fail)
         have hbd:=hR1.bel.drew
         go_wp2_with fail
         go_ret
         exact ⟨by rw [HV.out]; rfl,hbd⟩
     · skip
       go_wp2_with fail
       refine (btw_any _ _ _ _).mono ?_
       rintro e w2 ⟨he,rfl⟩
       cases g3:Tr.between op 1 4
       · rw [g3] at he
         subst he
         have HLE:Sc.litErr ar ⟨3,op,pd,xt⟩=3:=by rw [Sc.litErr,if_neg (by simp),if_pos rfl]; simp only [g3]; rfl
         have HV:Hid (Sc.ruleErr ar ⟨k,ts,fold,body,vars⟩=3):=by show _=_; rw [HE0.out,HFD.out,Sc.litAll,HLE]; rfl
         clear HE0 HFD HLE
         go_wp2_with fail
         go_ret
         exact ⟨by rw [HV.out]; rfl,hR1.bel⟩
       rw [g3] at he
       subst he
       cases g4:(pd != 0)
       rotate_left
       · have h4:¬ pd=0:=by simpa using g4
         have HLE:Sc.litErr ar ⟨3,op,pd,xt⟩=1:=by rw [Sc.litErr,if_neg (by simp),if_pos rfl]; simp only [g3]; simp [h4]
         have HV:Hid (Sc.ruleErr ar ⟨k,ts,fold,body,vars⟩=1):=by show _=_; rw [HE0.out,HFD.out,Sc.litAll,HLE]; rfl
         clear HE0 HFD HLE
         go_wp2_with fail
         go_ret
         exact ⟨by rw [HV.out]; rfl,hR1.bel⟩
       have h4:pd=0:=by simpa using g4
       by_cases h5:xt.length=2
       rotate_left
       · have g5:((xt.length:Int) != 2)=true:=by simp; omega
         have HLE:Sc.litErr ar ⟨3,op,pd,xt⟩=1:=by rw [Sc.litErr,if_neg (by simp),if_pos rfl]; simp only [g3]; simp [h5]
         have HV:Hid (Sc.ruleErr ar ⟨k,ts,fold,body,vars⟩=1):=by show _=_; rw [HE0.out,HFD.out,Sc.litAll,HLE]; rfl
         clear HE0 HFD HLE
         go_wp2_with fail
         go_ret
         exact ⟨by rw [HV.out]; rfl,hR1.bel⟩
       have g5:((xt.length:Int) != 2)=false:=by rw [h5]; rfl
       have HL0:Sc.litErr ar ⟨3,op,pd,xt⟩=0:=by rw [Sc.litErr,if_neg (by simp),if_pos rfl]; simp only [g3]; simp [h4,h5]
       clear h4 h5
       have HLE:Sc.litErr ar ⟨3,op,pd,xt⟩=0:=by exact HL0
       go_wp2_with fail
       refine Calls.mono (rpTerms_any xt vars _ _ ⟨by omega,by omega⟩ HFI.out (ptermsV_below HTV.out hR1.bel)) ?_
       rintro e w5 ⟨rfl,rfl⟩
       by_cases h10:Sc.termsErr vars xt=0
       rotate_left
       · have g10:(Sc.termsErr vars xt != 0)=true:=by simpa using h10
         have HV:Hid (Sc.ruleErr ar ⟨k,ts,fold,body,vars⟩=Sc.termsErr vars xt):=by show _=_; rw [HE0.out,HFD.out,Sc.litAll,HLE,Sc.thn_zero,Sc.thn_ne _ h10,Sc.thn_ne _ h10]
         clear HE0 HFD HLE
         go_wp2_with fail
         go_ret
         exact ⟨by rw [HV.out]; rfl,hR1.bel⟩
       have g10:(Sc.termsErr vars xt != 0)=false:=by simpa using h10
       have HV:Hid (Sc.first (Sc.litAll ar vars) body=Sc.first (Sc.litAll ar vars) (body.drop (j+1))):=by show _=_; rw [HFD.out,Sc.litAll,HLE,Sc.thn_zero,h10,Sc.thn_zero]
       clear HFD HLE
       rw [h10]
       go_wp2_with fail
       go_roundw
       case rel=>exact ⟨j+1,by omega,by go_num,hR1,HV.out⟩
       case measure=>simp [intOf]; omega
     · skip
       go_wp2_with fail
       refine (btw_any _ _ _ _).mono ?_
       rintro e w2 ⟨he,rfl⟩
       cases g3:Tr.between op 5 7
       · rw [g3] at he
         subst he
         have HLE:Sc.litErr ar ⟨4,op,pd,xt⟩=3:=by rw [Sc.litErr,if_neg (by simp),if_neg (by simp),if_pos rfl]; simp only [g3]; rfl
         have HV:Hid (Sc.ruleErr ar ⟨k,ts,fold,body,vars⟩=3):=by show _=_; rw [HE0.out,HFD.out,Sc.litAll,HLE]; rfl
         clear HE0 HFD HLE
         go_wp2_with fail
         go_ret
         exact ⟨by rw [HV.out]; rfl,hR1.bel⟩
       rw [g3] at he
       subst he
       cases g4:(pd != 0)
       rotate_left
       · have h4:¬ pd=0:=by simpa using g4
         have HLE:Sc.litErr ar ⟨4,op,pd,xt⟩=1:=by rw [Sc.litErr,if_neg (by simp),if_neg (by simp),if_pos rfl]; simp only [g3]; simp [h4]
         have HV:Hid (Sc.ruleErr ar ⟨k,ts,fold,body,vars⟩=1):=by show _=_; rw [HE0.out,HFD.out,Sc.litAll,HLE]; rfl
         clear HE0 HFD HLE
         go_wp2_with fail
         go_ret
         exact ⟨by rw [HV.out]; rfl,hR1.bel⟩
       have h4:pd=0:=by simpa using g4
       by_cases h5:xt.length=3
       rotate_left
       · have g5:((xt.length:Int) != 3)=true:=by simp; omega
         have HLE:Sc.litErr ar ⟨4,op,pd,xt⟩=1:=by rw [Sc.litErr,if_neg (by simp),if_neg (by simp),if_pos rfl]; simp only [g3]; simp [h5]
         have HV:Hid (Sc.ruleErr ar ⟨k,ts,fold,body,vars⟩=1):=by show _=_; rw [HE0.out,HFD.out,Sc.litAll,HLE]; rfl
         clear HE0 HFD HLE
         go_wp2_with fail
         go_ret
         exact ⟨by rw [HV.out]; rfl,hR1.bel⟩
       have g5:((xt.length:Int) != 3)=false:=by rw [h5]; rfl
       have HL0:Sc.litErr ar ⟨4,op,pd,xt⟩=0:=by rw [Sc.litErr,if_neg (by simp),if_neg (by simp),if_pos rfl]; simp only [g3]; simp [h4,h5]
       clear h4 h5
       have HLE:Sc.litErr ar ⟨4,op,pd,xt⟩=0:=by exact HL0
       go_wp2_with fail
       refine Calls.mono (rpTerms_any xt vars _ _ ⟨by omega,by omega⟩ HFI.out (ptermsV_below HTV.out hR1.bel)) ?_
       rintro e w5 ⟨rfl,rfl⟩
       by_cases h10:Sc.termsErr vars xt=0
       rotate_left
       · have g10:(Sc.termsErr vars xt != 0)=true:=by simpa using h10
         have HV:Hid (Sc.ruleErr ar ⟨k,ts,fold,body,vars⟩=Sc.termsErr vars xt):=by show _=_; rw [HE0.out,HFD.out,Sc.litAll,HLE,Sc.thn_zero,Sc.thn_ne _ h10,Sc.thn_ne _ h10]
         clear HE0 HFD HLE
         go_wp2_with fail
         go_ret
         exact ⟨by rw [HV.out]; rfl,hR1.bel⟩
       have g10:(Sc.termsErr vars xt != 0)=false:=by simpa using h10
       have HV:Hid (Sc.first (Sc.litAll ar vars) body=Sc.first (Sc.litAll ar vars) (body.drop (j+1))):=by show _=_; rw [HFD.out,Sc.litAll,HLE,Sc.thn_zero,h10,Sc.thn_zero]
       clear HFD HLE
       rw [h10]
       go_wp2_with fail
       go_roundw
       case rel=>exact ⟨j+1,by omega,by go_num,hR1,HV.out⟩
       case measure=>simp [intOf]; omega
   · have hz:Sc.first (Sc.litAll ar vars) body=0:=by rw [HFJ.out,List.drop_of_length_le (by omega)]; rfl
     have hgood:RuleGood ⟨k,ts,fold,body,vars⟩:=⟨by show 0≤vars; omega,by show vars≤8; omega,by show body.length≤4; omega,fun i hi=>lit_good (first_zero hz _ (litD_mem hi)) (by show 0≤vars; omega) (HFB.out i hi)⟩
     rw [hz,Sc.thn_zero] at HE0
     clear HFJ hz hLA
     go_wp2_with fail
     refine Calls.mono (rpSafe_any ⟨k,ts,fold,body,vars⟩ _ _ _ (plitsV_below HL.out hR.bel) hgood) ?_
     rintro e w2 ⟨he,hb2⟩
     have hbb:=hR.bel.trans (hb2.mono hR.bel.size)
     cases h11:Sc.safe ⟨k,ts,fold,body,vars⟩
     · rw [h11] at he HE0
       subst he
       have HV:Hid (Sc.ruleErr ar ⟨k,ts,fold,body,vars⟩=4):=by show _=_; rw [HE0.out]; rfl
       clear HE0 hgood h11
       go_wp2_with fail
       go_ret
       exact ⟨by rw [HV.out]; rfl,hbb⟩
     · rw [h11] at he HE0
       subst he
       have HV:Hid (Sc.ruleErr ar ⟨k,ts,fold,body,vars⟩=0):=by show _=_; rw [HE0.out]; rfl
       clear HE0 hgood h11
       go_wp2_with fail
       go_ret
       exact ⟨by rw [HV.out]; rfl,hbb⟩
theorem refTok_empty (k:Int) (w:World):Calls Tryz.prog 163 #[.int .i64 k,.string ⟨#[]⟩] w fun e w'=>e=.returned (.bool false)∧w'=w:=by
 go_enter Tryz.func163,Tryz.ntmps163
 go_wp2_with fail
 go_ret
 exact ⟨rfl,rfl⟩
theorem refTok_long (k:Int) (s:ByteArray) (w:World) (h0:s.toList.isEmpty=false) (hs:5000<s.size):Calls Tryz.prog 163 #[.int .i64 k,.string s] w fun e w'=>e=.returned (.bool false)∧w'=w:=by
 go_enter Tryz.func163,Tryz.ntmps163
 go_wp2_with fail
 go_ret
 exact ⟨rfl,rfl⟩
theorem refTok_zero (s:ByteArray) (w:World) (h0:s.toList.isEmpty=false) (hs:s.size≤5000):Calls Tryz.prog 163 #[.int .i64 0,.string s] w fun e w'=>e=.returned (.bool false)∧w'=w:=by
 have hd:decide ((5000:Int)<(s.size:Int))=false:=by simp; omega
 go_enter Tryz.func163,Tryz.ntmps163
 go_wp2_with fail
 go_ret
 exact ⟨rfl,rfl⟩
theorem refTok_off (s:ByteArray) (w:World) (h0:s.toList.isEmpty=false) (hs:s.size≤5000) (hpos:0<s.size) (k K:Int) (hk:(k==0)=false) (g1:(K==k)=false) (hR:refKind s.data.toList=K) :
 Calls Tryz.prog 163 #[.int .i64 k,.string s] w fun e w'=>e=.returned (.bool false)∧w'=w:=by
 have hd5:decide ((5000:Int)<(s.size:Int))=false:=by simp; omega
 have HA:Hid (Calls Tryz.prog 203 #[.string s,.int .i64 0] w fun e w'=>e=.returned (.tuple #[.int .i64 K,.int .i64 (Tk.lenOf s.data.toList:Nat)])∧w'=w):=by
  have h:=refAt_any s 0 w (by omega) hpos
  rw [List.drop_zero,hR] at h
  exact h
 clear hR
 go_enter Tryz.func163,Tryz.ntmps163
 go_wp2_with fail
 refine Calls.mono HA.out ?_
 rintro e w1 ⟨rfl,rfl⟩
 go_wp2_with fail
 go_ret
 exact ⟨rfl,rfl⟩
theorem refTok_part (s:ByteArray) (w:World) (h0:s.toList.isEmpty=false) (hs:s.size≤5000) (hpos:0<s.size) (k K:Int) (hk:(k==0)=false) (g1:(K==k)=true) (g2:((Tk.lenOf s.data.toList:Int)==(s.size:Int))=false) (hR:refKind s.data.toList=K) :
 Calls Tryz.prog 163 #[.int .i64 k,.string s] w fun e w'=>e=.returned (.bool false)∧w'=w:=by
 have hd5:decide ((5000:Int)<(s.size:Int))=false:=by simp; omega
 have HA:Hid (Calls Tryz.prog 203 #[.string s,.int .i64 0] w fun e w'=>e=.returned (.tuple #[.int .i64 K,.int .i64 (Tk.lenOf s.data.toList:Nat)])∧w'=w):=by
  have h:=refAt_any s 0 w (by omega) hpos
  rw [List.drop_zero,hR] at h
  exact h
 clear hR
 go_enter Tryz.func163,Tryz.ntmps163
 go_wp2_with fail
 refine Calls.mono HA.out ?_
 rintro e w1 ⟨rfl,rfl⟩
 go_wp2_with fail
 go_ret
 exact ⟨rfl,rfl⟩
theorem refTok_long1 (s:ByteArray) (w:World) (h0:s.toList.isEmpty=false) (hs:s.size≤5000) (hpos:0<s.size) (g2:((Tk.lenOf s.data.toList:Int)==(s.size:Int))=true) (hl:12<Tk.lenOf s.data.toList) (hR:refKind s.data.toList=1) :
 Calls Tryz.prog 163 #[.int .i64 1,.string s] w fun e w'=>e=.returned (.bool false)∧w'=w:=by
 have hd5:decide ((5000:Int)<(s.size:Int))=false:=by simp; omega
 have HA:Hid (Calls Tryz.prog 203 #[.string s,.int .i64 0] w fun e w'=>e=.returned (.tuple #[.int .i64 1,.int .i64 (Tk.lenOf s.data.toList:Nat)])∧w'=w):=by
  have h:=refAt_any s 0 w (by omega) hpos
  rw [List.drop_zero,hR] at h
  exact h
 clear hR
 have hd12:decide ((12:Int)<((Tk.lenOf s.data.toList:Nat):Int))=true:=by simp; omega
 go_enter Tryz.func163,Tryz.ntmps163
 go_wp2_with fail
 refine Calls.mono HA.out ?_
 rintro e w1 ⟨rfl,rfl⟩
 go_wp2_with fail
 go_ret
 exact ⟨rfl,rfl⟩
theorem refTok_yes1 (s:ByteArray) (w:World) (h0:s.toList.isEmpty=false) (hs:s.size≤5000) (hpos:0<s.size) (g2:((Tk.lenOf s.data.toList:Int)==(s.size:Int))=true) (hl:Tk.lenOf s.data.toList≤12) (hR:refKind s.data.toList=1) :
 Calls Tryz.prog 163 #[.int .i64 1,.string s] w fun e w'=>e=.returned (.bool true)∧w'=w:=by
 have hd5:decide ((5000:Int)<(s.size:Int))=false:=by simp; omega
 have HA:Hid (Calls Tryz.prog 203 #[.string s,.int .i64 0] w fun e w'=>e=.returned (.tuple #[.int .i64 1,.int .i64 (Tk.lenOf s.data.toList:Nat)])∧w'=w):=by
  have h:=refAt_any s 0 w (by omega) hpos
  rw [List.drop_zero,hR] at h
  exact h
 clear hR
 have hd12:decide ((12:Int)<((Tk.lenOf s.data.toList:Nat):Int))=false:=by simp; omega
 go_enter Tryz.func163,Tryz.ntmps163
 go_wp2_with fail
 refine Calls.mono HA.out ?_
 rintro e w1 ⟨rfl,rfl⟩
 go_wp2_with fail
 go_ret
 exact ⟨rfl,rfl⟩
theorem refTok_long2 (s:ByteArray) (w:World) (h0:s.toList.isEmpty=false) (hs:s.size≤5000) (hpos:0<s.size) (g2:((Tk.lenOf s.data.toList:Int)==(s.size:Int))=true) (hl:12<Tk.lenOf s.data.toList) (hR:refKind s.data.toList=2) :
 Calls Tryz.prog 163 #[.int .i64 2,.string s] w fun e w'=>e=.returned (.bool false)∧w'=w:=by
 have hd5:decide ((5000:Int)<(s.size:Int))=false:=by simp; omega
 have HA:Hid (Calls Tryz.prog 203 #[.string s,.int .i64 0] w fun e w'=>e=.returned (.tuple #[.int .i64 2,.int .i64 (Tk.lenOf s.data.toList:Nat)])∧w'=w):=by
  have h:=refAt_any s 0 w (by omega) hpos
  rw [List.drop_zero,hR] at h
  exact h
 clear hR
 have hd12:decide ((12:Int)<((Tk.lenOf s.data.toList:Nat):Int))=true:=by simp; omega
 go_enter Tryz.func163,Tryz.ntmps163
 go_wp2_with fail
 refine Calls.mono HA.out ?_
 rintro e w1 ⟨rfl,rfl⟩
 go_wp2_with fail
 go_ret
 exact ⟨rfl,rfl⟩
theorem refTok_yes2 (s:ByteArray) (w:World) (h0:s.toList.isEmpty=false) (hs:s.size≤5000) (hpos:0<s.size) (g2:((Tk.lenOf s.data.toList:Int)==(s.size:Int))=true) (hl:Tk.lenOf s.data.toList≤12) (hR:refKind s.data.toList=2) :
 Calls Tryz.prog 163 #[.int .i64 2,.string s] w fun e w'=>e=.returned (.bool true)∧w'=w:=by
 have hd5:decide ((5000:Int)<(s.size:Int))=false:=by simp; omega
 have HA:Hid (Calls Tryz.prog 203 #[.string s,.int .i64 0] w fun e w'=>e=.returned (.tuple #[.int .i64 2,.int .i64 (Tk.lenOf s.data.toList:Nat)])∧w'=w):=by
  have h:=refAt_any s 0 w (by omega) hpos
  rw [List.drop_zero,hR] at h
  exact h
 clear hR
 have hd12:decide ((12:Int)<((Tk.lenOf s.data.toList:Nat):Int))=false:=by simp; omega
 go_enter Tryz.func163,Tryz.ntmps163
 go_wp2_with fail
 refine Calls.mono HA.out ?_
 rintro e w1 ⟨rfl,rfl⟩
 go_wp2_with fail
 go_ret
 exact ⟨rfl,rfl⟩
theorem refTok_long3 (s:ByteArray) (w:World) (h0:s.toList.isEmpty=false) (hs:s.size≤5000) (hpos:0<s.size) (g2:((Tk.lenOf s.data.toList:Int)==(s.size:Int))=true) (hl:7<Tk.lenOf s.data.toList) (hR:refKind s.data.toList=3) :
 Calls Tryz.prog 163 #[.int .i64 3,.string s] w fun e w'=>e=.returned (.bool false)∧w'=w:=by
 have hd5:decide ((5000:Int)<(s.size:Int))=false:=by simp; omega
 have HA:Hid (Calls Tryz.prog 203 #[.string s,.int .i64 0] w fun e w'=>e=.returned (.tuple #[.int .i64 3,.int .i64 (Tk.lenOf s.data.toList:Nat)])∧w'=w):=by
  have h:=refAt_any s 0 w (by omega) hpos
  rw [List.drop_zero,hR] at h
  exact h
 clear hR
 have hd7:decide ((7:Int)<((Tk.lenOf s.data.toList:Nat):Int))=true:=by simp; omega
 go_enter Tryz.func163,Tryz.ntmps163
 go_wp2_with fail
 refine Calls.mono HA.out ?_
 rintro e w1 ⟨rfl,rfl⟩
 go_wp2_with fail
 go_ret
 exact ⟨rfl,rfl⟩
theorem refTok_form3 (s:ByteArray) (w:World) (h0:s.toList.isEmpty=false) (hs:s.size≤5000) (hpos:0<s.size) (g2:((Tk.lenOf s.data.toList:Int)==(s.size:Int))=true) (hl:Tk.lenOf s.data.toList≤7) (hl1:1<Tk.lenOf s.data.toList) (h48:((s[0].toNat:Int)==48)=true) (hR:refKind s.data.toList=3) :
 Calls Tryz.prog 163 #[.int .i64 3,.string s] w fun e w'=>e=.returned (.bool false)∧w'=w:=by
 have hd5:decide ((5000:Int)<(s.size:Int))=false:=by simp; omega
 have HA:Hid (Calls Tryz.prog 203 #[.string s,.int .i64 0] w fun e w'=>e=.returned (.tuple #[.int .i64 3,.int .i64 (Tk.lenOf s.data.toList:Nat)])∧w'=w):=by
  have h:=refAt_any s 0 w (by omega) hpos
  rw [List.drop_zero,hR] at h
  exact h
 clear hR
 have hd7:decide ((7:Int)<((Tk.lenOf s.data.toList:Nat):Int))=false:=by simp; omega
 have hd1:decide ((1:Int)<((Tk.lenOf s.data.toList:Nat):Int))=true:=by simp; omega
 go_enter Tryz.func163,Tryz.ntmps163
 go_wp2_with fail
 refine Calls.mono HA.out ?_
 rintro e w1 ⟨rfl,rfl⟩
 go_wp2_with fail
 go_ret
 exact ⟨rfl,rfl⟩
theorem refTok_yes3a (s:ByteArray) (w:World) (h0:s.toList.isEmpty=false) (hs:s.size≤5000) (hpos:0<s.size) (g2:((Tk.lenOf s.data.toList:Int)==(s.size:Int))=true) (hl1:Tk.lenOf s.data.toList≤1) (hR:refKind s.data.toList=3) :
 Calls Tryz.prog 163 #[.int .i64 3,.string s] w fun e w'=>e=.returned (.bool true)∧w'=w:=by
 have hd5:decide ((5000:Int)<(s.size:Int))=false:=by simp; omega
 have HA:Hid (Calls Tryz.prog 203 #[.string s,.int .i64 0] w fun e w'=>e=.returned (.tuple #[.int .i64 3,.int .i64 (Tk.lenOf s.data.toList:Nat)])∧w'=w):=by
  have h:=refAt_any s 0 w (by omega) hpos
  rw [List.drop_zero,hR] at h
  exact h
 clear hR
 have hd7:decide ((7:Int)<((Tk.lenOf s.data.toList:Nat):Int))=false:=by simp; omega
 have hd1:decide ((1:Int)<((Tk.lenOf s.data.toList:Nat):Int))=false:=by simp; omega
 go_enter Tryz.func163,Tryz.ntmps163
 go_wp2_with fail
 refine Calls.mono HA.out ?_
 rintro e w1 ⟨rfl,rfl⟩
 go_wp2_with fail
 go_ret
 exact ⟨rfl,rfl⟩
theorem refTok_yes3b (s:ByteArray) (w:World) (h0:s.toList.isEmpty=false) (hs:s.size≤5000) (hpos:0<s.size) (g2:((Tk.lenOf s.data.toList:Int)==(s.size:Int))=true) (hl:Tk.lenOf s.data.toList≤7) (hl1:1<Tk.lenOf s.data.toList) (h48:((s[0].toNat:Int)==48)=false) (hR:refKind s.data.toList=3) :
 Calls Tryz.prog 163 #[.int .i64 3,.string s] w fun e w'=>e=.returned (.bool true)∧w'=w:=by
 have hd5:decide ((5000:Int)<(s.size:Int))=false:=by simp; omega
 have HA:Hid (Calls Tryz.prog 203 #[.string s,.int .i64 0] w fun e w'=>e=.returned (.tuple #[.int .i64 3,.int .i64 (Tk.lenOf s.data.toList:Nat)])∧w'=w):=by
  have h:=refAt_any s 0 w (by omega) hpos
  rw [List.drop_zero,hR] at h
  exact h
 clear hR
 have hd7:decide ((7:Int)<((Tk.lenOf s.data.toList:Nat):Int))=false:=by simp; omega
 have hd1:decide ((1:Int)<((Tk.lenOf s.data.toList:Nat):Int))=true:=by simp; omega
 go_enter Tryz.func163,Tryz.ntmps163
 go_wp2_with fail
 refine Calls.mono HA.out ?_
 rintro e w1 ⟨rfl,rfl⟩
 go_wp2_with fail
 go_ret
 exact ⟨rfl,rfl⟩
theorem refTok_yes4 (s:ByteArray) (w:World) (h0:s.toList.isEmpty=false) (hs:s.size≤5000) (hpos:0<s.size) (g2:((Tk.lenOf s.data.toList:Int)==(s.size:Int))=true) (hR:refKind s.data.toList=4) :
 Calls Tryz.prog 163 #[.int .i64 4,.string s] w fun e w'=>e=.returned (.bool true)∧w'=w:=by
 have hd5:decide ((5000:Int)<(s.size:Int))=false:=by simp; omega
 have HA:Hid (Calls Tryz.prog 203 #[.string s,.int .i64 0] w fun e w'=>e=.returned (.tuple #[.int .i64 4,.int .i64 (Tk.lenOf s.data.toList:Nat)])∧w'=w):=by
  have h:=refAt_any s 0 w (by omega) hpos
  rw [List.drop_zero,hR] at h
  exact h
 clear hR
 go_enter Tryz.func163,Tryz.ntmps163
 go_wp2_with fail
 refine Calls.mono HA.out ?_
 rintro e w1 ⟨rfl,rfl⟩
 go_wp2_with fail
 go_ret
 exact ⟨rfl,rfl⟩
theorem refTok_any (k:Int) (s:ByteArray) (w:World):Calls Tryz.prog 163 #[.int .i64 k,.string s] w fun e w'=>e=.returned (.bool (Tk.isTok k s.data.toList))∧w'=w:=by
 have hsz:s.data.toList.length=s.size:=by simp
 by_cases hpos:0<s.size
 · have hd:=drop_at s 0 hpos
   rw [List.drop_zero] at hd
   have h0:s.toList.isEmpty=false:=by rw [Lib.toList_data,hd]; rfl
   by_cases h5:5000<s.size
   · have hV:Tk.isTok k s.data.toList=false:=decide_eq_false (fun h=>by omega)
     rw [hV]
     exact refTok_long k s w h0 h5
   · have TC:=tok_cases s[0] (s.data.toList.drop (0+1))
     rw [← hd] at TC
     by_cases hk0:k=0
     · subst hk0
       have hV:Tk.isTok 0 s.data.toList=false:=decide_eq_false (fun h=>by
        obtain ⟨_,_,h3,h4,_⟩:=h
        rcases TC with ⟨c1,cE⟩ | ⟨c1,cK,c3,cE⟩ | ⟨c1,cK,c3,cE⟩ | ⟨c1,cK,c3,cE⟩ | ⟨c1,cK,c3,c4,c5,cE⟩ | ⟨c1,cK,c3,cE⟩ | ⟨c1,cK,c3,c4,c5,cE⟩ | ⟨c1,cK,cE⟩ <;> omega)
       rw [hV]
       exact refTok_zero s w h0 (by omega)
     · have hkb:(k==0)=false:=beq_eq_false_iff_ne.2 hk0
       have hRK:1≤Tk.lenOf s.data.toList→refKind s.data.toList=Tk.kindOf s.data.toList:=fun h=>by unfold refKind; rw [if_neg (by omega)]
       have hne:s.data.toList≠[]:=by rw [hd]; simp
       by_cases hl0:Tk.lenOf s.data.toList=0
       · have hV:Tk.isTok k s.data.toList=false:=decide_eq_false (fun h=>by omega)
         rw [hV]
         exact refTok_off s w h0 (by omega) hpos k 0 hkb (beq_eq_false_iff_ne.2 (fun e=>hk0 e.symm)) (by unfold refKind; rw [if_pos hl0])
       · have hR:=hRK (by omega)
         by_cases hK:Tk.kindOf s.data.toList=k
         · by_cases hn:Tk.lenOf s.data.toList=s.size
           · have g2:((Tk.lenOf s.data.toList:Int)==(s.size:Int))=true:=beq_iff_eq.2 (by omega)
             subst hK
             have yes:Tk.errOf s.data.toList=0→Tk.isTok (Tk.kindOf s.data.toList) s.data.toList=true:=fun he=>decide_eq_true ⟨hne,by omega,he,rfl,by omega⟩
             have no:¬ Tk.errOf s.data.toList=0→Tk.isTok (Tk.kindOf s.data.toList) s.data.toList=false:=fun he=>decide_eq_false (fun h=>he h.2.2.1)
             rcases TC with ⟨c1,cE⟩ | ⟨c1,cK,c3,cE⟩ | ⟨c1,cK,c3,cE⟩ | ⟨c1,cK,c3,cE⟩ | ⟨c1,cK,c3,c4,c5,cE⟩ | ⟨c1,cK,c3,cE⟩ | ⟨c1,cK,c3,c4,c5,cE⟩ | ⟨c1,cK,cE⟩
             · exact absurd c1 hl0
             · rw [no (by omega)]
               rcases cK with cK | cK
               · rw [cK] at hR ⊢; exact refTok_long1 s w h0 (by omega) hpos g2 c3 hR
               · rw [cK] at hR ⊢; exact refTok_long2 s w h0 (by omega) hpos g2 c3 hR
             · rw [yes cE]
               rcases cK with cK | cK
               · rw [cK] at hR ⊢; exact refTok_yes1 s w h0 (by omega) hpos g2 c3 hR
               · rw [cK] at hR ⊢; exact refTok_yes2 s w h0 (by omega) hpos g2 c3 hR
             · rw [no (by omega),cK]; rw [cK] at hR; exact refTok_long3 s w h0 (by omega) hpos g2 c3 hR
             · rw [no (by omega),cK]; rw [cK] at hR; exact refTok_form3 s w h0 (by omega) hpos g2 c4 c3 (beq_iff_eq.2 c5) hR
             · rw [yes cE,cK]; rw [cK] at hR; exact refTok_yes3a s w h0 (by omega) hpos g2 c3 hR
             · rw [yes cE,cK]; rw [cK] at hR; exact refTok_yes3b s w h0 (by omega) hpos g2 c4 c3 (beq_eq_false_iff_ne.2 c5) hR
             · rw [yes cE,cK]; rw [cK] at hR; exact refTok_yes4 s w h0 (by omega) hpos g2 hR
           · have hV:Tk.isTok k s.data.toList=false:=decide_eq_false (fun h=>by omega)
             rw [hV]
             exact refTok_part s w h0 (by omega) hpos k _ hkb (beq_iff_eq.2 hK) (beq_eq_false_iff_ne.2 (by omega)) hR
         · have hV:Tk.isTok k s.data.toList=false:=decide_eq_false (fun h=>hK h.2.2.2.1)
           rw [hV]
           exact refTok_off s w h0 (by omega) hpos k _ hkb (beq_eq_false_iff_ne.2 hK) hR
 · have hz:s.data.toList=[]:=List.eq_nil_of_length_eq_zero (by omega)
   have hse:s=⟨#[]⟩:=by
    apply ByteArray.ext
    exact Array.eq_empty_of_size_eq_zero (by show s.size=0; omega)
   rw [hz,hse]
   exact refTok_empty k w
theorem isTok_at (k:Int) (s:List UInt8) (w:World):Calls Tryz.prog 163 #[.int .i64 k,.string ⟨s.toArray⟩] w fun e w'=>e=.returned (.bool (Tk.isTok k s))∧w'=w:=by
 have h:=refTok_any k ⟨s.toArray⟩ w
 rw [List.toList_toArray] at h
 exact h
theorem word_eq (s:List UInt8):Tr.isWord s=((s==[110,111,116]) || (s==[99,111,117,110,116]) || (s==[115,117,109]) || (s==[108,101,97,115,116]) || (s==[109,111,115,116])):=by
 unfold Tr.isWord Tr.foldOf
 cases h1:(s==[99,111,117,110,116])
 · cases h2:(s==[115,117,109])
   · cases h3:(s==[108,101,97,115,116])
     · cases h4:(s==[109,111,115,116]) <;> simp
     · simp
   · simp
 · simp
theorem refWord_any (s:List UInt8) (w:World):Calls Tryz.prog 164 #[.string ⟨s.toArray⟩] w fun e w'=>e=.returned (.bool (Tr.isWord s))∧w'=w:=by
 rw [word_eq]
 cases h0:(s==[110,111,116])
 · cases h1:(s==[99,111,117,110,116])
   · cases h2:(s==[115,117,109])
     · cases h3:(s==[108,101,97,115,116])
       · go_enter Tryz.func164,Tryz.ntmps164
         go_wp2
         go_ret
         exact ⟨rfl,rfl⟩
       · go_enter Tryz.func164,Tryz.ntmps164
         go_wp2
         go_ret
         exact ⟨rfl,rfl⟩
     · go_enter Tryz.func164,Tryz.ntmps164
       go_wp2
       go_ret
       exact ⟨rfl,rfl⟩
   · go_enter Tryz.func164,Tryz.ntmps164
     go_wp2
     go_ret
     exact ⟨rfl,rfl⟩
 · go_enter Tryz.func164,Tryz.ntmps164
   go_wp2
   go_ret
   exact ⟨rfl,rfl⟩
theorem refName_any (s:List UInt8) (w:World):Calls Tryz.prog 110 #[.string ⟨s.toArray⟩] w fun e w'=>e=.returned (.bool (Tr.isName s))∧w'=w:=by
 unfold Tr.isName
 cases h1:Tk.isTok 1 s
 · go_enter Tryz.func110,Tryz.ntmps110
   go_wp2_with (go_at_call 163; refine (isTok_at _ _ _).mono ?_; rintro e w' ⟨rfl,rfl⟩)
   go_ret
   exact ⟨rfl,rfl⟩
 · go_enter Tryz.func110,Tryz.ntmps110
   go_wp2_with (first | (go_at_call 163; refine (isTok_at _ _ _).mono ?_; rintro e w' ⟨rfl,rfl⟩) | (go_at_call 164; refine (refWord_any _ _).mono ?_; rintro e w' ⟨rfl,rfl⟩))
   go_ret
   exact ⟨rfl,rfl⟩
structure PB (w:World) (o:Obj) (wr:World):Prop where
 bel:Below w.heap.size w wr
 box:wr.heap[w.heap.size]?=some o
theorem PB.below {w wr w2:World} {o:Obj} (h:PB w o wr) (hb:Below wr.heap.size wr w2):PB w o w2 :=
 ⟨h.bel.trans (hb.mono h.bel.size),(hb.block _ (heap_lt h.box)).trans h.box⟩
theorem PB.start (w:World) (o:Obj):PB w o (w.alloc o):=⟨(Below.refl _ _).alloc (Nat.le_refl _) _,heap_alloc_new w o⟩
theorem PB.drew {w wr:World} {o:Obj} (h:PB w o wr):PB w o wr.drew:=⟨h.bel.drew,h.box⟩
theorem contains_drop (l:List (List UInt8)) (s:List UInt8) (k:Nat) (h:k<l.length):(l.drop k).contains s=((Sc.strD l k==s) || (l.drop (k+1)).contains s):=by
 rw [List.drop_eq_getElem_cons h,List.contains_cons]
 have:Sc.strD l k=l[k]:=by simp [Sc.strD,List.getD_eq_getElem?_getD,h]
 rw [this,Bool.beq_comm]
theorem strD_take (ns:List (List UInt8)) (j m:Nat) (h:m<j):Sc.strD (ns.take j) m=Sc.strD ns m:=by
 simp [Sc.strD,List.getD_eq_getElem?_getD,h]
theorem CheckProgram_any (p:Sc.Prog) (va vn vr:Value) (w:World) (hP:ProgV w va vn vr p) (hF:ProgFit p) :
 Calls Tryz.prog 59 #[progVal va vn vr] w fun e w'=>e=.returned (.int .i64 (Sc.check p))∧Below w.heap.size w w':=by
 obtain ⟨ar,ns,rs⟩:=p
 obtain ⟨hA,hN,hL⟩:=hP
 have HA:Hid (IntsV w va ar):=hA
 obtain ⟨ao,cap,rfl,hA⟩:=hA
 obtain ⟨an,cn,rfl,hN⟩:=hN
 obtain ⟨al,cl,rfl,hL⟩:=hL
 have hA:IntsAt w ao ar:=hA
 have hN:StrsAt w an ns:=hN
 have hL:PRulesAt w al rs:=hL
 have HFR:Hid (∀ i,i<rs.length→RuleFit (Sc.ruleD rs i)):=hF.rs
 clear hF
 have hst:=PB.start w (.cells #[.slice ao ar.length cap,.slice an ns.length cn,.slice al rs.length cl] 26)
 have HE0:Hid (Sc.check ⟨ar,ns,rs⟩=if 10<ar.length∨12<rs.length then 2 else if ¬ ns.length=ar.length then 1 else Sc.thn (Sc.first (Sc.predErr ar ns) (List.range ns.length)) (Sc.first (Sc.ruleErr ar) rs)):=rfl
 by_cases h1:10<ar.length
 · have HV:Hid (Sc.check ⟨ar,ns,rs⟩=2):=by show _=_; rw [HE0.out,if_pos (.inl h1)]
   have g1:decide (10<ar.length)=true:=decide_eq_true h1
   have g1':decide ((10:Int)<(ar.length:Int))=true:=decide_eq_true (by omega)
   clear HE0 hA hN hL
   go_enter Tryz.func59,Tryz.ntmps59
   go_wp2_with fail
   go_ret
   exact ⟨by rw [HV.out]; rfl,hst.bel⟩
 have g1:decide (10<ar.length)=false:=decide_eq_false h1
 have g1':decide ((10:Int)<(ar.length:Int))=false:=decide_eq_false (by omega)
 by_cases h2:12<rs.length
 · have HV:Hid (Sc.check ⟨ar,ns,rs⟩=2):=by show _=_; rw [HE0.out,if_pos (.inr h2)]
   have g2:decide (12<rs.length)=true:=decide_eq_true h2
   have g2':decide ((12:Int)<(rs.length:Int))=true:=decide_eq_true (by omega)
   clear HE0 hA hN hL
   go_enter Tryz.func59,Tryz.ntmps59
   go_wp2_with fail
   go_ret
   exact ⟨by rw [HV.out]; rfl,hst.bel⟩
 have g2:decide (12<rs.length)=false:=decide_eq_false h2
 have g2':decide ((12:Int)<(rs.length:Int))=false:=decide_eq_false (by omega)
 rw [if_neg (fun h=>h.elim h1 h2)] at HE0
 by_cases h3:ns.length=ar.length
 rotate_left
 · have HV:Hid (Sc.check ⟨ar,ns,rs⟩=1):=by show _=_; rw [HE0.out,if_pos h3]
   have g3:((ns.length:Int) != (ar.length:Int))=true:=by simp; omega
   have g3':(ns.length != ar.length)=true:=by simp; omega
   clear HE0 hA hN hL
   go_enter Tryz.func59,Tryz.ntmps59
   go_wp2_with fail
   go_ret
   exact ⟨by rw [HV.out]; rfl,hst.bel⟩
 rw [if_neg (fun h=>h h3)] at HE0
 have H3:Hid (ns.length=ar.length):=h3
 have g3:((ns.length:Int) != (ar.length:Int))=false:=by simp; omega
 have g3':(ns.length != ar.length)=false:=by simp; omega
 have h10:ns.length≤10:=by omega
 clear h3
 go_enter Tryz.func59,Tryz.ntmps59
 go_wp2_with fail
 go_loopw [3] (fun i wr=>∃ j:Nat,j≤ns.length∧i=.int .i64 j∧PB w (.cells #[.slice ao ar.length cap,.slice an ns.length cn,.slice al rs.length cl] 26) wr∧Sc.first (Sc.predErr ar ns) (List.range ns.length)=Sc.first (Sc.predErr ar ns) ((List.range ns.length).drop j)) (fun i _=>ns.length - (intOf i).toNat)
 case atStart=>exact ⟨0,Nat.zero_le _,rfl,hst,rfl⟩
 case round =>
  clear hst
  obtain ⟨j,hj,rfl,hR,hfj⟩:=hrel
  have HFJ:Hid _:=hfj
  clear hfj
  have c0:wr.cell? ⟨w.heap.size,0,none⟩=some (.slice ao ar.length cap):=by rw [Lib.cell_of_heap hR.box]; rfl
  have c1:wr.cell? ⟨w.heap.size,1,none⟩=some (.slice an ns.length cn):=by rw [Lib.cell_of_heap hR.box]; rfl
  by_cases hjl:j<ns.length
  · obtain ⟨b,off,rfl,p0⟩:=strs_at hN j hjl
    have hja:j<ar.length:=by rw [← H3.out]; exact hjl
    obtain ⟨b2,off2,rfl,p1⟩:=ints_at hA j hja
    have q0:=cell_below hR.bel p0
    have q1:=cell_below hR.bel p1
    have HNC:Hid (∀ y m,Below w.heap.size w y→m<ns.length→y.cell? ⟨b,off+m,none⟩=some (.string ⟨(Sc.strD ns m).toArray⟩)):=by
     intro y m hy hm
     obtain ⟨b',off',e,hc⟩:=strs_at hN m hm
     obtain ⟨rfl,rfl⟩:b=b'∧off=off':=by simpa using e
     exact cell_below hy hc
    have HFD:Hid (Sc.first (Sc.predErr ar ns) (List.range ns.length)=Sc.thn (Sc.predErr ar ns j) (Sc.first (Sc.predErr ar ns) ((List.range ns.length).drop (j+1)))):=HFJ.out.trans (pred_drop ar ns j hjl)
    have HPE:Hid (Sc.predErr ar ns j=Sc.thn (if Tr.between (Sc.intD ar j) 0 3 then 0 else 3) (Sc.thn (if Tr.isName (Sc.strD ns j) then 0 else 1) (if (ns.take j).contains (Sc.strD ns j) then 6 else 0))):=rfl
    clear p0 p1 hA hN hL HFJ
    generalize Sc.intD ar j=a at *
    generalize hs:Sc.strD ns j=s at *
    have HSJ:Hid _:=hs
    clear hs
    go_wp2_with fail
    refine (btw_any _ _ _ _).mono ?_
    rintro e w2 ⟨he,rfl⟩
    cases g4:Tr.between a 0 3
    · rw [g4] at he
      subst he
      have HV:Hid (Sc.check ⟨ar,ns,rs⟩=3):=by show _=_; rw [HE0.out,HFD.out,HPE.out,g4]; rfl
      clear HE0 HFD HPE
      go_wp2_with fail
      go_ret
      exact ⟨by rw [HV.out]; rfl,hR.bel⟩
    rw [g4] at he
    subst he
    rw [g4,if_pos rfl,Sc.thn_zero] at HPE
    go_wp2_with fail
    refine (refName_any s _).mono ?_
    rintro e w3 ⟨he,rfl⟩
    cases h5:Tr.isName s
    · rw [h5] at he
      subst he
      have HV:Hid (Sc.check ⟨ar,ns,rs⟩=1):=by show _=_; rw [HE0.out,HFD.out,HPE.out,h5]; rfl
      clear HE0 HFD HPE
      go_wp2_with fail
      go_ret
      exact ⟨by rw [HV.out]; rfl,hR.bel⟩
    rw [h5] at he
    subst he
    rw [h5,if_pos rfl,Sc.thn_zero] at HPE
    clear c0 c1 q0 q1 g4 h5
    go_wp2_with fail
    go_loopw [4] (fun i wq=>∃ m:Nat,m≤j∧i=.int .i64 m∧PB w (.cells #[.slice (some ⟨b2,off2,none⟩) ar.length cap,.slice (some ⟨b,off,none⟩) ns.length cn,.slice al rs.length cl] 26) wq∧(ns.take j).contains s=((ns.take j).drop m).contains s) (fun i _=>j - (intOf i).toNat)
    case atStart=>exact ⟨0,Nat.zero_le _,rfl,hR,rfl⟩
    case round =>
     clear hR
     obtain ⟨m,hm,rfl,hR,hct⟩:=hrel
     have HCT:Hid _:=hct
     clear hct
     have c1:wr.cell? ⟨w.heap.size,1,none⟩=some (.slice (some ⟨b,off,none⟩) ns.length cn):=by rw [Lib.cell_of_heap hR.box]; rfl
     by_cases hml:m<j
     · have q0:=HNC.out _ m hR.bel (by omega)
       have q1:=HNC.out _ j hR.bel hjl
       rw [HSJ.out] at q1
       have hlt2:m<(ns.take j).length:=by rw [List.length_take]; omega
       have HCD:Hid ((ns.take j).contains s=((Sc.strD ns m==s) || ((ns.take j).drop (m+1)).contains s)):=by
        show _=_
        rw [HCT.out,contains_drop _ _ m hlt2,strD_take ns j m hml]
       clear HCT hlt2
       have hml2:m<ns.length:=by omega
       go_upto_region 15 with fail
       cases g6:(Sc.strD ns m==s)
       · have HV:Hid ((ns.take j).contains s=((ns.take j).drop (m+1)).contains s):=by show _=_; rw [HCD.out,g6]; rfl
         clear HCD
         go_region_held3 (fun y=>y.cell? ⟨w.heap.size,1,none⟩=some (.slice (some ⟨b,off,none⟩) ns.length cn)∧y.cell? ⟨b,off+m,none⟩=some (.string ⟨(Sc.strD ns m).toArray⟩)∧y.cell? ⟨b,off+j,none⟩=some (.string ⟨s.toArray⟩)) (go_keep) (fail)
         have hRd:=hR.drew
         go_wp2_with fail
         go_roundw
         case rel=>exact ⟨m+1,by omega,by go_num,hRd,HV.out⟩
         case measure=>simp [intOf]; omega
       · have HV:Hid (Sc.check ⟨ar,ns,rs⟩=6):=by show _=_; rw [HE0.out,HFD.out,HPE.out,HCD.out,g6]; rfl
         clear HCD HE0 HFD HPE
         go_region_held3 (fun y=>y.cell? ⟨w.heap.size,1,none⟩=some (.slice (some ⟨b,off,none⟩) ns.length cn)∧y.cell? ⟨b,off+m,none⟩=some (.string ⟨(Sc.strD ns m).toArray⟩)∧y.cell? ⟨b,off+j,none⟩=some (.string ⟨s.toArray⟩)) (go_keep) (fail)
         have hRd:=hR.drew.bel
         go_wp2_with fail
         go_ret
         exact ⟨by rw [HV.out]; rfl,hRd⟩
     · have hz:(ns.take j).contains s=false:=by rw [HCT.out,List.drop_of_length_le (by rw [List.length_take]; omega)]; rfl
       have HV:Hid (Sc.first (Sc.predErr ar ns) (List.range ns.length)=Sc.first (Sc.predErr ar ns) ((List.range ns.length).drop (j+1))):=by show _=_; rw [HFD.out,HPE.out,hz]; rfl
       clear HFD HPE HCT hz
       go_wp2_with fail
       go_roundw
       case rel=>exact ⟨j+1,by omega,by go_num,hR,HV.out⟩
       case measure=>simp [intOf]; omega
  · have hz:Sc.first (Sc.predErr ar ns) (List.range ns.length)=0:=by rw [HFJ.out,List.drop_of_length_le (by simp; omega)]; rfl
    rw [hz,Sc.thn_zero] at HE0
    have har:ar.length≤9223372036854775807:=by omega
    clear HFJ hz hA hN
    go_wp2_with fail
    go_loopw [5] (fun i wr=>∃ j:Nat,j≤rs.length∧i=.int .i64 j∧PB w (.cells #[.slice ao ar.length cap,.slice an ns.length cn,.slice al rs.length cl] 26) wr∧Sc.first (Sc.ruleErr ar) rs=Sc.first (Sc.ruleErr ar) (rs.drop j)) (fun i _=>rs.length - (intOf i).toNat)
    case atStart=>exact ⟨0,Nat.zero_le _,rfl,hR,rfl⟩
    case round =>
     clear hR c0 c1
     obtain ⟨j,hj,rfl,hR,hfj⟩:=hrel
     have HFJ:Hid _:=hfj
     clear hfj
     have c0:wr.cell? ⟨w.heap.size,0,none⟩=some (.slice ao ar.length cap):=by rw [Lib.cell_of_heap hR.box]; rfl
     have c1:wr.cell? ⟨w.heap.size,1,none⟩=some (.slice an ns.length cn):=by rw [Lib.cell_of_heap hR.box]; rfl
     have c2:wr.cell? ⟨w.heap.size,2,none⟩=some (.slice al rs.length cl):=by rw [Lib.cell_of_heap hR.box]; rfl
     by_cases hjl:j<rs.length
     · obtain ⟨b,off,rfl,p0,⟨vt,p1,hT⟩,p2,⟨vb,p3,hB⟩,p4⟩:=prules_at hL j hjl
       have HT:Hid (PTermsV w vt (Sc.ruleD rs j).terms):=hT
       have HB:Hid (PLitsV w vb (Sc.ruleD rs j).body):=hB
       obtain ⟨at_,ct,rfl,_,_⟩:=hT
       obtain ⟨ab,cb,rfl,_⟩:=hB
       have q0:=cell_below hR.bel p0
       have q1:=cell_below hR.bel p1
       have q2:=cell_below hR.bel p2
       have q3:=cell_below hR.bel p3
       have q4:=cell_below hR.bel p4
       have HFD:Hid (Sc.first (Sc.ruleErr ar) rs=Sc.thn (Sc.ruleErr ar (Sc.ruleD rs j)) (Sc.first (Sc.ruleErr ar) (rs.drop (j+1)))):=HFJ.out.trans (Sc.first_drop _ _ _ j hjl)
       have HFI:Hid (RuleFit (Sc.ruleD rs j)):=HFR.out j hjl
       clear p0 p1 p2 p3 p4 HFJ hL
       generalize hx:Sc.ruleD rs j=x at *
       clear hx
       have HRU:Hid (∀ y,(PB w (.cells #[.slice ao ar.length cap,.slice an ns.length cn,.slice (some ⟨b,off,none⟩) rs.length cl] 26) y∧y.cell? ⟨w.heap.size,0,none⟩=some (.slice ao ar.length cap)∧y.cell? ⟨w.heap.size,1,none⟩=some (.slice an ns.length cn)∧y.cell? ⟨w.heap.size,2,none⟩=some (.slice (some ⟨b,off,none⟩) rs.length cl)∧y.cell? ⟨b,off+j * 5,none⟩=some (.int .i64 x.pred)∧y.cell? ⟨b,off+j * 5+1,none⟩=some (.slice at_ x.terms.length ct)∧y.cell? ⟨b,off+j * 5+2,none⟩=some (.int .i64 x.fold)∧y.cell? ⟨b,off+j * 5+3,none⟩=some (.slice ab x.body.length cb)∧y.cell? ⟨b,off+j * 5+4,none⟩=some (.int .i64 x.vars))→Calls Tryz.prog 111 #[progVal (.slice ao ar.length cap) (.slice an ns.length cn) (.slice (some ⟨b,off,none⟩) rs.length cl),pruleVal x (.slice at_ x.terms.length ct) (.slice ab x.body.length cb)] y fun e w'=>e=.returned (.int .i64 (Sc.ruleErr ar x))∧(PB w (.cells #[.slice ao ar.length cap,.slice an ns.length cn,.slice (some ⟨b,off,none⟩) rs.length cl] 26) w'∧w'.cell? ⟨w.heap.size,0,none⟩=some (.slice ao ar.length cap)∧w'.cell? ⟨w.heap.size,1,none⟩=some (.slice an ns.length cn)∧w'.cell? ⟨w.heap.size,2,none⟩=some (.slice (some ⟨b,off,none⟩) rs.length cl)∧w'.cell? ⟨b,off+j * 5,none⟩=some (.int .i64 x.pred)∧w'.cell? ⟨b,off+j * 5+1,none⟩=some (.slice at_ x.terms.length ct)∧w'.cell? ⟨b,off+j * 5+2,none⟩=some (.int .i64 x.fold)∧w'.cell? ⟨b,off+j * 5+3,none⟩=some (.slice ab x.body.length cb)∧w'.cell? ⟨b,off+j * 5+4,none⟩=some (.int .i64 x.vars))):=by
        rintro y ⟨hPB,k0,k1,k2,k3,k4,k5,k6,k7⟩
        refine Calls.mono (rpRule_any ar _ _ _ x _ _ y har (intsV_below HA.out hPB.bel) (ptermsV_below HT.out hPB.bel) (plitsV_below HB.out hPB.bel) HFI.out) ?_
        rintro e w' ⟨rfl,hb⟩
        exact ⟨rfl,hPB.below hb,cell_below hb k0,cell_below hb k1,cell_below hb k2,cell_below hb k3,cell_below hb k4,cell_below hb k5,cell_below hb k6,cell_below hb k7⟩
       have hRd:=hR.drew
       clear HT HB HFI
       go_upto_region 20 with fail
       go_region_held3 (fun y=>(PB w (.cells #[.slice ao ar.length cap,.slice an ns.length cn,.slice (some ⟨b,off,none⟩) rs.length cl] 26) y∧y.cell? ⟨w.heap.size,0,none⟩=some (.slice ao ar.length cap)∧y.cell? ⟨w.heap.size,1,none⟩=some (.slice an ns.length cn)∧y.cell? ⟨w.heap.size,2,none⟩=some (.slice (some ⟨b,off,none⟩) rs.length cl)∧y.cell? ⟨b,off+j * 5,none⟩=some (.int .i64 x.pred)∧y.cell? ⟨b,off+j * 5+1,none⟩=some (.slice at_ x.terms.length ct)∧y.cell? ⟨b,off+j * 5+2,none⟩=some (.int .i64 x.fold)∧y.cell? ⟨b,off+j * 5+3,none⟩=some (.slice ab x.body.length cb)∧y.cell? ⟨b,off+j * 5+4,none⟩=some (.int .i64 x.vars))) (go_keep) ((go_at_call 111; refine Calls.mono (HRU.out _ ?_) ?_; (simp [*]); rintro e w2 ⟨rfl,h1,h2,h3,h4,h5,h6,h7,h8,h9⟩))
       have hR2:=h1
       clear h2 h3 h4 h5 h6 h7 h8 h9 HRU
       by_cases h9:Sc.ruleErr ar x=0
       rotate_left
       · have HV:Hid (Sc.check ⟨ar,ns,rs⟩=Sc.ruleErr ar x):=by show _=_; rw [HE0.out,HFD.out,Sc.thn_ne _ h9]
         have g9:(Sc.ruleErr ar x != 0)=true:=by simpa using h9
         clear HE0 HFD h9
         go_wp2_with fail
         go_ret
         exact ⟨by rw [HV.out]; rfl,hR2.bel⟩
       have HV:Hid (Sc.first (Sc.ruleErr ar) rs=Sc.first (Sc.ruleErr ar) (rs.drop (j+1))):=by show _=_; rw [HFD.out,h9,Sc.thn_zero]
       rw [h9]
       clear HFD h9
       go_wp2_with fail
       go_roundw
       case rel=>exact ⟨j+1,by omega,by go_num,hR2,HV.out⟩
       case measure=>simp [intOf]; omega
     · have HV:Hid (Sc.check ⟨ar,ns,rs⟩=0):=by show _=_; rw [HE0.out,HFJ.out,List.drop_of_length_le (by omega)]; rfl
       clear HE0 hL
       go_wp2_with fail
       go_ret
       exact ⟨by rw [HV.out]; rfl,hR.bel⟩

abbrev rulObj (r:Tr.Rule) (v u:Value):Obj:=.cells #[.int .i64 r.at_,.string ⟨r.name.toArray⟩,v,.int .i64 r.fold,u] 240
abbrev pruObj (r:Sc.Rule) (v u:Value):Obj:=.cells #[.int .i64 r.pred,v,.int .i64 r.fold,u,.int .i64 r.vars] 40
abbrev pliObj (x:Sc.Lit) (v:Value):Obj:=.cells #[.int .i64 x.kind,.int .i64 x.op,.int .i64 x.pred,v] 49
namespace Ru
def rowD (L:List (List Int)) (i:Nat):List Int:=L.getD i []
end Ru
def NumsAt (w:World) (ao:Option Addr) (L:List (List Int)):Prop :=
 L=[]∨∃ b off,ao=some ⟨b,off,none⟩∧∀ i,i<L.length→∃ u,w.cell? ⟨b,off+i,none⟩=some u∧IntsV w u (Ru.rowD L i)
def NumsV (w:World) (v:Value) (L:List (List Int)):Prop:=∃ ao cap,v=.slice ao L.length cap∧NumsAt w ao L
theorem numsV_below {w w':World} {v:Value} {L:List (List Int)} (h:NumsV w v L) (hb:Below w.heap.size w w'):NumsV w' v L:=by
 obtain ⟨ao,cap,rfl,h⟩:=h
 refine ⟨ao,cap,rfl,?_⟩
 rcases h with h | ⟨b,off,ha,hc⟩
 · exact .inl h
 · refine .inr ⟨b,off,ha,fun i hi=>?_⟩
   obtain ⟨u,h1,h2⟩:=hc i hi
   exact ⟨u,cell_below hb h1,intsV_below h2 hb⟩
theorem nums_at {w:World} {ao:Option Addr} {L:List (List Int)} (h:NumsAt w ao L) {k:Nat} (hk:k<L.length):∃ b off u,ao=some ⟨b,off,none⟩∧w.cell? ⟨b,off+k,none⟩=some u∧IntsV w u (Ru.rowD L k):=by
 rcases h with h | ⟨b,off,ha,hc⟩
 · rw [h] at hk; exact absurd hk (by simp)
 · obtain ⟨u,h1,h2⟩:=hc k hk
   exact ⟨b,off,u,ha,h1,h2⟩
theorem NumsP.toV {B:Nat} {w:World} {v:Value} {q:List (List Int × Value)} {L:List (List Int)} (h:NumsP B w v q) (hq:q.map (·.1)=L):NumsV w v L:=by
 have hl:q.length=L.length:=by rw [← hq,List.length_map]
 obtain ⟨ao,cap,hv⟩:=own_slice h.1
 refine ⟨ao,cap,by rw [hv,hl],?_⟩
 by_cases h0:L=[]
 · exact .inl h0
 · have hpos:0<q.length:=by rw [hl]; exact List.length_pos_iff.mpr h0
   obtain ⟨g,c,y,hv2,_⟩:=nums_cell h hpos
   rw [hv] at hv2
   injection hv2 with e1 e2 e3
   subst e1
   refine .inr ⟨g,0,rfl,fun i hi=>?_⟩
   obtain ⟨g',c',y',hv3,hy,_,hc,ho⟩:=nums_cell h (k:=i) (by omega)
   rw [hv] at hv3
   injection hv3 with e1 e2 e3
   injection e1 with e1
   injection e1 with e1
   subst e1
   refine ⟨y'.2,by rw [Nat.zero_add]; exact hc,?_⟩
   have:Ru.rowD L i=y'.1:=by unfold Ru.rowD; rw [← hq,List.getD_eq_getElem?_getD,List.getElem?_map,hy]; rfl
   rw [this]
   exact own_ints ho
theorem sameInts_q1 (l:List Int) (w:World) (n ca cb ba oa bb ob:Nat) (hmax:n≤9223372036854775807)
 (hA:∀ i,i<n→w.cell? ⟨ba,oa+i,none⟩=some (.int .i64 (Sc.intD l i))) (hB:∀ i,i<n→w.cell? ⟨bb,ob+i,none⟩=some (.int .i64 (Sc.intD l i))) :
 Calls Tryz.prog 25 #[.slice (some ⟨ba,oa,none⟩) n ca,.slice (some ⟨bb,ob,none⟩) n cb] w fun e w'=>e=.returned (.bool true)∧∃ j,w'=w.drewN j:=by
 have hne:((n:Int) != (n:Int))=false:=by simp
 go_enter Tryz.func25,Tryz.ntmps25
 go_wp2_with fail
 go_loopw [5] (fun i wr=>∃ k nq:Nat,k≤n∧i=.int .i64 k∧wr=w.drewN nq) (fun i _=>n - (intOf i).toNat)
 case atStart=>exact ⟨0,0,Nat.zero_le _,rfl,rfl⟩
 case round =>
  obtain ⟨k,nq,hk,rfl,rfl⟩:=hrel
  by_cases hlt:k<n
  · have a0:=hA k hlt; have b0:=hB k hlt
    clear hA hB
    generalize Sc.intD l k=x at *
    go_wp2_with fail
    go_quiet (fail)
    go_wp2_with fail
    go_roundw
    case rel=>exact ⟨k+1,_,by omega,by go_num,rfl⟩
    case measure=>simp [intOf]; omega
  · clear hA hB
    go_wp2_with fail
    go_ret
    exact ⟨rfl,_,rfl⟩
theorem sameInts_q0 (w:World) (a b:Option Addr) (ca cb:Nat):Calls Tryz.prog 25 #[.slice a 0 ca,.slice b 0 cb] w fun e w'=>e=.returned (.bool true)∧∃ j,w'=w.drewN j:=by
 go_enter Tryz.func25,Tryz.ntmps25
 go_wp2_with fail
 refine wp_loop_rounds 1 ?_
 rw [rounds_succ]
 go_wp2_with fail
 go_ret
 exact ⟨rfl,0,rfl⟩
theorem sameInts_q (l:List Int) (w:World) (va vb:Value) (hmax:l.length≤9223372036854775807) (hA:IntsV w va l) (hB:IntsV w vb l) :
 Calls Tryz.prog 25 #[va,vb] w fun e w'=>e=.returned (.bool true)∧∃ j,w'=w.drewN j:=by
 obtain ⟨ao,ca,rfl,hA⟩:=hA
 obtain ⟨bo,cb,rfl,hB⟩:=hB
 rcases hA with rfl | ⟨ba,oa,rfl,hA⟩
 · exact sameInts_q0 w ao bo ca cb
 · rcases hB with rfl | ⟨bb,ob,rfl,hB⟩
   · exact sameInts_q0 w _ bo ca cb
   · exact sameInts_q1 l w l.length ca cb ba oa bb ob hmax hA hB
theorem SameLists_refl (L:List (List Int)) (v u:Value) (w:World) (hV:NumsV w v L) (hU:NumsV w u L) (hl:L.length≤1000000) (hm:∀ i,i<L.length→(Ru.rowD L i).length≤9223372036854775807) :
 Calls Tryz.prog 20 #[v,u] w fun e w'=>e=.returned (.bool true)∧∃ j,w'=w.drewN j:=by
 obtain ⟨ao,cap,rfl,hA⟩:=hV
 obtain ⟨bo,cbp,rfl,hB⟩:=hU
 have HA:Hid _:=hA
 have HB:Hid _:=hB
 have HM:Hid _:=hm
 have g0:((L.length:Int) != (L.length:Int))=false:=by simp
 clear hA hB hm
 go_enter Tryz.func20,Tryz.ntmps20
 go_wp2_with fail
 go_loopw [5] (fun i wr=>∃ k:Nat,k≤L.length∧i=.int .i64 k∧Hid (∃ nq,wr=w.drewN nq)) (fun i _=>L.length - (intOf i).toNat)
 case atStart=>exact ⟨0,Nat.zero_le _,rfl,0,rfl⟩
 case round =>
  obtain ⟨k,hk,rfl,HD⟩:=hrel
  have HBw:Hid (Below w.heap.size w wr):=by obtain ⟨nq,rfl⟩:=HD.out; exact blw_drewN _ _
  by_cases hlt:k<L.length
  · obtain ⟨b,off,x,rfl,c1,h1⟩:=nums_at HA.out hlt
    obtain ⟨b2,off2,y,rfl,c2,h2⟩:=nums_at HB.out hlt
    have HQ:Hid (∀ j,Calls Tryz.prog 25 #[x,y] (wr.drewN j) fun e w'=>e=.returned (.bool true)∧∃ n,w'=(wr.drewN j).drewN n):=fun j=>sameInts_q _ _ _ _ (HM.out k hlt) (intsV_below h1 (HBw.out.trans ((blw_drewN _ _).mono HBw.out.size))) (intsV_below h2 (HBw.out.trans ((blw_drewN _ _).mono HBw.out.size)))
    obtain ⟨ax,cx,rfl,_⟩:=h1
    obtain ⟨ay,cy,rfl,_⟩:=h2
    have d1:=cell_below HBw.out c1
    have d2:=cell_below HBw.out c2
    clear c1 c2
    generalize (Ru.rowD L k).length=n at *
    go_upto_region 6 with fail
    go_quiet (first | (go_at_call 25; exact Calls.quiet_of (HQ.out _)))
    go_wp2_with fail
    go_roundw
    case rel=>exact ⟨k+1,hlt,by go_num,by obtain ⟨nq,rfl⟩:=HD.out; exact ⟨_,World.drewN_drewN _ _ _⟩⟩
    case measure=>simp [intOf]; omega
  · have hdd:decide (k<L.length)=false:=decide_eq_false hlt
    go_wp2_with fail
    go_ret
    exact ⟨rfl,HD.out⟩
def smallQ:Sc.Prog:=⟨[2,2],[[113],[112]],
 [⟨1,[⟨0,0⟩,⟨1,0⟩],0,[⟨1,0,0,[⟨0,0⟩,⟨1,0⟩]⟩],2⟩,
  ⟨1,[⟨0,0⟩,⟨2,0⟩],0,[⟨1,0,1,[⟨0,0⟩,⟨1,0⟩]⟩,⟨1,0,0,[⟨1,0⟩,⟨2,0⟩]⟩],3⟩]⟩
def laidAll (w:World):List Obj→World
 | []=>w
 | o::os=>laidAll (w.alloc o) os
theorem laidAll_below:∀ (os:List Obj) (w:World),Below w.heap.size w (laidAll w os):=by
 intro os
 induction os with
 | nil=>intro w; exact Below.refl _ _
 | cons o os ih =>
  intro w
  have b1:Below w.heap.size w (w.alloc o):=(Below.refl _ _).alloc (Nat.le_refl _) o
  exact b1.trans ((ih (w.alloc o)).mono b1.size)
theorem laidAll_at:∀ (os:List Obj) (w:World) (k:Nat) (o:Obj),os[k]?=some o→(laidAll w os).heap[w.heap.size+k]?=some o:=by
 intro os
 induction os with
 | nil=>intro w k o h; simp at h
 | cons x os ih =>
  intro w k o h
  cases k with
  | zero =>
   have hx:x=o:=by simpa using h
   subst hx
   have hn:=heap_alloc_new w x
   exact ((laidAll_below os (w.alloc x)).block _ (heap_lt hn)).trans hn
  | succ k =>
   have:=ih (w.alloc x) k o (by simpa using h)
   have hs:(w.alloc x).heap.size=w.heap.size+1:=by simp
   rw [hs] at this
   rw [show w.heap.size+(k+1)=w.heap.size+1+k by omega]
   exact this
theorem laidAll_cell (os:List Obj) (w:World) (k:Nat) (c:Array Value) (t:Nat) (i:Nat) (v:Value) (h:os[k]?=some (.cells c t)) (hv:c[i]?=some v) :
 (laidAll w os).cell? ⟨w.heap.size+k,i,none⟩=some v:=by
 rw [Lib.cell_of_heap (laidAll_at os w k _ h)]; exact hv
abbrev slc (n k l:Nat):Value:=.slice (some ⟨n+k,0,none⟩) l l
abbrev num (i:Int):Value:=.int .i64 i
def smallO (n:Nat):List Obj :=
 [.cells #[slc n 4 2,slc n 5 2,slc n 13 2] 26,
  .cells #[num 0,num 0] 147,.cells #[num 1,num 0] 147,.cells #[num 2,num 0] 147,
  .cells #[num 2,num 2] 3,
  .cells #[.string ⟨#[113]⟩,.string ⟨#[112]⟩] 9,
  .cells #[num 0,num 0,num 1,num 0] 147,
  .cells #[num 0,num 0,num 1,num 0] 147,
  .cells #[num 1,num 0,num 0,slc n 7 2] 49,
  .cells #[num 0,num 0,num 2,num 0] 147,
  .cells #[num 0,num 0,num 1,num 0] 147,
  .cells #[num 1,num 0,num 2,num 0] 147,
  .cells #[num 1,num 0,num 1,slc n 10 2,num 1,num 0,num 0,slc n 11 2] 49,
  .cells #[num 1,slc n 6 2,num 0,slc n 8 1,num 2,num 1,slc n 9 2,num 0,slc n 12 2,num 3] 40]
theorem small_terms (w:World) (os:List Obj) (k:Nat) (a b:Int) (h:os[k]?=some (.cells #[num a,num 0,num b,num 0] 147)) :
 PTermsV (laidAll w os) (slc w.heap.size k 2) [⟨a,0⟩,⟨b,0⟩]:=by
 refine ⟨_,_,rfl,Nat.le_refl _,.inr ⟨_,0,rfl,fun i hi=>?_⟩⟩
 match i,hi with
 | 0,_=>exact ⟨laidAll_cell os w k _ _ 0 _ h rfl,laidAll_cell os w k _ _ 1 _ h rfl⟩
 | 1,_=>exact ⟨laidAll_cell os w k _ _ 2 _ h rfl,laidAll_cell os w k _ _ 3 _ h rfl⟩
theorem small_prog (w:World):ProgV (laidAll w (smallO w.heap.size)) (slc w.heap.size 4 2) (slc w.heap.size 5 2) (slc w.heap.size 13 2) smallQ:=by
 have c:∀ (k:Nat) (c:Array Value) (t i:Nat) (v:Value),(smallO w.heap.size)[k]?=some (.cells c t)→c[i]?=some v→(laidAll w (smallO w.heap.size)).cell? ⟨w.heap.size+k,i,none⟩=some v :=
  fun k c t i v=>laidAll_cell _ w k c t i v
 refine ⟨?_,?_,?_⟩
 · refine ⟨_,_,rfl,.inr ⟨_,0,rfl,fun i hi=>?_⟩⟩
   match i,hi with
   | 0,_=>exact c 4 _ _ 0 _ rfl rfl
   | 1,_=>exact c 4 _ _ 1 _ rfl rfl
 · refine ⟨_,_,rfl,.inr ⟨_,0,rfl,fun i hi=>?_⟩⟩
   match i,hi with
   | 0,_=>exact c 5 _ _ 0 _ rfl rfl
   | 1,_=>exact c 5 _ _ 1 _ rfl rfl
 · refine ⟨_,_,rfl,.inr ⟨_,0,rfl,fun i hi=>?_⟩⟩
   match i,hi with
   | 0,_ =>
    refine ⟨c 13 _ _ 0 _ rfl rfl,⟨_,c 13 _ _ 1 _ rfl rfl,small_terms w _ 6 0 1 rfl⟩,c 13 _ _ 2 _ rfl rfl,⟨_,c 13 _ _ 3 _ rfl rfl,?_⟩,c 13 _ _ 4 _ rfl rfl⟩
    refine ⟨_,_,rfl,.inr ⟨_,0,rfl,fun j hj=>?_⟩⟩
    match j,hj with
    | 0,_=>exact ⟨c 8 _ _ 0 _ rfl rfl,c 8 _ _ 1 _ rfl rfl,c 8 _ _ 2 _ rfl rfl,_,c 8 _ _ 3 _ rfl rfl,small_terms w _ 7 0 1 rfl⟩
   | 1,_ =>
    refine ⟨c 13 _ _ 5 _ rfl rfl,⟨_,c 13 _ _ 6 _ rfl rfl,small_terms w _ 9 0 2 rfl⟩,c 13 _ _ 7 _ rfl rfl,⟨_,c 13 _ _ 8 _ rfl rfl,?_⟩,c 13 _ _ 9 _ rfl rfl⟩
    refine ⟨_,_,rfl,.inr ⟨_,0,rfl,fun j hj=>?_⟩⟩
    match j,hj with
    | 0,_=>exact ⟨c 12 _ _ 0 _ rfl rfl,c 12 _ _ 1 _ rfl rfl,c 12 _ _ 2 _ rfl rfl,_,c 12 _ _ 3 _ rfl rfl,small_terms w _ 10 0 1 rfl⟩
    | 1,_=>exact ⟨c 12 _ _ 4 _ rfl rfl,c 12 _ _ 5 _ rfl rfl,c 12 _ _ 6 _ rfl rfl,_,c 12 _ _ 7 _ rfl rfl,small_terms w _ 11 1 2 rfl⟩
theorem smallQ_fit:ProgFit smallQ:=by
 refine ⟨by decide,by decide,by decide,fun i hi=>?_⟩
 match i,hi with
 | 0,_ =>
  refine ⟨by decide,by decide,fun j hj=>?_⟩
  match j,hj with
  | 0,_=>exact (by decide:(2:Nat)≤9223372036854775807)
 | 1,_ =>
  refine ⟨by decide,by decide,fun j hj=>?_⟩
  match j,hj with
  | 0,_=>exact (by decide:(2:Nat)≤9223372036854775807)
  | 1,_=>exact (by decide:(2:Nat)≤9223372036854775807)
theorem fact_any (p:Int) (a:Option Addr) (n c:Nat) (w:World) :
 Calls Tryz.prog 65 #[.int .i64 p,.slice a n c] w fun e w'=>e=.returned (fcVal p (.slice a n c))∧Below w.heap.size w w':=by
 have hb0:∀ o,Below w.heap.size w (w.alloc o):=fun o=>(Below.refl _ _).alloc (Nat.le_refl _) o
 go_enter Tryz.func65,Tryz.ntmps65
 go_wp2_with fail
 have hGa:=rl_new w (.cells #[.int .i64 p,.slice a n c] 55)
 have d0:(w.alloc (.cells #[.int .i64 p,.slice a n c] 55)).cell? ⟨w.heap.size,0,none⟩=some (.int .i64 p):=by rw [Lib.cell_of_heap hGa]; rfl
 have d1:(w.alloc (.cells #[.int .i64 p,.slice a n c] 55)).cell? ⟨w.heap.size,1,none⟩=some (.slice a n c):=by rw [Lib.cell_of_heap hGa]; rfl
 refine bodyPost_ret (v:=fcVal p (.slice a n c)) (by simp [results,Tryz.results65,go_sem,d0,d1]) rfl ⟨rfl,hb0 _⟩
theorem boolsV_below {w w':World} {v:Value} {l:List Bool} (h:BoolsV w v l) (hb:Below w.heap.size w w'):BoolsV w' v l:=by
 obtain ⟨ao,cap,rfl,hc,h⟩:=h
 exact ⟨ao,cap,rfl,hc,boolsAt_below h hb⟩
theorem new_below (y:World) (o:Obj):Below y.heap.size y (y.alloc o):=(Below.refl _ _).alloc (Nat.le_refl _) o
theorem facts_new1 (y:World) (f:Rl.Fc) (u:Value) (h:IntsV y u f.args):FactsV (y.alloc (.cells #[.int .i64 f.pred,u] 55)) (.slice (some ⟨y.heap.size,0,none⟩) 1 1) [f]:=by
 refine ⟨_,_,rfl,⟨Nat.le_refl _,fun h=>by cases h⟩,.inr ⟨_,_,rfl,fun i hi=>?_⟩⟩
 have h0:i=0:=by simp at hi; omega
 subst h0
 exact ⟨by rw [Lib.cell_of_heap (rl_new y _)]; rfl,u,by rw [Lib.cell_of_heap (rl_new y _)]; rfl,intsV_below h (new_below _ _)⟩
theorem capOk_slc (n k l:Nat):CapOk (slc n k l):=by
 intro ao m cp h
 injection h with _ h1 h2
 omega
theorem small_caps (w:World):RulesCap (laidAll w (smallO w.heap.size)) (slc w.heap.size 13 2):=by
 have c3:(laidAll w (smallO w.heap.size)).cell? ⟨w.heap.size+13,3,none⟩=some (slc w.heap.size 8 1):=laidAll_cell (smallO w.heap.size) w 13 _ _ 3 _ rfl rfl
 have c8:(laidAll w (smallO w.heap.size)).cell? ⟨w.heap.size+13,8,none⟩=some (slc w.heap.size 12 2):=laidAll_cell (smallO w.heap.size) w 13 _ _ 8 _ rfl rfl
 generalize laidAll w (smallO w.heap.size)=W at *
 generalize w.heap.size=N at *
 intro b off n cap hv k hk v hc
 injection hv with e1 e2 e3
 injection e1 with e1
 injection e1 with e1 e4
 subst e2 e4
 rw [← e1] at hc
 rcases (show k=0∨k=1 by omega) with rfl | rfl
 · have hc':W.cell? ⟨N+13,3,none⟩=some v:=hc
   rw [c3] at hc'
   rw [← Option.some.inj hc']
   exact capOk_slc _ _ _
 · have hc':W.cell? ⟨N+13,8,none⟩=some v:=hc
   rw [c8] at hc'
   rw [← Option.some.inj hc']
   exact capOk_slc _ _ _
theorem small_cap (w:World):Calls Tryz.prog 63 #[] w fun e w'=>∃ ua un ur,e=.returned (progVal ua un ur)∧ProgV w' ua un ur smallQ∧RulesCap w' ur∧Below w.heap.size w w':=by
 have HS:Hid (ProgV (laidAll w (smallO w.heap.size)) (slc w.heap.size 4 2) (slc w.heap.size 5 2) (slc w.heap.size 13 2) smallQ∧RulesCap (laidAll w (smallO w.heap.size)) (slc w.heap.size 13 2)∧Below w.heap.size w (laidAll w (smallO w.heap.size))):=⟨small_prog w,small_caps w,laidAll_below _ w⟩
 have h0:(laidAll w (smallO w.heap.size)).heap[w.heap.size]?=_:=laidAll_at (smallO w.heap.size) w 0 _ rfl
 have d0:(laidAll w (smallO w.heap.size)).cell? ⟨w.heap.size,0,none⟩=some (slc w.heap.size 4 2):=by rw [Lib.cell_of_heap h0]; rfl
 have d1:(laidAll w (smallO w.heap.size)).cell? ⟨w.heap.size,1,none⟩=some (slc w.heap.size 5 2):=by rw [Lib.cell_of_heap h0]; rfl
 have d2:(laidAll w (smallO w.heap.size)).cell? ⟨w.heap.size,2,none⟩=some (slc w.heap.size 13 2):=by rw [Lib.cell_of_heap h0]; rfl
 have HD:Hid (_∧_∧_):=⟨d0,d1,d2⟩
 clear h0 d0 d1 d2
 go_enter Tryz.func63,Tryz.ntmps63
 go_wp2_with fail
 change bodyPost _ _ _ _ _ (laidAll w (smallO w.heap.size))
 obtain ⟨d0,d1,d2⟩:=HD.out
 generalize laidAll w (smallO w.heap.size)=w2 at *
 refine bodyPost_ret (v:=progVal (slc w.heap.size 4 2) (slc w.heap.size 5 2) (slc w.heap.size 13 2)) (by simp [results,Tryz.results63,go_sem,d0,d1,d2]) rfl ⟨_,_,_,rfl,HS.out.1,HS.out.2.1,HS.out.2.2⟩
def fullF:List Rl.Fc:=[⟨0,[1,2]⟩,⟨0,[2,3]⟩,⟨1,[1,2]⟩,⟨1,[1,3]⟩,⟨1,[2,3]⟩]
theorem fullF_err:Ru.waysErr smallQ 1 fullF=0:=by kernel_rfl
theorem fullF_ways:Ru.waysOut smallQ 1 fullF=[[1,2,3]]:=by kernel_rfl
theorem fullF_heads:Ru.headsOut smallQ 1 fullF=[⟨1,[1,3]⟩]:=by kernel_rfl
theorem fullF_fit:∀ f,f∈fullF→FFit f:=by
 intro f hf
 simp only [fullF,List.mem_cons,List.not_mem_nil,or_false] at hf
 rcases hf with rfl | rfl | rfl | rfl | rfl <;> exact (by decide:(2:Nat)≤9223372036854775807)
theorem ints_new2 (y:World) (a b:Int):IntsV (y.alloc (.cells #[.int .i64 a,.int .i64 b] 3)) (.slice (some ⟨y.heap.size,0,none⟩) 2 2) [a,b]:=by
 refine ⟨_,_,rfl,.inr ⟨_,0,rfl,fun i hi=>?_⟩⟩
 match i,hi with
 | 0,_=>rw [Lib.cell_of_heap (rl_new y _)]; rfl
 | 1,_=>rw [Lib.cell_of_heap (rl_new y _)]; rfl
theorem ints_new3 (y:World) (a b c:Int):IntsV (y.alloc (.cells #[.int .i64 a,.int .i64 b,.int .i64 c] 3)) (.slice (some ⟨y.heap.size,0,none⟩) 3 3) [a,b,c]:=by
 refine ⟨_,_,rfl,.inr ⟨_,0,rfl,fun i hi=>?_⟩⟩
 match i,hi with
 | 0,_=>rw [Lib.cell_of_heap (rl_new y _)]; rfl
 | 1,_=>rw [Lib.cell_of_heap (rl_new y _)]; rfl
 | 2,_=>rw [Lib.cell_of_heap (rl_new y _)]; rfl
theorem nums_new1 (y:World) (u:Value) (l:List Int) (h:IntsV y u l):NumsV (y.alloc (.cells #[u] 22)) (.slice (some ⟨y.heap.size,0,none⟩) 1 1) [l]:=by
 refine ⟨_,_,rfl,.inr ⟨_,0,rfl,fun i hi=>?_⟩⟩
 match i,hi with
 | 0,_=>exact ⟨u,by rw [Lib.cell_of_heap (rl_new y _)]; rfl,intsV_below h (new_below _ _)⟩
theorem facts_new5 (y:World) (f0 f1 f2 f3 f4:Rl.Fc) (u0 u1 u2 u3 u4:Value) (h0:IntsV y u0 f0.args) (h1:IntsV y u1 f1.args) (h2:IntsV y u2 f2.args) (h3:IntsV y u3 f3.args) (h4:IntsV y u4 f4.args):FactsV (y.alloc (.cells #[.int .i64 f0.pred,u0,.int .i64 f1.pred,u1,.int .i64 f2.pred,u2,.int .i64 f3.pred,u3,.int .i64 f4.pred,u4] 55)) (.slice (some ⟨y.heap.size,0,none⟩) 5 5) [f0,f1,f2,f3,f4]:=by
 refine ⟨_,_,rfl,⟨Nat.le_refl _,fun h=>by cases h⟩,.inr ⟨_,0,rfl,fun i hi=>?_⟩⟩
 match i,hi with
 | 0,_=>exact ⟨by rw [Lib.cell_of_heap (rl_new y _)]; rfl,u0,by rw [Lib.cell_of_heap (rl_new y _)]; rfl,intsV_below h0 (new_below _ _)⟩
 | 1,_=>exact ⟨by rw [Lib.cell_of_heap (rl_new y _)]; rfl,u1,by rw [Lib.cell_of_heap (rl_new y _)]; rfl,intsV_below h1 (new_below _ _)⟩
 | 2,_=>exact ⟨by rw [Lib.cell_of_heap (rl_new y _)]; rfl,u2,by rw [Lib.cell_of_heap (rl_new y _)]; rfl,intsV_below h2 (new_below _ _)⟩
 | 3,_=>exact ⟨by rw [Lib.cell_of_heap (rl_new y _)]; rfl,u3,by rw [Lib.cell_of_heap (rl_new y _)]; rfl,intsV_below h3 (new_below _ _)⟩
 | 4,_=>exact ⟨by rw [Lib.cell_of_heap (rl_new y _)]; rfl,u4,by rw [Lib.cell_of_heap (rl_new y _)]; rfl,intsV_below h4 (new_below _ _)⟩
theorem full_any (w:World):Calls Tryz.prog 64 #[] w fun e w'=>∃ v,e=.returned v∧FactsV w' v fullF∧Below w.heap.size w w':=by
 have HFC:Hid (∀ (p:Int) (a:Option Addr) (n c:Nat) (w:World),Calls Tryz.prog 65 #[.int .i64 p,.slice a n c] w fun e w'=>e=.returned (fcVal p (.slice a n c))∧Below w.heap.size w w'):=fact_any
 go_enter Tryz.func64,Tryz.ntmps64
 go_wp2_with fail
 have H1:Hid _:=ints_new2 w 1 2
 have B1:Hid _:=new_below w (.cells #[.int .i64 1,.int .i64 2] 3)
 generalize hX1:w.heap.size=X1 at *
 generalize w.alloc (.cells #[.int .i64 1,.int .i64 2] 3)=w1 at *
 refine Calls.mono (HFC.out _ _ _ _ _) ?_
 rintro _ y1 ⟨rfl,hb1⟩
 have J1:Hid _:=intsV_below H1.out hb1
 have D1:Hid (Below X1 w y1):=B1.out.trans (hb1.mono (by rw [← hX1]; rw [← hX1] at B1; exact B1.out.size))
 clear hb1 H1 B1
 go_wp2_with fail
 have H2:Hid _:=ints_new2 y1 2 3
 have K1:Hid _:=intsV_below J1.out (new_below y1 (.cells #[.int .i64 2,.int .i64 3] 3))
 have D2:Hid (Below X1 w (y1.alloc (.cells #[.int .i64 2,.int .i64 3] 3))):=D1.out.trans ((new_below y1 _).mono (by have:=D1.out.size; omega))
 clear J1 D1
 generalize hX2:y1.heap.size=X2 at *
 generalize y1.alloc (.cells #[.int .i64 2,.int .i64 3] 3)=w2 at *
 refine Calls.mono (HFC.out _ _ _ _ _) ?_
 rintro _ y2 ⟨rfl,hb2⟩
 have J1:Hid _:=intsV_below K1.out hb2
 have J2:Hid _:=intsV_below H2.out hb2
 have D3:Hid (Below X1 w y2):=D2.out.trans (hb2.mono (by have:=D2.out.size; omega))
 clear hb2 H2 K1 D2
 go_wp2_with fail
 have H3:Hid _:=ints_new2 y2 1 2
 have K1:Hid _:=intsV_below J1.out (new_below y2 (.cells #[.int .i64 1,.int .i64 2] 3))
 have K2:Hid _:=intsV_below J2.out (new_below y2 (.cells #[.int .i64 1,.int .i64 2] 3))
 have D4:Hid (Below X1 w (y2.alloc (.cells #[.int .i64 1,.int .i64 2] 3))):=D3.out.trans ((new_below y2 _).mono (by have:=D3.out.size; omega))
 clear J1 J2 D3
 generalize hX3:y2.heap.size=X3 at *
 generalize y2.alloc (.cells #[.int .i64 1,.int .i64 2] 3)=w3 at *
 refine Calls.mono (HFC.out _ _ _ _ _) ?_
 rintro _ y3 ⟨rfl,hb3⟩
 have J1:Hid _:=intsV_below K1.out hb3
 have J2:Hid _:=intsV_below K2.out hb3
 have J3:Hid _:=intsV_below H3.out hb3
 have D5:Hid (Below X1 w y3):=D4.out.trans (hb3.mono (by have:=D4.out.size; omega))
 clear hb3 H3 K1 K2 D4
 go_wp2_with fail
 have H4:Hid _:=ints_new2 y3 1 3
 have K1:Hid _:=intsV_below J1.out (new_below y3 (.cells #[.int .i64 1,.int .i64 3] 3))
 have K2:Hid _:=intsV_below J2.out (new_below y3 (.cells #[.int .i64 1,.int .i64 3] 3))
 have K3:Hid _:=intsV_below J3.out (new_below y3 (.cells #[.int .i64 1,.int .i64 3] 3))
 have D6:Hid (Below X1 w (y3.alloc (.cells #[.int .i64 1,.int .i64 3] 3))):=D5.out.trans ((new_below y3 _).mono (by have:=D5.out.size; omega))
 clear J1 J2 J3 D5
 generalize hX4:y3.heap.size=X4 at *
 generalize y3.alloc (.cells #[.int .i64 1,.int .i64 3] 3)=w4 at *
 refine Calls.mono (HFC.out _ _ _ _ _) ?_
 rintro _ y4 ⟨rfl,hb4⟩
 have J1:Hid _:=intsV_below K1.out hb4
 have J2:Hid _:=intsV_below K2.out hb4
 have J3:Hid _:=intsV_below K3.out hb4
 have J4:Hid _:=intsV_below H4.out hb4
 have D7:Hid (Below X1 w y4):=D6.out.trans (hb4.mono (by have:=D6.out.size; omega))
 clear hb4 H4 K1 K2 K3 D6
 go_wp2_with fail
 have H5:Hid _:=ints_new2 y4 2 3
 have K1:Hid _:=intsV_below J1.out (new_below y4 (.cells #[.int .i64 2,.int .i64 3] 3))
 have K2:Hid _:=intsV_below J2.out (new_below y4 (.cells #[.int .i64 2,.int .i64 3] 3))
 have K3:Hid _:=intsV_below J3.out (new_below y4 (.cells #[.int .i64 2,.int .i64 3] 3))
 have K4:Hid _:=intsV_below J4.out (new_below y4 (.cells #[.int .i64 2,.int .i64 3] 3))
 have D8:Hid (Below X1 w (y4.alloc (.cells #[.int .i64 2,.int .i64 3] 3))):=D7.out.trans ((new_below y4 _).mono (by have:=D7.out.size; omega))
 clear J1 J2 J3 J4 D7
 generalize hX5:y4.heap.size=X5 at *
 generalize y4.alloc (.cells #[.int .i64 2,.int .i64 3] 3)=w5 at *
 refine Calls.mono (HFC.out _ _ _ _ _) ?_
 rintro _ y5 ⟨rfl,hb5⟩
 have HR:Hid _:=facts_new5 y5 ⟨0,[1,2]⟩ ⟨0,[2,3]⟩ ⟨1,[1,2]⟩ ⟨1,[1,3]⟩ ⟨1,[2,3]⟩ _ _ _ _ _ (intsV_below K1.out hb5) (intsV_below K2.out hb5) (intsV_below K3.out hb5) (intsV_below K4.out hb5) (intsV_below H5.out hb5)
 have D9:Hid (Below X1 w y5):=D8.out.trans (hb5.mono (by have:=D8.out.size; omega))
 clear hb5 H5 K1 K2 K3 K4 D8
 go_wp2_with fail
 go_ret
 exact ⟨_,rfl,HR.out,by rw [hX1]; exact D9.out.trans ((new_below y5 _).mono (by have:=D9.out.size; omega))⟩
theorem ruleBegun_any (w:World):Calls Tryz.prog 19 #[] w fun e w'=>e=.returned (.bool true)∧Below w.heap.size w w':=by
 have HS:Hid (∀ w,Calls Tryz.prog 63 #[] w fun e w'=>∃ ua un ur,e=.returned (progVal ua un ur)∧ProgV w' ua un ur smallQ∧RulesCap w' ur∧Below w.heap.size w w'):=small_cap
 have HFU:Hid (∀ w,Calls Tryz.prog 64 #[] w fun e w'=>∃ v,e=.returned v∧FactsV w' v fullF∧Below w.heap.size w w'):=full_any
 have HFC:Hid (∀ (p:Int) (a:Option Addr) (n c:Nat) (w:World),Calls Tryz.prog 65 #[.int .i64 p,.slice a n c] w fun e w'=>e=.returned (fcVal p (.slice a n c))∧Below w.heap.size w w'):=fact_any
 have HW:Hid (∀ w ua un ur uf,ProgV w ua un ur smallQ→RulesCap w ur→FactsV w uf fullF→Calls Tryz.prog 14 #[progVal ua un ur,.int .i64 1,uf] w fun e w'=>∃ ao cap,e=.returned (.tuple #[.slice ao 1 cap,.int .i64 0])∧NumsV w' (.slice ao 1 cap) [[1,2,3]]∧Below w.heap.size w w'):=by
  intro w ua un ur uf h1 h2 h3
  have h:=Ways_any smallQ 1 fullF ua un ur uf w h1 smallQ_fit h2 h3 (by decide) fullF_fit
  rw [fullF_err,fullF_ways] at h
  refine h.mono ?_
  rintro e w' ⟨v,q,rfl,hN,hq,hb⟩
  have hV:=hN.toV hq
  obtain ⟨ao,cap,rfl,_⟩:=id hV
  exact ⟨ao,cap,rfl,hV,hb⟩
 have HH:Hid (∀ w ua un ur uf,ProgV w ua un ur smallQ→RulesCap w ur→FactsV w uf fullF→Calls Tryz.prog 15 #[progVal ua un ur,.int .i64 1,uf] w fun e w'=>∃ ao cap,e=.returned (.tuple #[.slice ao 1 cap,.int .i64 0])∧FactsV w' (.slice ao 1 cap) [⟨1,[1,3]⟩]∧Below w.heap.size w w'):=by
  intro w ua un ur uf h1 h2 h3
  have h:=Heads_any smallQ 1 fullF ua un ur uf w h1 smallQ_fit h2 h3 (by decide) fullF_fit
  rw [fullF_err,fullF_heads] at h
  refine h.mono ?_
  rintro e w' ⟨v,rfl,hN,hb⟩
  have hV:=hN.toV
  obtain ⟨ao,cap,rfl,_⟩:=id hV
  exact ⟨ao,cap,rfl,hV,hb⟩
 go_enter Tryz.func19,Tryz.ntmps19
 go_wp2_with fail
 refine Calls.mono (HS.out _) ?_
 rintro e w1 ⟨ua,un,ur,rfl,hP1,hC1,hb1⟩
 have HP1:Hid _:=And.intro hP1 hC1
 have HB1:Hid _:=hb1
 clear hP1 hC1 hb1
 go_wp2_with fail
 refine Calls.mono (HFU.out _) ?_
 rintro e w2 ⟨uf,rfl,hF2,hb2⟩
 have HP2:Hid _:=And.intro (HP1.out.1.below hb2) (HP1.out.2.below HP1.out.1.rl hb2)
 have HB2:Hid _:=HB1.out.trans (hb2.mono HB1.out.size)
 have HF2:Hid _:=hF2
 clear HP1 HB1 hb2 hF2
 go_wp2_with fail
 refine Calls.mono (HW.out _ _ _ _ _ HP2.out.1 HP2.out.2 HF2.out) ?_
 rintro e w3 ⟨ao,cap,rfl,hN3,hb3⟩
 have HB3:Hid _:=HB2.out.trans (hb3.mono HB2.out.size)
 have HN3:Hid _:=hN3
 clear HP2 HF2 HB2 hb3 hN3
 go_wp2_with fail
 refine Calls.mono (HS.out _) ?_
 rintro e w4 ⟨ua,un,ur,rfl,hP4,hC4,hb4⟩
 have HP4:Hid _:=And.intro hP4 hC4
 have HB4:Hid _:=HB3.out.trans (hb4.mono HB3.out.size)
 have HN4:Hid _:=numsV_below HN3.out hb4
 clear hP4 hC4 hb4 HB3 HN3
 go_wp2_with fail
 refine Calls.mono (HFU.out _) ?_
 rintro e w5 ⟨uf,rfl,hF5,hb5⟩
 have HP5:Hid _:=And.intro (HP4.out.1.below hb5) (HP4.out.2.below HP4.out.1.rl hb5)
 have HB5:Hid _:=HB4.out.trans (hb5.mono HB4.out.size)
 have HN5:Hid _:=numsV_below HN4.out hb5
 have HF5:Hid _:=hF5
 clear HP4 HB4 HN4 hb5 hF5
 go_wp2_with fail
 refine Calls.mono (HH.out _ _ _ _ _ HP5.out.1 HP5.out.2 HF5.out) ?_
 rintro e w6 ⟨ho,hc,rfl,hH6,hb6⟩
 have HB6:Hid _:=HB5.out.trans (hb6.mono HB5.out.size)
 have HN6:Hid _:=numsV_below HN5.out hb6
 have HH6:Hid _:=hH6
 clear HP5 HB5 HN5 HF5 hb6 hH6
 go_wp2_with fail
 have hx1:=new_below w6 (.cells #[.int .i64 1,.int .i64 2,.int .i64 3] 3)
 have hi1:=ints_new3 w6 1 2 3
 have hs1:(w6.alloc (.cells #[.int .i64 1,.int .i64 2,.int .i64 3] 3)).heap.size=w6.heap.size+1:=by simp
 have HB7:Hid _:=HB6.out.trans (hx1.mono HB6.out.size)
 have HN7:Hid _:=numsV_below HN6.out hx1
 have HH7:Hid _:=factsV_below HH6.out hx1
 have hx2:=new_below (w6.alloc (.cells #[.int .i64 1,.int .i64 2,.int .i64 3] 3)) (.cells #[.slice (some ⟨w6.heap.size,0,none⟩) 3 3] 22)
 have hn2:=nums_new1 _ _ _ hi1
 rw [hs1] at hn2
 have HB8:Hid _:=HB7.out.trans (hx2.mono HB7.out.size)
 have HN8:Hid _:=numsV_below HN7.out hx2
 have HH8:Hid _:=factsV_below HH7.out hx2
 have HM8:Hid _:=hn2
 clear hx1 hi1 hs1 HB6 HN6 HH6 HB7 HN7 HH7 hx2 hn2
 generalize (w6.alloc (.cells #[.int .i64 1,.int .i64 2,.int .i64 3] 3)).alloc (.cells #[.slice (some ⟨w6.heap.size,0,none⟩) 3 3] 22)=w8 at *
 generalize w6.heap.size=X6 at *
 refine Calls.mono (SameLists_refl [[1,2,3]] _ _ w8 HN8.out HM8.out (by decide) (fun i hi=>?_)) ?_
 · match i,hi with
   | 0,_=>exact (by decide:(3:Nat)≤9223372036854775807)
 rintro e w9 ⟨rfl,n9,rfl⟩
 have HB9:Hid _:=HB8.out.trans ((blw_drewN w8 n9).mono HB8.out.size)
 have HH9:Hid _:=factsV_below HH8.out (blw_drewN w8 n9)
 clear HN8 HM8 HB8 HH8
 generalize w8.drewN n9=w9 at *
 go_wp2_with fail
 have hx1:=new_below w9 (.cells #[.int .i64 1,.int .i64 3] 3)
 have HI:Hid _:=ints_new2 w9 1 3
 have HB10:Hid _:=HB9.out.trans (hx1.mono HB9.out.size)
 have HH10:Hid _:=factsV_below HH9.out hx1
 clear hx1 HB9 HH9
 generalize w9.alloc (.cells #[.int .i64 1,.int .i64 3] 3)=w10 at *
 generalize w9.heap.size=X9 at *
 refine Calls.mono (HFC.out _ _ _ _ _) ?_
 rintro e w11 ⟨rfl,hb11⟩
 have HB11:Hid _:=HB10.out.trans (hb11.mono HB10.out.size)
 have HH11:Hid _:=factsV_below HH10.out hb11
 have HI11:Hid _:=intsV_below HI.out hb11
 clear hb11 HB10 HH10 HI
 go_wp2_with fail
 have hx1:=new_below w11 (.cells #[.int .i64 1,.slice (some ⟨X9,0,none⟩) 2 2] 55)
 have HR:Hid _:=facts_new1 w11 ⟨1,[1,3]⟩ _ HI11.out
 have HB12:Hid _:=HB11.out.trans (hx1.mono HB11.out.size)
 have HH12:Hid _:=factsV_below HH11.out hx1
 clear hx1 HB11 HH11 HI11
 generalize w11.alloc (.cells #[.int .i64 1,.slice (some ⟨X9,0,none⟩) 2 2] 55)=w12 at *
 generalize w11.heap.size=X11 at *
 refine Calls.mono (SameFacts_refl [⟨1,[1,3]⟩] _ _ w12 HH12.out HR.out (by decide) (fun f hf=>?_)) ?_
 · rw [List.mem_singleton.mp hf]
   exact (by decide:(2:Nat)≤9223372036854775807)
 rintro e w13 ⟨rfl,hb13⟩
 have HB13:Hid _:=HB12.out.trans (hb13.mono HB12.out.size)
 clear hb13 HB12 HH12 HR
 go_wp2_with fail
 go_ret
 exact ⟨rfl,HB13.out⟩
namespace Ru
def lessI:List Int→List Int→Bool
 | a::x,b::y=>if a=b then lessI x y else decide (a<b)
 | _,_=>false
theorem lessI_cmp:∀ {x y:List Int},x.length=y.length→lessI x y=decide (Rl.cmpL x y<0)
 | [],[],_=>rfl
 | [],_::_,h=>by cases h
 | _::_,[],h=>by cases h
 | a::x,b::y,h=>by
  have h':x.length=y.length:=by simpa using h
  unfold lessI
  by_cases hab:a=b
  · subst hab
    rw [if_pos rfl,lessI_cmp h']
    have e:Rl.cmpL (a::x) (a::y)=Rl.cmpL x y:=by
     show (if Rl.cmpI a a=0 then Rl.cmpL x y else Rl.cmpI a a)=_
     rw [if_pos (Rl.cmpI_zero.mpr rfl)]
    rw [e]
  · rw [if_neg hab]
    have e:Rl.cmpL (a::x) (b::y)=Rl.cmpI a b:=by
     show (if Rl.cmpI a b=0 then Rl.cmpL x y else Rl.cmpI a b)=_
     rw [if_neg (fun h0=>hab (Rl.cmpI_zero.mp h0))]
    rw [e]
    unfold Rl.cmpI
    by_cases h1:a<b
    · simp [h1]
    · have h2:b<a:=by omega
      simp [h1,h2]
theorem lessI_drop {x y:List Int} (hl:x.length=y.length) {k:Nat} (hk:k<x.length):lessI (x.drop k) (y.drop k)=if Sc.intD x k=Sc.intD y k then lessI (x.drop (k+1)) (y.drop (k+1)) else decide (Sc.intD x k<Sc.intD y k):=by
 have e1:x.drop k=Sc.intD x k::x.drop (k+1):=by rw [List.drop_eq_getElem_cons hk]; unfold Sc.intD; rw [List.getD_eq_getElem?_getD,List.getElem?_eq_getElem hk]; rfl
 have e2:y.drop k=Sc.intD y k::y.drop (k+1):=by rw [List.drop_eq_getElem_cons (by omega)]; unfold Sc.intD; rw [List.getD_eq_getElem?_getD,List.getElem?_eq_getElem (by omega)]; rfl
 rw [e1,e2]
 rfl
end Ru
namespace Ru
theorem all_drop (K:List Bool) (ts:List Sc.Term) (k:Nat) (h:k<ts.length):(ts.drop k).all (Sc.known K)=(Sc.known K (Sc.termD ts k) && (ts.drop (k+1)).all (Sc.known K)):=by
 have e:ts.drop k=Sc.termD ts k::ts.drop (k+1):=by rw [List.drop_eq_getElem_cons h]; unfold Sc.termD; rw [List.getD_eq_getElem?_getD,List.getElem?_eq_getElem h]; rfl
 rw [e,List.all_cons]
end Ru
theorem bools_cell {w:World} {ao:Option Addr} {l:List Bool} (h:BoolsAt w ao l) {k:Nat} (hk:k<l.length):∃ b off,ao=some ⟨b,off,none⟩∧w.cell? ⟨b,off+k,none⟩=some (.bool (Rl.boolD l k)):=by
 rcases h with h | ⟨b,off,ha,hc⟩
 · rw [h] at hk; exact absurd hk (by simp)
 · exact ⟨b,off,ha,hc k hk⟩
theorem isReady_any (ts:List Sc.Term) (K:List Bool) (vt vk:Value) (w:World) (hT:PTermsV w vt ts) (hK:BoolsV w vk K) (hI:Ru.TermsIn K.length ts) (hl:ts.length≤1000000):Calls Tryz.prog 167 #[vt,vk] w fun e w'=>e=.returned (.bool (ts.all (Sc.known K)))∧Below w.heap.size w w':=by
 obtain ⟨ao,cap,rfl,_,hA⟩:=hT
 obtain ⟨bo,cbp,rfl,_,hB⟩:=hK
 have HA:Hid _:=hA
 have HB:Hid _:=hB
 have HI:Hid _:=hI
 clear hA hB hI
 go_enter Tryz.func167,Tryz.ntmps167
 go_wp2_with fail
 go_loopw [5] (fun iv wr=>∃ k:Nat,k≤ts.length∧iv=.int .i64 k∧Hid (ts.all (Sc.known K)=(ts.drop k).all (Sc.known K))∧Hid (Below w.heap.size w wr)) (fun iv _=>ts.length - (intOf iv).toNat)
 case atStart=>exact ⟨0,by omega,rfl,rfl,Below.refl _ _⟩
 case round =>
  obtain ⟨k,hk,rfl,HR,HBr⟩:=hrel
  by_cases hlt:k<ts.length
  · obtain ⟨b',off',rfl,hck⟩:=pterms_at HA.out k hlt
    have q0:=cell_below HBr.out (hck k hlt).1
    have HS:Hid _:=Ru.all_drop K ts k hlt
    have HTI:Hid (Ru.TermIn K.length (Sc.termD ts k)):=HI.out _ (Ru.termD_mem hlt)
    clear hck
    generalize Sc.termD ts k=t at *
    obtain ⟨tv,tn⟩:=t
    dsimp only at *
    by_cases h0:tv<0
    · have g0:decide (0≤tv)=false:=decide_eq_false (by omega)
      have HR2:Hid (ts.all (Sc.known K)=(ts.drop (k+1)).all (Sc.known K)):=by
       show _=_
       rw [HR.out,HS.out]
       unfold Sc.known
       simp [h0]
      clear h0
      go_upto_region 4 with fail
      try go_quiet (fail)
      go_wp2_with fail
      go_roundw
      case rel=>exact ⟨k+1,hlt,by go_num,HR2.out,HBr.out⟩
      case measure=>simp [intOf]; omega
    · obtain ⟨m,rfl⟩:∃ m:Nat,tv=m:=⟨tv.toNat,by omega⟩
      have hmK:m<K.length:=by
       rcases HTI.out with h | h
       · exact absurd h h0
       · simpa using h
      obtain ⟨b2,off2,rfl,hcb⟩:=bools_cell HB.out hmK
      have q1:=cell_below HBr.out hcb
      have g0:decide (0≤(m:Int))=true:=decide_eq_true (by omega)
      have HKN:Hid (Sc.known K ⟨(m:Int),tn⟩=Rl.boolD K m):=by
       show _=_
       unfold Sc.known Rl.boolD
       rw [decide_eq_false (show ¬ ((m:Int)<0) by omega),Bool.false_or]
       rfl
      clear hcb h0
      generalize Rl.boolD K m=kb at *
      cases kb
      · have HE:Hid (ts.all (Sc.known K)=false):=by show _=_; rw [HR.out,HS.out,HKN.out]; rfl
        go_upto_region 4 with fail
        try go_quiet (fail)
        go_wp2_with fail
        go_ret
        exact ⟨by rw [HE.out]; rfl,HBr.out⟩
      · have HR2:Hid (ts.all (Sc.known K)=(ts.drop (k+1)).all (Sc.known K)):=by show _=_; rw [HR.out,HS.out,HKN.out,Bool.true_and]
        go_upto_region 4 with fail
        try go_quiet (fail)
        go_wp2_with fail
        go_roundw
        case rel=>exact ⟨k+1,hlt,by go_num,HR2.out,HBr.out⟩
        case measure=>simp [intOf]; omega
  · have hdd:decide (k<ts.length)=false:=decide_eq_false hlt
    have HE:Hid (ts.all (Sc.known K)=true):=by
     show _=_
     rw [HR.out,List.drop_of_length_le (by omega)]
     rfl
    go_wp2_with fail
    go_ret
    exact ⟨by rw [HE.out]; rfl,HBr.out⟩
theorem fill_two {ts:List Sc.Term} (h:ts.length=2) (x:List Int):Ru.fill ts x=[Ru.num x (Sc.termD ts 0),Ru.num x (Sc.termD ts 1)]:=by
 match ts,h with
 | [a,b],_=>rfl
theorem fill_three {ts:List Sc.Term} (h:ts.length=3) (x:List Int):Ru.fill ts x=[Ru.num x (Sc.termD ts 0),Ru.num x (Sc.termD ts 1),Ru.num x (Sc.termD ts 2)]:=by
 match ts,h with
 | [a,b,c],_=>rfl
theorem fill_len (ts:List Sc.Term) (x:List Int):(Ru.fill ts x).length=ts.length:=by unfold Ru.fill; rw [List.length_map]
theorem litHolds12_any (facts:List Rl.Fc) (l:Sc.Lit) (x:List Int) (vt vx vf:Value) (w:World) (hT:PTermsV w vt l.terms) (hX:IntsV w vx x) (hF:FactsV w vf facts) (hFl:facts.length≤1000000) (hFF:∀ f,f∈facts→FFit f) (hl:l.terms.length≤1000) (hI:Ru.TermsIn x.length l.terms) (hk:l.kind=1∨l.kind=2) :
 Calls Tryz.prog 24 #[plitVal l vt,vx,vf] w fun e w'=>e=.returned (.bool (Ru.holds facts l x))∧Below w.heap.size w w':=by
 obtain ⟨at_,ct,rfl,_⟩:=id hT
 obtain ⟨ax,cx,rfl,_⟩:=id hX
 obtain ⟨af,cf,rfl,_⟩:=id hF
 obtain ⟨kd,op,pd,ts⟩:=l
 dsimp only at *
 have bT:=(Below.refl w.heap.size w).alloc (Nat.le_refl _) (.cells #[.int .i64 kd,.int .i64 op,.int .i64 pd,.slice at_ ts.length ct] 49)
 have HBX:Hid _:=heap_alloc_new w (.cells #[.int .i64 kd,.int .i64 op,.int .i64 pd,.slice at_ ts.length ct] 49)
 have HB:Hid _:=bT
 have HC:Hid _:=ArgsOf_any ts x _ _ _ (ptermsV_below hT bT) (intsV_below hX bT) (by omega) hI
 have HF:Hid (FactsV w (.slice af facts.length cf) facts):=hF
 have HFF:Hid _:=hFF
 have hfl:=fill_len ts x
 clear bT hT hX hF hFF hI
 go_enter Tryz.func24,Tryz.ntmps24
 go_upto_region 1 with fail
 generalize w.alloc (.cells #[.int .i64 kd,.int .i64 op,.int .i64 pd,.slice at_ ts.length ct] 49)=w1 at *
 have c3:w1.cell? ⟨w.heap.size,3,none⟩=some (.slice at_ ts.length ct):=by rw [Lib.cell_of_heap HBX.out]; rfl
 go_wp2_with fail
 refine Calls.mono HC.out ?_
 rintro _ w2 ⟨va,rfl,hrow,hb2⟩
 have hints:=hrow.ints
 have HIV:Hid (IntsV w2 va (Ru.fill ts x)):=hints
 obtain ⟨aa,ca,rfl,_⟩:=hints
 have HB2:Hid (Below w.heap.size w w2):=HB.out.trans (hb2.mono HB.out.size)
 have HBX2:Hid _:=(hb2.block _ (heap_lt HBX.out)).trans HBX.out
 have HHAS:Hid _:=HasFact_any facts ⟨pd,Ru.fill ts x⟩ _ _ w2 (factsV_below HF.out HB2.out) HIV.out (by omega) HFF.out (by unfold FFit; show (Ru.fill ts x).length≤_; omega)
 clear c3 hb2 HB HBX HC hrow HF HFF hfl
 have c0:w2.cell? ⟨w.heap.size,0,none⟩=some (.int .i64 kd):=by rw [Lib.cell_of_heap HBX2.out]; rfl
 have c2:w2.cell? ⟨w.heap.size,2,none⟩=some (.int .i64 pd):=by rw [Lib.cell_of_heap HBX2.out]; rfl
 rcases hk with rfl | rfl
 · go_wp2_with fail
   refine Calls.mono HHAS.out ?_
   rintro _ w3 ⟨rfl,hb3⟩
   have HB3:Hid _:=HB2.out.trans (hb3.mono HB2.out.size)
   clear hb3 c0 c2
   go_wp2_with fail
   go_ret
   exact ⟨rfl,HB3.out⟩
 · go_wp2_with fail
   refine Calls.mono HHAS.out ?_
   rintro _ w3 ⟨rfl,hb3⟩
   have HB3:Hid _:=HB2.out.trans (hb3.mono HB2.out.size)
   clear hb3 c0 c2
   go_wp2_with fail
   go_ret
   exact ⟨rfl,HB3.out⟩
theorem litHolds3_any (facts:List Rl.Fc) (l:Sc.Lit) (x:List Int) (vt vx vf:Value) (w:World) (hT:PTermsV w vt l.terms) (hX:IntsV w vx x) (hF:FactsV w vf facts) (hl:l.terms.length≤1000) (hI:Ru.TermsIn x.length l.terms) (hk:l.kind=3) (h2:l.terms.length=2) (hop:l.op=1∨l.op=2∨l.op=3∨l.op=4) :
 Calls Tryz.prog 24 #[plitVal l vt,vx,vf] w fun e w'=>e=.returned (.bool (Ru.holds facts l x))∧Below w.heap.size w w':=by
 obtain ⟨at_,ct,rfl,_⟩:=id hT
 obtain ⟨ax,cx,rfl,_⟩:=id hX
 obtain ⟨af,cf,rfl,_⟩:=id hF
 obtain ⟨kd,op,pd,ts⟩:=l
 dsimp only at *
 have bT:=(Below.refl w.heap.size w).alloc (Nat.le_refl _) (.cells #[.int .i64 kd,.int .i64 op,.int .i64 pd,.slice at_ ts.length ct] 49)
 have HBX:Hid _:=heap_alloc_new w (.cells #[.int .i64 kd,.int .i64 op,.int .i64 pd,.slice at_ ts.length ct] 49)
 have HB:Hid _:=bT
 have HC:Hid _:=ArgsOf_any ts x _ _ _ (ptermsV_below hT bT) (intsV_below hX bT) (by omega) hI
 rw [fill_two h2 x] at HC
 have HE:Hid (Ru.holds facts ⟨kd,op,pd,ts⟩ x=Ru.isSo op (Ru.num x (Sc.termD ts 0)) (Ru.num x (Sc.termD ts 1))):=by show _=_; unfold Ru.holds; dsimp only; rw [if_neg (by omega),if_neg (by omega),if_pos hk]
 generalize Ru.num x (Sc.termD ts 0)=a at *
 generalize Ru.num x (Sc.termD ts 1)=c at *
 subst hk
 clear bT hT hX hF hI
 clear h2 hl
 go_enter Tryz.func24,Tryz.ntmps24
 go_upto_region 1 with fail
 generalize w.alloc (.cells #[.int .i64 3,.int .i64 op,.int .i64 pd,.slice at_ ts.length ct] 49)=w1 at *
 have c3:w1.cell? ⟨w.heap.size,3,none⟩=some (.slice at_ ts.length ct):=by rw [Lib.cell_of_heap HBX.out]; rfl
 go_wp2_with fail
 refine Calls.mono HC.out ?_
 rintro _ w2 ⟨va,rfl,hrow,hb2⟩
 have hints:=hrow.ints
 have HIV:Hid (IntsV w2 va [a,c]):=hints
 obtain ⟨aa,ca,rfl,hIA⟩:=hints
 have HB2:Hid (Below w.heap.size w w2):=HB.out.trans (hb2.mono HB.out.size)
 have HBX2:Hid _:=(hb2.block _ (heap_lt HBX.out)).trans HBX.out
 clear c3 hb2 HB HBX HC hrow
 have c0:w2.cell? ⟨w.heap.size,0,none⟩=some (.int .i64 3):=by rw [Lib.cell_of_heap HBX2.out]; rfl
 have c1:w2.cell? ⟨w.heap.size,1,none⟩=some (.int .i64 op):=by rw [Lib.cell_of_heap HBX2.out]; rfl
 have hr:∃ b0 off0,aa=some ⟨b0,off0,none⟩∧w2.cell? ⟨b0,off0,none⟩=some (.int .i64 a)∧w2.cell? ⟨b0,off0+1,none⟩=some (.int .i64 c):=by
  rcases hIA with h | ⟨b0,off0,h1,h2⟩
  · cases h
  · exact ⟨b0,off0,h1,h2 0 (Nat.succ_pos _),h2 1 (Nat.succ_lt_succ (Nat.succ_pos _))⟩
 obtain ⟨b0,off0,rfl,r0,r1⟩:=hr
 clear hIA HIV
 rcases hop with rfl | rfl | rfl | rfl
 · by_cases hc:a<c
   · have g:decide (a<c)=true:=by simpa using hc
     have HE2:Hid (Ru.holds facts ⟨3,1,pd,ts⟩ x=true):=by show _=_; rw [HE.out]; unfold Ru.isSo; simp; first | exact hc | omega
     clear hc
     go_upto_region 8 with fail
     go_quiet (fail)
     go_wp2_with fail
     go_ret
     exact ⟨by rw [HE2.out]; rfl,HB2.out.trans ((blw_drewN _ _).mono HB2.out.size)⟩
   · have g:decide (a<c)=false:=by simpa using hc
     have HE2:Hid (Ru.holds facts ⟨3,1,pd,ts⟩ x=false):=by show _=_; rw [HE.out]; unfold Ru.isSo; simp; first | exact hc | omega
     clear hc
     go_upto_region 8 with fail
     go_quiet (fail)
     go_wp2_with fail
     go_ret
     exact ⟨by rw [HE2.out]; rfl,HB2.out.trans ((blw_drewN _ _).mono HB2.out.size)⟩
 · by_cases hc:a≤c
   · have g:decide (a≤c)=true:=by simpa using hc
     have HE2:Hid (Ru.holds facts ⟨3,2,pd,ts⟩ x=true):=by show _=_; rw [HE.out]; unfold Ru.isSo; simp; first | exact hc | omega
     clear hc
     go_upto_region 8 with fail
     go_quiet (fail)
     go_wp2_with fail
     go_ret
     exact ⟨by rw [HE2.out]; rfl,HB2.out.trans ((blw_drewN _ _).mono HB2.out.size)⟩
   · have g:decide (a≤c)=false:=by simpa using hc
     have HE2:Hid (Ru.holds facts ⟨3,2,pd,ts⟩ x=false):=by show _=_; rw [HE.out]; unfold Ru.isSo; simp; first | exact hc | omega
     clear hc
     go_upto_region 8 with fail
     go_quiet (fail)
     go_wp2_with fail
     go_ret
     exact ⟨by rw [HE2.out]; rfl,HB2.out.trans ((blw_drewN _ _).mono HB2.out.size)⟩
 · by_cases hc:a=c
   · have g:(a==c)=true:=by simpa using hc
     have HE2:Hid (Ru.holds facts ⟨3,3,pd,ts⟩ x=true):=by show _=_; rw [HE.out]; unfold Ru.isSo; simp; first | exact hc | omega
     clear hc
     go_upto_region 8 with fail
     go_quiet (fail)
     go_wp2_with fail
     go_ret
     exact ⟨by rw [HE2.out]; rfl,HB2.out.trans ((blw_drewN _ _).mono HB2.out.size)⟩
   · have g:(a==c)=false:=by simpa using hc
     have HE2:Hid (Ru.holds facts ⟨3,3,pd,ts⟩ x=false):=by show _=_; rw [HE.out]; unfold Ru.isSo; simp; first | exact hc | omega
     clear hc
     go_upto_region 8 with fail
     go_quiet (fail)
     go_wp2_with fail
     go_ret
     exact ⟨by rw [HE2.out]; rfl,HB2.out.trans ((blw_drewN _ _).mono HB2.out.size)⟩
 · by_cases hc:a≠c
   · have g:(a != c)=true:=by simpa using hc
     have HE2:Hid (Ru.holds facts ⟨3,4,pd,ts⟩ x=true):=by show _=_; rw [HE.out]; unfold Ru.isSo; simp; first | exact hc | omega
     clear hc
     go_upto_region 8 with fail
     go_quiet (fail)
     go_wp2_with fail
     go_ret
     exact ⟨by rw [HE2.out]; rfl,HB2.out.trans ((blw_drewN _ _).mono HB2.out.size)⟩
   · have g:(a != c)=false:=by simpa using hc
     have HE2:Hid (Ru.holds facts ⟨3,4,pd,ts⟩ x=false):=by show _=_; rw [HE.out]; unfold Ru.isSo; simp; first | exact hc | omega
     clear hc
     go_upto_region 8 with fail
     go_quiet (fail)
     go_wp2_with fail
     go_ret
     exact ⟨by rw [HE2.out]; rfl,HB2.out.trans ((blw_drewN _ _).mono HB2.out.size)⟩
theorem litHolds4_any (facts:List Rl.Fc) (l:Sc.Lit) (x:List Int) (vt vx vf:Value) (w:World) (hT:PTermsV w vt l.terms) (hX:IntsV w vx x) (hF:FactsV w vf facts) (hl:l.terms.length≤1000) (hI:Ru.TermsIn x.length l.terms) (hk:l.kind=4) (h3:l.terms.length=3) (hn0:Sc.isNum (Ru.num x (Sc.termD l.terms 0))=true) (hn1:Sc.isNum (Ru.num x (Sc.termD l.terms 1))=true) :
 Calls Tryz.prog 24 #[plitVal l vt,vx,vf] w fun e w'=>e=.returned (.bool (Ru.holds facts l x))∧Below w.heap.size w w':=by
 obtain ⟨at_,ct,rfl,_⟩:=id hT
 obtain ⟨ax,cx,rfl,_⟩:=id hX
 obtain ⟨af,cf,rfl,_⟩:=id hF
 obtain ⟨kd,op,pd,ts⟩:=l
 dsimp only at *
 have bT:=(Below.refl w.heap.size w).alloc (Nat.le_refl _) (.cells #[.int .i64 kd,.int .i64 op,.int .i64 pd,.slice at_ ts.length ct] 49)
 have HBX:Hid _:=heap_alloc_new w (.cells #[.int .i64 kd,.int .i64 op,.int .i64 pd,.slice at_ ts.length ct] 49)
 have HB:Hid _:=bT
 have HC:Hid _:=ArgsOf_any ts x _ _ _ (ptermsV_below hT bT) (intsV_below hX bT) (by omega) hI
 rw [fill_three h3 x] at HC
 have HE:Hid (Ru.holds facts ⟨kd,op,pd,ts⟩ x=(Sc.isNum (Ru.reck op (Ru.num x (Sc.termD ts 0)) (Ru.num x (Sc.termD ts 1))) && decide (Ru.reck op (Ru.num x (Sc.termD ts 0)) (Ru.num x (Sc.termD ts 1))=Ru.num x (Sc.termD ts 2)))):=by show _=_; unfold Ru.holds Ru.calc3; dsimp only; rw [if_neg (by omega),if_neg (by omega),if_neg (by omega)]
 generalize Ru.num x (Sc.termD ts 0)=a at *
 generalize Ru.num x (Sc.termD ts 1)=c at *
 generalize Ru.num x (Sc.termD ts 2)=d at *
 subst hk
 clear bT hT hX hF hI
 have HQ:Hid (∀ z:World,Calls Tryz.prog 67 #[.int .i64 op,.int .i64 a,.int .i64 c] z fun e w'=>e=.returned (.int .i64 (Ru.reck op a c))∧∃ n,w'=z.drewN n):=fun z=>(CalcOf_any op a c z (Ru.between_iff.mp hn0) (Ru.between_iff.mp hn1)).mono fun _ _ h=>⟨h.1,0,h.2⟩
 clear hn0 hn1 h3 hl
 go_enter Tryz.func24,Tryz.ntmps24
 go_upto_region 1 with fail
 generalize w.alloc (.cells #[.int .i64 4,.int .i64 op,.int .i64 pd,.slice at_ ts.length ct] 49)=w1 at *
 have c3:w1.cell? ⟨w.heap.size,3,none⟩=some (.slice at_ ts.length ct):=by rw [Lib.cell_of_heap HBX.out]; rfl
 go_wp2_with fail
 refine Calls.mono HC.out ?_
 rintro _ w2 ⟨va,rfl,hrow,hb2⟩
 have hints:=hrow.ints
 have HIV:Hid (IntsV w2 va [a,c,d]):=hints
 obtain ⟨aa,ca,rfl,hIA⟩:=hints
 have HB2:Hid (Below w.heap.size w w2):=HB.out.trans (hb2.mono HB.out.size)
 have HBX2:Hid _:=(hb2.block _ (heap_lt HBX.out)).trans HBX.out
 clear c3 hb2 HB HBX HC hrow
 have c0:w2.cell? ⟨w.heap.size,0,none⟩=some (.int .i64 4):=by rw [Lib.cell_of_heap HBX2.out]; rfl
 have c1:w2.cell? ⟨w.heap.size,1,none⟩=some (.int .i64 op):=by rw [Lib.cell_of_heap HBX2.out]; rfl
 have hr:∃ b0 off0,aa=some ⟨b0,off0,none⟩∧w2.cell? ⟨b0,off0,none⟩=some (.int .i64 a)∧w2.cell? ⟨b0,off0+1,none⟩=some (.int .i64 c)∧w2.cell? ⟨b0,off0+2,none⟩=some (.int .i64 d):=by
  rcases hIA with h | ⟨b0,off0,h1,h2⟩
  · cases h
  · exact ⟨b0,off0,h1,h2 0 (Nat.succ_pos _),h2 1 (Nat.succ_lt_succ (Nat.succ_pos _)),h2 2 (Nat.succ_lt_succ (Nat.succ_lt_succ (Nat.succ_pos _)))⟩
 obtain ⟨b0,off0,rfl,r0,r1,r2⟩:=hr
 clear hIA HIV
 have HN:Hid (∀ (n:Int) (z:World),Calls Tryz.prog 23 #[.int .i64 n] z fun e w'=>e=.returned (.bool (Sc.isNum n))∧w'=z):=fun n z=>refNum_any n z
 go_upto_region 9 with fail
 go_quiet (first
  | (go_at_call 67; exact Calls.quiet_of (HQ.out _)))
 generalize Ru.reck op a c=m at *
 have HBd:Hid (∀ j,Below w.heap.size w (w2.drewN j)):=fun j=>HB2.out.trans ((blw_drewN _ _).mono HB2.out.size)
 cases hn:Sc.isNum m
 · have HE2:Hid (Ru.holds facts ⟨4,op,pd,ts⟩ x=false):=by show _=_; rw [HE.out,hn]; rfl
   have HN2:Hid (∀ z:World,Calls Tryz.prog 23 #[.int .i64 m] z fun e w'=>e=.returned (.bool false)∧w'=z):=fun z=>by have:=HN.out m z; rw [hn] at this; exact this
   clear hn
   go_wp2_with fail
   refine Calls.mono (HN2.out _) ?_
   rintro _ z ⟨rfl,rfl⟩
   go_wp2_with fail
   go_ret
   exact ⟨by rw [HE2.out]; rfl,HBd.out _⟩
 · have HN2:Hid (∀ z:World,Calls Tryz.prog 23 #[.int .i64 m] z fun e w'=>e=.returned (.bool true)∧w'=z):=fun z=>by have:=HN.out m z; rw [hn] at this; exact this
   by_cases hmd:m=d
   · have g:(m==d)=true:=by simpa using hmd
     have HE2:Hid (Ru.holds facts ⟨4,op,pd,ts⟩ x=true):=by show _=_; rw [HE.out,hn,decide_eq_true hmd]; rfl
     clear hn hmd
     go_wp2_with fail
     refine Calls.mono (HN2.out _) ?_
     rintro _ z ⟨rfl,rfl⟩
     go_wp2_with fail
     go_ret
     exact ⟨by rw [HE2.out]; rfl,HBd.out _⟩
   · have g:(m==d)=false:=by simpa using hmd
     have HE2:Hid (Ru.holds facts ⟨4,op,pd,ts⟩ x=false):=by show _=_; rw [HE.out,hn,decide_eq_false hmd]; rfl
     clear hn hmd
     go_wp2_with fail
     refine Calls.mono (HN2.out _) ?_
     rintro _ z ⟨rfl,rfl⟩
     go_wp2_with fail
     go_ret
     exact ⟨by rw [HE2.out]; rfl,HBd.out _⟩
theorem LitHolds_any (facts:List Rl.Fc) (l:Sc.Lit) (x:List Int) (vt vx vf:Value) (w:World) (hT:PTermsV w vt l.terms) (hX:IntsV w vx x) (hF:FactsV w vf facts) (hFl:facts.length≤1000000) (hFF:∀ f,f∈facts→FFit f) (hl:l.terms.length≤1000) (hI:Ru.LitIn x.length facts l)
 (hop:l.kind=3→l.op=1∨l.op=2∨l.op=3∨l.op=4) (hn0:l.kind=4→Sc.isNum (Ru.num x (Sc.termD l.terms 0))=true) (hn1:l.kind=4→Sc.isNum (Ru.num x (Sc.termD l.terms 1))=true) :
 Calls Tryz.prog 24 #[plitVal l vt,vx,vf] w fun e w'=>e=.returned (.bool (Ru.holds facts l x))∧Below w.heap.size w w':=by
 rcases hI.k with hk | hk | hk | hk
 · exact litHolds12_any facts l x vt vx vf w hT hX hF hFl hFF hl hI.t (.inl hk)
 · exact litHolds12_any facts l x vt vx vf w hT hX hF hFl hFF hl hI.t (.inr hk)
 · exact litHolds3_any facts l x vt vx vf w hT hX hF hl hI.t hk (hI.k3 hk) (hop hk)
 · exact litHolds4_any facts l x vt vx vf w hT hX hF hl hI.t hk (hI.k4 hk) (hn0 hk) (hn1 hk)
theorem SameInts_any (x y:List Int) (v u:Value) (w:World) (hV:IntsV w v x) (hU:IntsV w u y) (hl:x.length≤1000000):Calls Tryz.prog 25 #[v,u] w fun e w'=>e=.returned (.bool (decide (x=y)))∧∃ n,w'=w.drewN n:=by
 obtain ⟨ao,cap,rfl,hA⟩:=hV
 obtain ⟨bo,cbp,rfl,hB⟩:=hU
 have HA:Hid _:=hA
 have HB:Hid _:=hB
 clear hA hB
 by_cases hlen:x.length=y.length
 · have HLEN:Hid _:=hlen
   have g0:((x.length:Int) != (y.length:Int))=false:=by rw [hlen]; simp
   clear hlen
   go_enter Tryz.func25,Tryz.ntmps25
   go_wp2_with fail
   go_loopw [5] (fun iv wr=>∃ k nq:Nat,k≤x.length∧iv=.int .i64 k∧Hid (x=y↔x.drop k=y.drop k)∧wr=w.drewN nq) (fun iv _=>x.length - (intOf iv).toNat)
   case atStart=>exact ⟨0,0,by omega,rfl,Iff.rfl,rfl⟩
   case round =>
    obtain ⟨k,nq,hk,rfl,HR,rfl⟩:=hrel
    by_cases hlt:k<x.length
    · have hlt2:k<y.length:=by have:=HLEN.out; omega
      obtain ⟨b',off',rfl,hck⟩:=ints_cell HA.out hlt
      obtain ⟨b2,off2,rfl,hck2⟩:=ints_cell HB.out hlt2
      have HS:Hid _:=Ru.eq_step HLEN.out hlt
      generalize Sc.intD x k=a at *
      generalize Sc.intD y k=c at *
      by_cases hac:a=c
      · have gx:(a != c)=false:=by simpa using hac
        have HR2:Hid (x=y↔x.drop (k+1)=y.drop (k+1)):=HR.out.trans (HS.out.trans ⟨fun h=>h.2,fun h=>⟨hac,h⟩⟩)
        clear hac
        go_wp2_with fail
        go_quiet (fail)
        go_wp2_with fail
        go_roundw
        case rel=>exact ⟨k+1,_,hlt,by go_num,HR2.out,rfl⟩
        case measure=>simp [intOf]; omega
      · have gx:(a != c)=true:=by simpa using hac
        have HE:Hid (decide (x=y)=false):=decide_eq_false (fun h=>hac (HS.out.mp (HR.out.mp h)).1)
        clear hac
        go_wp2_with fail
        go_quiet (fail)
        go_wp2_with fail
        go_ret
        exact ⟨by rw [HE.out]; rfl,_,World.drewN_drewN _ _ _⟩
    · have hdd:decide (k<x.length)=false:=decide_eq_false hlt
      have HE:Hid (decide (x=y)=true):=decide_eq_true (HR.out.mpr (by have:=HLEN.out; rw [List.drop_of_length_le (by omega),List.drop_of_length_le (by omega)]))
      go_wp2_with fail
      go_ret
      exact ⟨by rw [HE.out]; rfl,_,rfl⟩
 · have HE:Hid (decide (x=y)=false):=decide_eq_false (fun h=>hlen (by rw [h]))
   have g0:((x.length:Int) != (y.length:Int))=true:=by simp; omega
   clear hlen
   go_enter Tryz.func25,Tryz.ntmps25
   go_wp2_with fail
   go_ret
   exact ⟨by rw [HE.out]; rfl,0,rfl⟩
namespace Ru
theorem lit_ops {ar:List Int} {r:Sc.Rule} (hr:RuleOk ar r) {l:Sc.Lit} (hl:l∈r.body) (hk:l.kind=3):l.op=1∨l.op=2∨l.op=3∨l.op=4:=by
 obtain ⟨h1,_⟩:=hr.lit l hl
 unfold Sc.litErr at h1
 rw [if_neg (by omega),if_pos hk] at h1
 split at h1
 · rename_i hp
   have:=between_iff.mp hp
   omega
 · omega
structure LitFine (facts:List Rl.Fc) (m:Nat) (l:Sc.Lit):Prop where
 i:LitIn m facts l
 s:l.terms.length≤3
 o:l.kind=3→l.op=1∨l.op=2∨l.op=3∨l.op=4
 n:LitNum l
theorem litFine_of {p:Sc.Prog} (h:ProgOk p) {r:Sc.Rule} (hr:RuleOk p.arity r) {facts:List Rl.Fc} (hF:∀ f,f∈facts→Right p.arity f) {l:Sc.Lit} (hl:l∈r.body):LitFine facts r.vars.toNat l :=
 ⟨litIn_of hr hF hl,lit_short h hr hl,lit_ops hr hl,lit_num hr hl⟩
theorem num_fine {m:Nat} {t:Sc.Term} {x:List Int} (ht:TermIn m t) (hn:t.var<0→Sc.isNum t.n=true) (hl:x.length=m) (hx:∀ n,n∈x→Sc.isNum n=true):Sc.isNum (num x t)=true:=by
 unfold num
 split
 · rename_i h; exact hn h
 · rename_i h0
   have hlt:t.var.toNat<x.length:=by rcases ht with h | h <;> omega
   rw [List.getD_eq_getElem?_getD,List.getElem?_eq_getElem hlt]
   exact hx _ (List.getElem_mem hlt)
end Ru
theorem LitHolds_fine (facts:List Rl.Fc) (l:Sc.Lit) (x:List Int) (vt vx vf:Value) (w:World) (hT:PTermsV w vt l.terms) (hX:IntsV w vx x) (hF:FactsV w vf facts) (hFl:facts.length≤1000000) (hFF:∀ f,f∈facts→FFit f) {m:Nat} (hm:x.length=m) (hL:Ru.LitFine facts m l) (hN:∀ n,n∈x→Sc.isNum n=true) :
 Calls Tryz.prog 24 #[plitVal l vt,vx,vf] w fun e w'=>e=.returned (.bool (Ru.holds facts l x))∧Below w.heap.size w w' :=
 LitHolds_any facts l x vt vx vf w hT hX hF hFl hFF (by have:=hL.s; omega) (by rw [hm]; exact hL.i) hL.o
  (fun hk=>Ru.num_fine (hL.i.t _ (Ru.termD_mem (by have:=hL.i.k4 hk; omega))) (hL.n _ (Ru.termD_mem (by have:=hL.i.k4 hk; omega))) hm hN)
  (fun hk=>Ru.num_fine (hL.i.t _ (Ru.termD_mem (by have:=hL.i.k4 hk; omega))) (hL.n _ (Ru.termD_mem (by have:=hL.i.k4 hk; omega))) hm hN)
theorem litD_take {l:List Sc.Lit} {k:Nat} (h:k<l.length):l[k]?=some (Sc.litD l k):=by
 unfold Sc.litD
 rw [List.getD_eq_getElem?_getD,List.getElem?_eq_getElem h]
 rfl
end Go.Proofs.YthenjegmigeieaaGreat
