/- Own texts, one behind the other (part 12). -/
import Derived.Test.YthenjegmigeieaaGreatBundleK
import Derived.Test.YthenjegmigeieaaGreatRows
import Derived.ProofKit
import Derived.Deep.Slices
import Derived.Deep.Strs
import Derived.JoinedOf
set_option maxRecDepth 100000
set_option maxHeartbeats 8000000
namespace Go.Proofs.YthenjegmigeieaaGreat
open Go.RowKit
def ho6Tv (RB gW j:Nat) (VT VW YV:Value):Nat→Value
 | 23=>.pointer (some ⟨RB,1,none⟩)
 | 24=>VT
 | 25=>VW
 | 26=>.int .i64 (j:Nat)
 | 27=>.pointer (some ⟨gW,j,none⟩)
 | 28=>YV
 | _=>.bool false
def ho13Tv (RB gW j:Nat) (VT VW YV:Value):Nat→Value
 | 46=>.pointer (some ⟨RB,1,none⟩)
 | 47=>VT
 | 48=>VW
 | 49=>.int .i64 (j:Nat)
 | 50=>.pointer (some ⟨gW,j,none⟩)
 | 51=>YV
 | _=>.bool false
def ho23V (RV AV CV:Value) (RB m:Nat) (pd nn:Int) (tQ:Nat) (vQ:Value):Prop :=
 match tQ with
 | 113=>vQ=RV
 | 114=>vQ=(.pointer (some ⟨RB,0,none⟩):Value)
 | 115=>vQ=(.int .i64 pd:Value)
 | 117=>vQ=AV
 | 118=>vQ=(.int .i64 (m:Nat):Value)
 | 119=>vQ=CV
 | 121=>vQ=(.int .i64 nn:Value)
 | _=>True
def ho23T (RV AV CV:Value) (RB m:Nat) (pd nn:Int) (B:Nat) (l:List Int) (tQ:Nat) (vQ:Value) (WQ:World):Prop :=
 if tQ=123 then WQ.ownsRow B 3 1 vQ (l++[nn]).length ((l++[nn]).map (Value.int .i64))
 else if tQ=124 then ∃ u,vQ=.agg #[.int .i64 pd,u]∧WQ.ownsRow B 3 1 u (l++[nn]).length ((l++[nn]).map (Value.int .i64))
 else if tQ=125 then ∃ b' u,vQ=.slice (some ⟨b',0,none⟩) 1 1∧WQ.heap[b']?=some (.cells #[.int .i64 pd,u] 55)∧WQ.ownsRow B 3 1 u (l++[nn]).length ((l++[nn]).map (Value.int .i64)) else ho23V RV AV CV RB m pd nn tQ vQ
theorem ho23T_mono (RV AV CV:Value) (RB m:Nat) (pd nn:Int) (B:Nat) (l:List Int) (tQ:Nat) (vQ:Value) (W W':World) (hb:Below W.heap.size W W') (h:ho23T RV AV CV RB m pd nn B l tQ vQ W):ho23T RV AV CV RB m pd nn B l tQ vQ W':=by
 unfold ho23T at h ⊢
 by_cases ht:tQ=123
 · rw [if_pos ht] at h ⊢
   exact ownsRow_below h hb
 · rw [if_neg ht] at h ⊢
   by_cases ht2:tQ=124
   · rw [if_pos ht2] at h ⊢
     obtain ⟨u,h1,h2⟩:=h
     exact ⟨u,h1,ownsRow_below h2 hb⟩
   · rw [if_neg ht2] at h ⊢
     by_cases ht3:tQ=125
     · rw [if_pos ht3] at h ⊢
       obtain ⟨b',u,h1,h2,h3⟩:=h
       exact ⟨b',u,h1,(hb.block b' (Array.getElem?_eq_some_iff.mp h2).1).trans h2,ownsRow_below h3 hb⟩
     · rw [if_neg ht3] at h ⊢
       exact h
def ho23E (t:Nat):Bool:=!(t==123 || t==124 || t==125)
theorem ho23T_early (RV AV CV:Value) (RB m:Nat) (pd nn:Int) (B:Nat) (l:List Int) (tQ:Nat) (vQ:Value) (W W':World) (he:ho23E tQ=true) (h:ho23T RV AV CV RB m pd nn B l tQ vQ W):ho23T RV AV CV RB m pd nn B l tQ vQ W':=by
 unfold ho23E at he
 simp only [Bool.not_eq_true',Bool.or_eq_false_iff,beq_eq_false_iff_ne] at he
 unfold ho23T at h ⊢
 rw [if_neg he.1.1,if_neg he.1.2,if_neg he.2] at h ⊢
 exact h
def ho23U (nn:Int) (B:Nat) (l:List Int) (tQ:Nat) (vQ:Value) (WQ:World):Prop :=
 if tQ=120 then WQ.ownsRow B 3 1 vQ l.length (l.map (Value.int .i64))
 else if tQ=122 then ∃ b',vQ=.slice (some ⟨b',0,none⟩) 1 1∧WQ.heap[b']?=some (.cells #[.int .i64 nn] 3)
 else if tQ=116 then ∃ b',vQ=.slice (some ⟨b',0,none⟩) 0 0∧WQ.ownsRow B 3 1 vQ 0 [] else True
theorem ho23U_mono (nn:Int) (B:Nat) (l:List Int) (tQ:Nat) (vQ:Value) (W W':World) (hb:Below W.heap.size W W') (h:ho23U nn B l tQ vQ W):ho23U nn B l tQ vQ W':=by
 unfold ho23U at h ⊢
 by_cases ht:tQ=120
 · rw [if_pos ht] at h ⊢
   exact ownsRow_below h hb
 · rw [if_neg ht] at h ⊢
   by_cases ht2:tQ=122
   · rw [if_pos ht2] at h ⊢
     obtain ⟨b',h1,h2⟩:=h
     exact ⟨b',h1,(hb.block b' (Array.getElem?_eq_some_iff.mp h2).1).trans h2⟩
   · rw [if_neg ht2] at h ⊢
     by_cases ht3:tQ=116
     · rw [if_pos ht3] at h ⊢
       obtain ⟨b',h1,h2⟩:=h
       exact ⟨b',h1,ownsRow_below h2 hb⟩
     · rw [if_neg ht3] at h ⊢
       exact h
theorem HeadsOf_any (r:Sc.Rule) (q:List Nv) (vt vb vw:Value) (B:Nat) (w:World) (hT:PTermsV w vt r.terms) (hB:PLitsV w vb r.body) (hN:NumsP B w vw q) (hql:q.length≤2000) (htl:r.terms.length≤3) (hTI:∀ y,y∈q→Ru.TermsIn y.1.length r.terms) (hNU:∀ y,y∈q→∀ n,n∈Ru.fill r.terms y.1→Sc.isNum n=true) (hf4:0≤r.fold∧r.fold≤4) (hft:¬ r.fold=0→¬ r.terms.length=0) :
 Calls Tryz.prog 18 #[pruleVal r vt vb,vw] w fun e w'=>∃ v',e=.returned v'∧FactsP w.heap.size w' v' (Ru.heads r (q.map (·.1)))∧Below w.heap.size w w':=by
 obtain ⟨i0,hi,hz0,hz1,hz2⟩:=info_parts rl_info49
 obtain ⟨j3,hj3,hj30,hj31,hj32⟩:=info_parts rl_info3
 obtain ⟨at_,ct,rfl,_⟩:=id hT
 obtain ⟨ab,cb,rfl,_⟩:=id hB
 obtain ⟨av,cv,rfl⟩:=own_slice hN.1
 have hb1:=new_below w (.cells #[.int .i64 r.pred,.slice at_ r.terms.length ct,.int .i64 r.fold,.slice ab r.body.length cb,.int .i64 r.vars] 40)
 have HRB:Hid _:=heap_alloc_new w (.cells #[.int .i64 r.pred,.slice at_ r.terms.length ct,.int .i64 r.fold,.slice ab r.body.length cb,.int .i64 r.vars] 40)
 have HB1:Hid _:=hb1
 have HN:Hid (NumsP B (w.alloc (.cells #[.int .i64 r.pred,.slice at_ r.terms.length ct,.int .i64 r.fold,.slice ab r.body.length cb,.int .i64 r.vars] 40)) (.slice av q.length cv) q):=NumsP.below hN hb1
 have HT:Hid (PTermsV (w.alloc (.cells #[.int .i64 r.pred,.slice at_ r.terms.length ct,.int .i64 r.fold,.slice ab r.body.length cb,.int .i64 r.vars] 40)) (.slice at_ r.terms.length ct) r.terms):=ptermsV_below hT hb1
 have HTI:Hid _:=hTI
 have HNU:Hid _:=hNU
 have HF4:Hid _:=hf4
 have HFT:Hid _:=hft
 have hwr:IntKind.i64.wrap ((r.terms.length:Int) - 1)=(r.terms.length:Int) - 1:=by
  simp [IntKind.wrap,IntKind.bits,IntKind.signed]
  omega
 clear hT hB hN hb1 hTI hNU hf4 hft
 go_enter Tryz.func18,Tryz.ntmps18
 go_upto_region 1 with fail
 generalize w.alloc (.cells #[.int .i64 r.pred,.slice at_ r.terms.length ct,.int .i64 r.fold,.slice ab r.body.length cb,.int .i64 r.vars] 40)=w1 at *
 generalize hRBn:w.heap.size=RB at *
 have c0:w1.cell? ⟨RB,0,none⟩=some (.int .i64 r.pred):=by rw [Lib.cell_of_heap HRB.out]; rfl
 have c1:w1.cell? ⟨RB,1,none⟩=some (.slice at_ r.terms.length ct):=by rw [Lib.cell_of_heap HRB.out]; rfl
 have c2:w1.cell? ⟨RB,2,none⟩=some (.int .i64 r.fold):=by rw [Lib.cell_of_heap HRB.out]; rfl
 rw [← hRBn] at HB1
 go_wp2_with fail
 generalize hln:(r.terms.length:Int) - 1=ln at *
 go_loopw [5,7] (fun vo iv wr=>∃ (j:Nat) (qo:List Fv),j≤q.length∧iv=.int .i64 j∧Hid (wr.ownsRow w1.heap.size 55 2 vo qo.length (qo.map fcCells).flatten)∧Hid (qo.map (·.1)=(((q.take j).map (fun y=>Ru.head r y.1)).map (Ru.gave r (q.map (fun y=>Ru.head r y.1)))).flatten)∧Hid (∀ p,p∈qo→wr.ownsRow w1.heap.size 3 1 p.2 p.1.args.length (p.1.args.map (Value.int .i64)))∧qo.length≤j∧Hid (Below w1.heap.size w1 wr)) (fun _ iv _=>q.length - (intOf iv).toNat)
 case atStart=>exact ⟨0,[],Nat.zero_le _,rfl,World.ownsRow_nil _ _ _ _,rfl,fun _ hp=>absurd hp (by simp),Nat.le_refl _,Below.refl _ _⟩
 case round =>
  obtain ⟨wo,hwo⟩:∃ wo,wo=wr:=⟨_,rfl⟩
  subst hwo
  obtain ⟨j,qo,hj,rfl,HO,HQO,HRO,hqk,HBO⟩:=hrel
  obtain ⟨ao,co,rfl⟩:=own_slice HO.out
  by_cases hlt:j<q.length
  · obtain ⟨gW,cap,y,hv,hy,hym,hyc,hyo⟩:=nums_cell HN.out hlt
    injection hv with ea _ ec
    subst ea ec
    obtain ⟨ay,cy,hyv⟩:=own_slice hyo
    rw [hyv] at hyc
    have HYI:Hid (IntsV w1 (.slice ay y.1.length cy) y.1):=by rw [← hyv]; exact own_ints hyo
    have t1:=cell_below HBO.out c1
    have tj:=cell_below HBO.out hyc
    have HAR:Hid (∀ z,Below wo.heap.size wo z→Calls Tryz.prog 62 #[.slice at_ r.terms.length ct,.slice ay y.1.length cy] z fun e w'=>∃ v',e=.returned v'∧IRow w' z.heap.size v' (Ru.fill r.terms y.1)∧Below z.heap.size z w'):=fun z hz=>ArgsOf_any r.terms y.1 _ _ z (ptermsV_below (ptermsV_below HT.out HBO.out) hz) (intsV_below (intsV_below HYI.out HBO.out) hz) (by omega) (HTI.out y hym)
    have HY:Hid _:=hy
    have HTK:Hid ((((q.take (j+1)).map (fun y=>Ru.head r y.1)).map (Ru.gave r (q.map (fun y=>Ru.head r y.1)))).flatten=(((q.take j).map (fun y=>Ru.head r y.1)).map (Ru.gave r (q.map (fun y=>Ru.head r y.1)))).flatten++Ru.gave r (q.map (fun y=>Ru.head r y.1)) (Ru.head r y.1)):=by
     show _=_
     rw [List.take_add_one,hy,List.map_append,List.map_append,List.flatten_append]
     simp
    have HYM:Hid _:=hym
    clear hy hym hyc hyo hyv
    go_upto_region 6 with fail
    refine wp_region_tail (fun tQ vQ _=>vQ=ho6Tv RB gW j (.slice at_ r.terms.length ct) (.slice (some ⟨gW,0,none⟩) q.length cv) (.slice ay y.1.length cy) tQ) 6 (by decide) (by kernel_rfl) (by kernel_rfl) (by kernel_rfl) (fun _ _ _ _ _ h=>h) ?hopA ?htailA
    case hopA =>
     refine AllOps.cons (fun a y_ h=>?_) ?_
     · have e2:a.eval (.tmp 2)=(.pointer (some ⟨RB,0,none⟩):Value):=h.old 2 (by kernel_rfl)
       refine opOk_val (v:=.pointer (some ⟨RB,1,none⟩)) (w':=y_) (wanted_none rfl) ?_ (fun t ht=>by cases ht; exact rfl) (Below.refl _ _)
       have ec:=evc a
       generalize a.eval=ev at *
       clear h
       go_simp
     refine AllOps.cons (fun a y_ h=>?_) ?_
     · have e23:a.eval (.tmp 23)=(.pointer (some ⟨RB,1,none⟩):Value):=h.of 23 (by kernel_rfl)
       have x0:=cell_below h.below t1
       refine opOk_val (v:=.slice at_ r.terms.length ct) (w':=y_) (wanted_none rfl) ?_ (fun t ht=>by cases ht; exact rfl) (Below.refl _ _)
       have ec:=evc a
       generalize a.eval=ev at *
       clear h
       go_simp
     refine AllOps.cons (fun a y_ h=>?_) ?_
     · have e1:a.eval (.tmp 1)=(.slice (some ⟨gW,0,none⟩) q.length cv:Value):=h.old 1 (by kernel_rfl)
       refine opOk_val (v:=.slice (some ⟨gW,0,none⟩) q.length cv) (w':=y_) (wanted_none rfl) ?_ (fun t ht=>by cases ht; exact rfl) (Below.refl _ _)
       have ec:=evc a
       generalize a.eval=ev at *
       clear h
       go_simp
     refine AllOps.cons (fun a y_ h=>?_) ?_
     · have e7:a.eval (.tmp 7)=(.int .i64 (j:Nat):Value):=h.old 7 (by kernel_rfl)
       refine opOk_val (v:=.int .i64 (j:Nat)) (w':=y_) (wanted_none rfl) ?_ (fun t ht=>by cases ht; exact rfl) (Below.refl _ _)
       have ec:=evc a
       generalize a.eval=ev at *
       clear h
       go_simp
     refine AllOps.cons (fun a y_ h=>?_) ?_
     · have e25:a.eval (.tmp 25)=(.slice (some ⟨gW,0,none⟩) q.length cv:Value):=h.of 25 (by kernel_rfl)
       have e26:a.eval (.tmp 26)=(.int .i64 (j:Nat):Value):=h.of 26 (by kernel_rfl)
       refine opOk_val (v:=.pointer (some ⟨gW,j,none⟩)) (w':=y_) (wanted_none rfl) ?_ (fun t ht=>by cases ht; exact rfl) (Below.refl _ _)
       have ec:=evc a
       generalize a.eval=ev at *
       clear h
       go_simp
       try (intro h9; exfalso; omega)
     refine AllOps.cons (fun a y_ h=>?_) ?_
     · have e27:a.eval (.tmp 27)=(.pointer (some ⟨gW,j,none⟩):Value):=h.of 27 (by kernel_rfl)
       have x0:=cell_below h.below tj
       refine opOk_val (v:=.slice ay y.1.length cy) (w':=y_) (wanted_none rfl) ?_ (fun t ht=>by cases ht; exact rfl) (Below.refl _ _)
       have ec:=evc a
       generalize a.eval=ev at *
       clear h
       go_simp
     exact AllOps.nil
    case htailA =>
     rintro ⟨tm1,df⟩ y_ hI
     have e1:Act.eval ⟨tm1,df⟩ (.tmp 24)=(.slice at_ r.terms.length ct:Value):=hI.all 1 _ 24 (by decide) rfl rfl
     have e5:Act.eval ⟨tm1,df⟩ (.tmp 28)=(.slice ay y.1.length cy:Value):=hI.all 5 _ 28 (by decide) rfl rfl
     have hsN:tm1.size=129:=hI.size
     show wpOps Tryz.prog _ _ [6,7] _ _
     rw [wpOps_cons]
     refine wpOp_wp rfl (wanted_none rfl) (opW_call (f:=62) (args:=#[.slice at_ r.terms.length ct,.slice ay y.1.length cy]) ?_ (Calls.mono (HAR.out y_ hI.below) ?_))
     · have ec:=evc ⟨tm1,df⟩
       have ef:=evf ⟨tm1,df⟩
       generalize Act.eval ⟨tm1,df⟩=ev at *
       clear hI
       go_simp
     rintro _ w5 ⟨va,rfl,hrow,hb5⟩
     refine ⟨_,rfl,?_⟩
     obtain ⟨aa,ca,rfl⟩:=own_slice hrow
     have e6:Act.eval (Act.put ⟨tm1,df⟩ (some 29) (.slice aa (Ru.fill r.terms y.1).length ca)) (.tmp 29)=(.slice aa (Ru.fill r.terms y.1).length ca:Value):=put_get_self (by show 29<tm1.size; omega)
     rw [wpOps_cons]
     refine wpOp_val (v:=.slice aa (Ru.fill r.terms y.1).length ca) (w':=w5) rfl (wanted_none rfl) ?_ ?_
     · show Sem.run Tryz.prog (execOp (Act.eval (Act.put ⟨tm1,df⟩ (some 29) (.slice aa (Ru.fill r.terms y.1).length ca))) _) w5=_
       generalize Act.eval (Act.put ⟨tm1,df⟩ (some 29) (.slice aa (Ru.fill r.terms y.1).length ca))=ev at *
       clear hI
       go_simp
     have hbY:=hI.below
     have hst:∀ t,t∉[23,24,25,26,27,28,29,8]→((tm1.setIfInBounds 29 (.slice aa (Ru.fill r.terms y.1).length ca)).setIfInBounds 8 (.slice aa (Ru.fill r.terms y.1).length ca)).getD t undef=_:=fun t ht=>by
      have hB:t≠29:=fun e=>ht (by rw [e]; decide)
      have hC:t≠8:=fun e=>ht (by rw [e]; decide)
      exact ((put_get_ne (a:=Act.put ⟨tm1,df⟩ (some 29) (.slice aa (Ru.fill r.terms y.1).length ca)) hC).trans (put_get_ne (a:=⟨tm1,df⟩) hB)).trans (hI.still t ht)
     have hs3:((tm1.setIfInBounds 29 (.slice aa (Ru.fill r.terms y.1).length ca)).setIfInBounds 8 (.slice aa (Ru.fill r.terms y.1).length ca)).size=129:=by simp [hsN]
     have hD:((tm1.setIfInBounds 29 (.slice aa (Ru.fill r.terms y.1).length ca)).setIfInBounds 8 (.slice aa (Ru.fill r.terms y.1).length ca)).getD 8 undef=(.slice aa (Ru.fill r.terms y.1).length ca):=put_get_self (a:=Act.put ⟨tm1,df⟩ (some 29) (.slice aa (Ru.fill r.terms y.1).length ca)) (by show 8<(tm1.setIfInBounds 29 _).size; simp [hsN])
     obtain rfl:df=[]:=hI.defers
     clear hI e1 e5 e6 hsN
     show Exit.then _ _ Exit.normal ⟨(tm1.setIfInBounds 29 (.slice aa (Ru.fill r.terms y.1).length ca)).setIfInBounds 8 (.slice aa (Ru.fill r.terms y.1).length ca),[]⟩ w5
     generalize (tm1.setIfInBounds 29 (.slice aa (Ru.fill r.terms y.1).length ca)).setIfInBounds 8 (.slice aa (Ru.fill r.terms y.1).length ca)=tm at *
     have hF8:=tmps_fold [23,24,25,26,27,28,29,8] tm _ (hs3.trans (by rfl)) hst
     clear hs3 hst
     simp only [List.foldl_cons,List.foldl_nil,hD] at hF8
     clear hD
     generalize tm.getD 23 undef=x23 at hF8
     generalize tm.getD 24 undef=x24 at hF8
     generalize tm.getD 25 undef=x25 at hF8
     generalize tm.getD 26 undef=x26 at hF8
     generalize tm.getD 27 undef=x27 at hF8
     generalize tm.getD 28 undef=x28 at hF8
     generalize tm.getD 29 undef=x29 at hF8
     simp only [List.setIfInBounds_toArray,List.set_cons_zero,List.set_cons_succ] at hF8
     subst hF8
     have HO5:Hid (w5.ownsRow w1.heap.size 55 2 (.slice ao qo.length co) qo.length (qo.map fcCells).flatten):=ownsRow_below (ownsRow_below HO.out hbY) hb5
     have HRO5:Hid (∀ p,p∈qo→w5.ownsRow w1.heap.size 3 1 p.2 p.1.args.length (p.1.args.map (Value.int .i64))):=fun p hp=>ownsRow_below (ownsRow_below (HRO.out p hp) hbY) hb5
     have HB5:Hid (Below w1.heap.size w1 w5):=HBO.out.trans ((hbY.trans (hb5.mono hbY.size)).mono HBO.out.size)
     have HR5:Hid (w5.ownsRow w1.heap.size 3 1 (.slice aa (Ru.fill r.terms y.1).length ca) (Ru.fill r.terms y.1).length ((Ru.fill r.terms y.1).map (Value.int .i64))):=rl_own_le hrow (Nat.le_trans HBO.out.size hbY.size)
     have s0:=cell_below HB5.out c0
     have s2:=cell_below HB5.out c2
     have hsz5:=HB5.out.size
     clear hrow hb5 hbY HAR t1 tj HO HRO HBO
     by_cases hf0:r.fold=0
     · have hfd:decide (r.fold=0)=true:=decide_eq_true hf0
       have g0:(r.fold==0)=true:=by simpa using hf0
       have HGV:Hid (Ru.gave r (q.map (fun y=>Ru.head r y.1)) (Ru.head r y.1)=[(⟨r.pred,Ru.fill r.terms y.1⟩:Rl.Fc)]):=by
        show _=_
        unfold Ru.gave
        rw [if_pos hf0]
        rfl
       generalize Ru.fill r.terms y.1=fa at *
       clear hf0
       go_wp2_with (at_builtin; refine wpList_append_own _ rfl (.tmp 33) (.tmp 38) 27 rfl w1.heap.size 55 i0 _ 2 32 Tryz.underlying27 hi hz0 hz1 hz2 rfl (by decide) _ _ _ rfl (HO5.out.alloc _) ⟨w5.heap.size,0,none⟩ 1 1 (fcCells (⟨r.pred,fa⟩,.slice aa fa.length ca)) rfl rfl ?c1 ?c2 ?c3 ?c4 ?c5 ?_)
       case c1=>first | exact news2 w5 _ _ 55 | exact fun _ _ h=>h
       case c2=>intro u hu; simp [fcCells] at hu; rcases hu with rfl | rfl <;> rfl
       case c3=>unfold maxLen; omega
       case c4=>omega
       case c5=>first | omega | (simp; omega)
       intro vs2 w6 hown6 hgrow6 _
       obtain ⟨ao9,cap9,rfl⟩:=own_slice hown6
       have hba:Below w5.heap.size w5 (w5.alloc (.cells #[.int .i64 r.pred,.slice aa fa.length ca] 55)):=(Below.refl _ _).alloc (Nat.le_refl _) _
       have h3:∀ (l:List Int) (u:Value),w5.ownsRow w1.heap.size 3 1 u l.length (l.map (Value.int .i64))→w6.ownsRow w1.heap.size 3 1 u l.length (l.map (Value.int .i64)):=fun l u hu=>own_type hu (fun k c hk=>(hgrow6.block k (Nat.lt_of_lt_of_le (heap_lt hk) hba.size) (fun e=>by have:=own_ty HO5.out e.symm hk; cases this)).trans ((hba.block k (heap_lt hk)).trans hk))
       have HB6:Hid (Below w1.heap.size w1 w6):=(HB5.out.alloc HB5.out.size _).grown hgrow6 (by simp; omega) (fun k hk=>(HO5.out.lt k hk).1)
       have HO6:Hid (w6.ownsRow w1.heap.size 55 2 (.slice ao9 (qo.length+1) cap9) (qo++[((⟨r.pred,fa⟩:Rl.Fc),Value.slice aa fa.length ca)]).length ((qo++[((⟨r.pred,fa⟩:Rl.Fc),Value.slice aa fa.length ca)]).map fcCells).flatten):=by
        show World.ownsRow _ _ _ _ _ _ _
        rw [List.length_append,List.map_append,List.flatten_append]
        simpa using hown6
       have HRO6:Hid (∀ p,p∈qo++[((⟨r.pred,fa⟩:Rl.Fc),Value.slice aa fa.length ca)]→w6.ownsRow w1.heap.size 3 1 p.2 p.1.args.length (p.1.args.map (Value.int .i64))):=fun p hp=>by
        rcases List.mem_append.mp hp with hp | hp
        · exact h3 _ _ (HRO5.out p hp)
        · rcases List.mem_singleton.mp hp with rfl
          exact h3 _ _ HR5.out
       have HQ6:Hid ((qo++[((⟨r.pred,fa⟩:Rl.Fc),Value.slice aa fa.length ca)]).map (·.1)=(((q.take (j+1)).map (fun y=>Ru.head r y.1)).map (Ru.gave r (q.map (fun y=>Ru.head r y.1)))).flatten):=by
        show _=_
        rw [HTK.out,HGV.out,← HQO.out,List.map_append]
        rfl
       clear hown6 hgrow6 HO5 HRO5 HB5 HR5 h3 hba
       go_wp2_with fail
       go_roundw
       case rel=>exact ⟨j+1,_,hlt,by go_num,HO6.out,HQ6.out,HRO6.out,by rw [List.length_append]; exact Nat.succ_le_succ hqk,HB6.out⟩
       case measure=>simp [intOf]; omega
     · have hfd:decide (r.fold=0)=false:=decide_eq_false hf0
       have g0:(r.fold==0)=false:=by simpa using hf0
       obtain ⟨m,hm⟩:∃ m,r.terms.length=m+1:=⟨r.terms.length - 1,by have:=HFT.out hf0; omega⟩
       have HTM:Hid (r.terms.length=m+1):=hm
       obtain rfl:ln=(m:Int):=by omega
       have HFL:Hid ((Ru.fill r.terms y.1).length=m+1):=by show _=_; unfold Ru.fill; rw [List.length_map]; exact hm
       have hfo1:1≤r.fold:=by have:=HF4.out.1; omega
       have hfo4:r.fold≤4:=HF4.out.2
       have HAI:Hid (IntsV w5 (.slice aa m ca) (Ru.pre (Ru.fill r.terms y.1))):=by
        obtain ⟨x1,x2,hv9,hA9⟩:=own_ints HR5.out
        injection hv9 with e1 _ e3
        subst e1 e3
        have h9:=ints_pre ca hA9
        rw [HFL.out,Nat.add_sub_cancel] at h9
        exact h9
       obtain ⟨ga,ca2,hva,hca,_⟩:=own_form3 HR5.out HFL.out
       rw [HFL.out] at hva
       injection hva with e1 _ e3
       subst e1 e3
       have HGV:Hid (Ru.gave r (q.map (fun y=>Ru.head r y.1)) (Ru.head r y.1)=Ru.emit r.fold r.pred (Ru.pre (Ru.fill r.terms y.1)) (Ru.group (q.map (fun y=>Ru.head r y.1)) (Ru.pre (Ru.fill r.terms y.1)))):=by
        show _=_
        unfold Ru.gave
        rw [if_neg hf0]
        rfl
       have HNA:Hid _:=HNU.out y HYM.out
       rw [HFL.out]
       generalize Ru.fill r.terms y.1=fa at *
       clear hm
       go_upto_region 9 with fail
       clear hwr
       go_wp2_with fail
       go_loopw [9,10,11] (fun nv mv kv wr=>∃ k:Nat,k≤q.length∧kv=.int .i64 k∧nv=.int .i64 (Ru.foldN r.fold (Ru.group ((q.take k).map (fun y=>Ru.head r y.1)) (Ru.pre fa)))∧mv=.int .i64 ((Ru.group ((q.take k).map (fun y=>Ru.head r y.1)) (Ru.pre fa)).length:Nat)∧Hid (Below w5.heap.size w5 wr)) (fun _ _ kv _=>q.length - (intOf kv).toNat)
       case atStart=>exact ⟨0,Nat.zero_le _,rfl,by rw [List.take_zero,List.map_nil,Ru.group_nil,Ru.foldN_nil],rfl,Below.refl _ _⟩
       case round =>
        obtain ⟨wk,hwk⟩:∃ wk,wk=wr:=⟨_,rfl⟩
        subst hwk
        obtain ⟨k,hk,rfl,rfl,rfl,HBK⟩:=hrel
        by_cases hltk:k<q.length
        · obtain ⟨gW2,cap2,z,hv2,hz,hzm,hzc0,hzo⟩:=nums_cell HN.out hltk
          injection hv2 with ea2 _ ec2
          injection ea2 with ea2
          injection ea2 with ea2
          subst ea2
          obtain ⟨az,cz0,hzv⟩:=own_slice hzo
          rw [hzv] at hzc0
          have HZ0:Hid (IntsV w1 (.slice az z.1.length cz0) z.1):=by rw [← hzv]; exact own_ints hzo
          have tk1:=cell_below HBK.out (cell_below HB5.out c1)
          have tkj:=cell_below HBK.out (cell_below HB5.out hzc0)
          have HAK:Hid (∀ x,Below wk.heap.size wk x→Calls Tryz.prog 62 #[.slice at_ r.terms.length ct,.slice az z.1.length cz0] x fun e w'=>∃ v',e=.returned v'∧IRow w' x.heap.size v' (Ru.fill r.terms z.1)∧Below x.heap.size x w'):=fun x hx=>ArgsOf_any r.terms z.1 _ _ x (ptermsV_below (ptermsV_below (ptermsV_below HT.out HB5.out) HBK.out) hx) (intsV_below (intsV_below (intsV_below HZ0.out HB5.out) HBK.out) hx) (by omega) (HTI.out z hzm)
          have HZM:Hid _:=hzm
          have HTZ:Hid ((q.take (k+1)).map (fun y=>Ru.head r y.1)=(q.take k).map (fun y=>Ru.head r y.1)++[(⟨r.pred,Ru.fill r.terms z.1⟩:Rl.Fc)]):=by
           show _=_
           rw [List.take_add_one,hz,List.map_append]
           rfl
          clear hz hzm hzc0 hzo hzv
          go_upto_region 13 with fail
          refine wp_region_tail (fun tQ vQ _=>vQ=ho13Tv RB gW k (.slice at_ r.terms.length ct) (.slice (some ⟨gW,0,none⟩) q.length cv) (.slice az z.1.length cz0) tQ) 6 (by decide) (by kernel_rfl) (by kernel_rfl) (by kernel_rfl) (fun _ _ _ _ _ h=>h) ?hopC ?htailC
          case hopC =>
           refine AllOps.cons (fun a y_ h=>?_) ?_
           · have e2:a.eval (.tmp 2)=(.pointer (some ⟨RB,0,none⟩):Value):=h.old 2 (by kernel_rfl)
             refine opOk_val (v:=.pointer (some ⟨RB,1,none⟩)) (w':=y_) (wanted_none rfl) ?_ (fun t ht=>by cases ht; exact rfl) (Below.refl _ _)
             have ec:=evc a
             generalize a.eval=ev at *
             clear h
             go_simp
           refine AllOps.cons (fun a y_ h=>?_) ?_
           · have e46:a.eval (.tmp 46)=(.pointer (some ⟨RB,1,none⟩):Value):=h.of 46 (by kernel_rfl)
             have x0:=cell_below h.below tk1
             refine opOk_val (v:=.slice at_ r.terms.length ct) (w':=y_) (wanted_none rfl) ?_ (fun t ht=>by cases ht; exact rfl) (Below.refl _ _)
             have ec:=evc a
             generalize a.eval=ev at *
             clear h
             go_simp
           refine AllOps.cons (fun a y_ h=>?_) ?_
           · have e1:a.eval (.tmp 1)=(.slice (some ⟨gW,0,none⟩) q.length cv:Value):=h.old 1 (by kernel_rfl)
             refine opOk_val (v:=.slice (some ⟨gW,0,none⟩) q.length cv) (w':=y_) (wanted_none rfl) ?_ (fun t ht=>by cases ht; exact rfl) (Below.refl _ _)
             have ec:=evc a
             generalize a.eval=ev at *
             clear h
             go_simp
           refine AllOps.cons (fun a y_ h=>?_) ?_
           · have e11:a.eval (.tmp 11)=(.int .i64 (k:Nat):Value):=h.old 11 (by kernel_rfl)
             refine opOk_val (v:=.int .i64 (k:Nat)) (w':=y_) (wanted_none rfl) ?_ (fun t ht=>by cases ht; exact rfl) (Below.refl _ _)
             have ec:=evc a
             generalize a.eval=ev at *
             clear h
             go_simp
           refine AllOps.cons (fun a y_ h=>?_) ?_
           · have e48:a.eval (.tmp 48)=(.slice (some ⟨gW,0,none⟩) q.length cv:Value):=h.of 48 (by kernel_rfl)
             have e49:a.eval (.tmp 49)=(.int .i64 (k:Nat):Value):=h.of 49 (by kernel_rfl)
             refine opOk_val (v:=.pointer (some ⟨gW,k,none⟩)) (w':=y_) (wanted_none rfl) ?_ (fun t ht=>by cases ht; exact rfl) (Below.refl _ _)
             have ec:=evc a
             generalize a.eval=ev at *
             clear h
             go_simp
             try (intro h9; exfalso; omega)
           refine AllOps.cons (fun a y_ h=>?_) ?_
           · have e50:a.eval (.tmp 50)=(.pointer (some ⟨gW,k,none⟩):Value):=h.of 50 (by kernel_rfl)
             have x0:=cell_below h.below tkj
             refine opOk_val (v:=.slice az z.1.length cz0) (w':=y_) (wanted_none rfl) ?_ (fun t ht=>by cases ht; exact rfl) (Below.refl _ _)
             have ec:=evc a
             generalize a.eval=ev at *
             clear h
             go_simp
           exact AllOps.nil
          case htailC =>
           rintro ⟨tm1,df⟩ y_ hI
           have e1:Act.eval ⟨tm1,df⟩ (.tmp 47)=(.slice at_ r.terms.length ct:Value):=hI.all 1 _ 47 (by decide) rfl rfl
           have e5:Act.eval ⟨tm1,df⟩ (.tmp 51)=(.slice az z.1.length cz0:Value):=hI.all 5 _ 51 (by decide) rfl rfl
           have hsN:tm1.size=129:=hI.size
           show wpOps Tryz.prog _ _ [6,7] _ _
           rw [wpOps_cons]
           refine wpOp_wp rfl (wanted_none rfl) (opW_call (f:=62) (args:=#[.slice at_ r.terms.length ct,.slice az z.1.length cz0]) ?_ (Calls.mono (HAK.out y_ hI.below) ?_))
           · have ec:=evc ⟨tm1,df⟩
             have ef:=evf ⟨tm1,df⟩
             generalize Act.eval ⟨tm1,df⟩=ev at *
             clear hI
             go_simp
           rintro _ w6 ⟨va6,rfl,hrow6,hb6⟩
           refine ⟨_,rfl,?_⟩
           obtain ⟨ac_,cc_,rfl⟩:=own_slice hrow6
           have e6:Act.eval (Act.put ⟨tm1,df⟩ (some 52) (.slice ac_ (Ru.fill r.terms z.1).length cc_)) (.tmp 52)=(.slice ac_ (Ru.fill r.terms z.1).length cc_:Value):=put_get_self (by show 52<tm1.size; omega)
           rw [wpOps_cons]
           refine wpOp_val (v:=.slice ac_ (Ru.fill r.terms z.1).length cc_) (w':=w6) rfl (wanted_none rfl) ?_ ?_
           · show Sem.run Tryz.prog (execOp (Act.eval (Act.put ⟨tm1,df⟩ (some 52) (.slice ac_ (Ru.fill r.terms z.1).length cc_))) _) w6=_
             generalize Act.eval (Act.put ⟨tm1,df⟩ (some 52) (.slice ac_ (Ru.fill r.terms z.1).length cc_))=ev at *
             clear hI
             go_simp
           have hbY6:=hI.below
           have hst:∀ t,t∉[46,47,48,49,50,51,52,12]→((tm1.setIfInBounds 52 (.slice ac_ (Ru.fill r.terms z.1).length cc_)).setIfInBounds 12 (.slice ac_ (Ru.fill r.terms z.1).length cc_)).getD t undef=_:=fun t ht=>by
            have hB:t≠52:=fun e=>ht (by rw [e]; decide)
            have hC:t≠12:=fun e=>ht (by rw [e]; decide)
            exact ((put_get_ne (a:=Act.put ⟨tm1,df⟩ (some 52) (.slice ac_ (Ru.fill r.terms z.1).length cc_)) hC).trans (put_get_ne (a:=⟨tm1,df⟩) hB)).trans (hI.still t ht)
           have hs3:((tm1.setIfInBounds 52 (.slice ac_ (Ru.fill r.terms z.1).length cc_)).setIfInBounds 12 (.slice ac_ (Ru.fill r.terms z.1).length cc_)).size=129:=by simp [hsN]
           have hD:((tm1.setIfInBounds 52 (.slice ac_ (Ru.fill r.terms z.1).length cc_)).setIfInBounds 12 (.slice ac_ (Ru.fill r.terms z.1).length cc_)).getD 12 undef=(.slice ac_ (Ru.fill r.terms z.1).length cc_):=put_get_self (a:=Act.put ⟨tm1,df⟩ (some 52) (.slice ac_ (Ru.fill r.terms z.1).length cc_)) (by show 12<(tm1.setIfInBounds 52 _).size; simp [hsN])
           obtain rfl:df=[]:=hI.defers
           clear hI e1 e5 e6 hsN
           show Exit.then _ _ Exit.normal ⟨(tm1.setIfInBounds 52 (.slice ac_ (Ru.fill r.terms z.1).length cc_)).setIfInBounds 12 (.slice ac_ (Ru.fill r.terms z.1).length cc_),[]⟩ w6
           generalize (tm1.setIfInBounds 52 (.slice ac_ (Ru.fill r.terms z.1).length cc_)).setIfInBounds 12 (.slice ac_ (Ru.fill r.terms z.1).length cc_)=tm at *
           have hF8:=tmps_fold [46,47,48,49,50,51,52,12] tm _ (hs3.trans (by rfl)) hst
           clear hs3 hst
           simp only [List.foldl_cons,List.foldl_nil,hD] at hF8
           clear hD
           generalize tm.getD 46 undef=x46 at hF8
           generalize tm.getD 47 undef=x47 at hF8
           generalize tm.getD 48 undef=x48 at hF8
           generalize tm.getD 49 undef=x49 at hF8
           generalize tm.getD 50 undef=x50 at hF8
           generalize tm.getD 51 undef=x51 at hF8
           generalize tm.getD 52 undef=x52 at hF8
           simp only [List.setIfInBounds_toArray,List.set_cons_zero,List.set_cons_succ] at hF8
           subst hF8
           have HB6:Hid (Below w5.heap.size w5 w6):=HBK.out.trans ((hbY6.trans (hb6.mono hbY6.size)).mono HBK.out.size)
           have hfz:(Ru.fill r.terms z.1).length=m+1:=by unfold Ru.fill; rw [List.length_map]; exact HTM.out
           have HZI:Hid (IntsV w6 (.slice ac_ m cc_) (Ru.pre (Ru.fill r.terms z.1))):=by
            obtain ⟨x1,x2,hv9,hA9⟩:=own_ints hrow6
            injection hv9 with e1 _ e3
            subst e1 e3
            have h9:=ints_pre cc_ hA9
            rw [hfz,Nat.add_sub_cancel] at h9
            exact h9
           obtain ⟨gz,cz,hvz,hcz,hzc⟩:=own_form3 hrow6 hfz
           rw [hfz] at hvz
           injection hvz with e1 _ e3
           subst e1 e3
           have HZN:Hid (∀ n,n∈Ru.fill r.terms z.1→Sc.isNum n=true):=HNU.out z HZM.out
           rw [hfz]
           have HEQ:Hid (∀ n,Calls Tryz.prog 25 #[.slice (some ⟨ga,0,none⟩) m ca,.slice (some ⟨gz,0,none⟩) m cc_] (w6.drewN n) fun e w'=>e=.returned (.bool (decide (Ru.pre fa=Ru.pre (Ru.fill r.terms z.1))))∧∃ n',w'=(w6.drewN n).drewN n'):=fun n=>SameInts_any _ _ _ _ _ (intsV_below (intsV_below HAI.out HB6.out) (blw_drewN _ _)) (intsV_below HZI.out (blw_drewN _ _)) (by rw [Ru.pre_length]; have:=HFL.out; omega)
           have hzl:=hzc m (Nat.lt_succ_self m)
           have HLZ:Hid (Ru.lst (Ru.fill r.terms z.1)=Sc.intD (Ru.fill r.terms z.1) m):=by show _=_; rw [Ru.lst_eq,hfz]; rfl
           clear hrow6 hb6 hbY6 hzc HAK tk1 tkj
           generalize Ru.fill r.terms z.1=fb at *
           have u2:=cell_below HB6.out s2
           by_cases hpre:Ru.pre fa=Ru.pre fb
           · have hpd:decide (Ru.pre fa=Ru.pre fb)=true:=decide_eq_true hpre
             rw [hpd] at HEQ
             clear hpd
             go_upto_region 14 with fail
             go_quiet (first | (go_at_call 25; exact Calls.quiet_of (HEQ.out _)))
             have HGY:Hid (Ru.group ((q.take (k+1)).map (fun y=>Ru.head r y.1)) (Ru.pre fa)=Ru.group ((q.take k).map (fun y=>Ru.head r y.1)) (Ru.pre fa)++[Sc.intD fb m]):=by
              show _=_
              rw [HTZ.out,← HLZ.out]
              exact Ru.group_yes hpre.symm
             have hgl:(Ru.group ((q.take k).map (fun y=>Ru.head r y.1)) (Ru.pre fa)).length≤k:=by
              have h9:=Ru.group_le ((q.take k).map (fun y=>Ru.head r y.1)) (Ru.pre fa)
              rw [List.length_map,List.length_take] at h9
              omega
             have hsb:-2000000000≤(Ru.group ((q.take k).map (fun y=>Ru.head r y.1)) (Ru.pre fa)).sum∧(Ru.group ((q.take k).map (fun y=>Ru.head r y.1)) (Ru.pre fa)).sum≤2000000000:=by
              have h9:=sum_le (l:=Ru.group ((q.take k).map (fun y=>Ru.head r y.1)) (Ru.pre fa)) (Ru.group_num (fun g hg=>by
               obtain ⟨y2,hy2,rfl⟩:=List.mem_map.mp hg
               refine ⟨?_,HNU.out y2 (List.mem_of_mem_take hy2)⟩
               show 0<(Ru.fill r.terms y2.1).length
               unfold Ru.fill
               rw [List.length_map]
               have:=HTM.out
               omega))
              omega
             have hxn:Sc.isNum (Sc.intD fb m)=true:=by rw [← HLZ.out]; exact Ru.lst_num (by omega) HZN.out
             have HB7:Hid (Below w5.heap.size w5 (w6.drewN nq)):=HB6.out.trans ((blw_drewN _ _).mono HB6.out.size)
             replace hzl:=cell_below (blw_drewN w6 nq) hzl
             replace u2:=cell_below (blw_drewN w6 nq) u2
             generalize Ru.group ((q.take k).map (fun y=>Ru.head r y.1)) (Ru.pre fa)=Gk at *
             generalize Sc.intD fb m=x at *
             generalize w6.drewN nq=w7 at *
             clear HEQ HZI
             have hx2:-1000000≤x∧x≤1000000:=by
              unfold Sc.isNum Tr.between at hxn
              simp at hxn
              omega
             rcases (show r.fold=1∨r.fold=2∨r.fold=3∨r.fold=4 by omega) with h1 | h1 | h1 | h1
             · rw [h1] at u2
               have HN1:Hid (Ru.foldN r.fold (Ru.group ((q.take (k+1)).map (fun y=>Ru.head r y.1)) (Ru.pre fa))=(Gk.length:Int)+1):=by show _=_; rw [HGY.out,h1,Ru.foldN_one,List.length_append]; rfl
               have HL1:Hid (((Ru.group ((q.take (k+1)).map (fun y=>Ru.head r y.1)) (Ru.pre fa)).length:Int)=(Gk.length:Int)+1):=by show _=_; rw [HGY.out,List.length_append]; rfl
               generalize Ru.foldN r.fold Gk=n0 at *
               generalize Gk.length=gl at *
               clear h1
               go_wp2_with fail
               go_roundw
               case rel=>exact ⟨k+1,hltk,by go_num,by rw [HN1.out],by rw [HL1.out],HB7.out⟩
               case measure=>simp [intOf]; omega
             · have hn0:Ru.foldN r.fold Gk=Gk.sum:=by rw [h1]; rfl
               rw [← hn0] at hsb
               rw [h1] at u2
               have HN1:Hid (Ru.foldN r.fold (Ru.group ((q.take (k+1)).map (fun y=>Ru.head r y.1)) (Ru.pre fa))=Ru.foldN r.fold Gk+x):=by show _=_; rw [HGY.out,h1]; exact Ru.foldN_two _ _
               have HL1:Hid (((Ru.group ((q.take (k+1)).map (fun y=>Ru.head r y.1)) (Ru.pre fa)).length:Int)=(Gk.length:Int)+1):=by show _=_; rw [HGY.out,List.length_append]; rfl
               clear hn0 h1
               generalize Ru.foldN r.fold Gk=n0 at *
               generalize Gk.length=gl at *
               go_wp2_with fail
               go_roundw
               case rel=>exact ⟨k+1,hltk,by go_num,by rw [HN1.out],by rw [HL1.out],HB7.out⟩
               case measure=>simp [intOf]; omega
             · rw [h1] at u2
               have HFS:Hid (Ru.foldN r.fold (Ru.group ((q.take (k+1)).map (fun y=>Ru.head r y.1)) (Ru.pre fa))=if Gk.length=0∨x<Ru.foldN r.fold Gk then x else Ru.foldN r.fold Gk):=by show _=_; rw [HGY.out,h1]; exact Ru.foldN_three _ _
               have HL1:Hid (((Ru.group ((q.take (k+1)).map (fun y=>Ru.head r y.1)) (Ru.pre fa)).length:Int)=(Gk.length:Int)+1):=by show _=_; rw [HGY.out,List.length_append]; rfl
               clear h1 hsb
               generalize Ru.foldN r.fold Gk=n0 at *
               generalize Gk.length=gl at *
               by_cases hg0:gl=0
               · subst hg0
                 have HN1:Hid (Ru.foldN r.fold (Ru.group ((q.take (k+1)).map (fun y=>Ru.head r y.1)) (Ru.pre fa))=x):=by show _=_; rw [HFS.out,if_pos (Or.inl rfl)]
                 clear HFS
                 go_wp2_with fail
                 go_roundw
                 case rel=>exact ⟨k+1,hltk,by go_num,by rw [HN1.out],by rw [HL1.out]; rfl,HB7.out⟩
                 case measure=>simp [intOf]; omega
               · have hd1:(((gl:Int)+1)==1)=false:=beq_eq_false_iff_ne.mpr (by omega)
                 have hd2:decide ((gl:Int)+1=1)=false:=decide_eq_false (by omega)
                 have hd3:decide (gl=0)=false:=decide_eq_false hg0
                 by_cases hx0:x<n0
                 · have hx1:decide (x<n0)=true:=decide_eq_true hx0
                   have HN1:Hid (Ru.foldN r.fold (Ru.group ((q.take (k+1)).map (fun y=>Ru.head r y.1)) (Ru.pre fa))=x):=by show _=_; rw [HFS.out,if_pos (Or.inr hx0)]
                   clear HFS
                   go_wp2_with fail
                   go_roundw
                   case rel=>exact ⟨k+1,hltk,by go_num,by rw [HN1.out],by rw [HL1.out],HB7.out⟩
                   case measure=>simp [intOf]; omega
                 · have hx1:decide (x<n0)=false:=decide_eq_false hx0
                   have HN1:Hid (Ru.foldN r.fold (Ru.group ((q.take (k+1)).map (fun y=>Ru.head r y.1)) (Ru.pre fa))=n0):=by show _=_; rw [HFS.out,if_neg (fun e=>e.elim hg0 hx0)]
                   clear HFS
                   go_wp2_with fail
                   go_roundw
                   case rel=>exact ⟨k+1,hltk,by go_num,by rw [HN1.out],by rw [HL1.out],HB7.out⟩
                   case measure=>simp [intOf]; omega
             · rw [h1] at u2
               have HFS:Hid (Ru.foldN r.fold (Ru.group ((q.take (k+1)).map (fun y=>Ru.head r y.1)) (Ru.pre fa))=if Gk.length=0∨Ru.foldN r.fold Gk<x then x else Ru.foldN r.fold Gk):=by show _=_; rw [HGY.out,h1]; exact Ru.foldN_four _ _
               have HL1:Hid (((Ru.group ((q.take (k+1)).map (fun y=>Ru.head r y.1)) (Ru.pre fa)).length:Int)=(Gk.length:Int)+1):=by show _=_; rw [HGY.out,List.length_append]; rfl
               clear h1 hsb
               generalize Ru.foldN r.fold Gk=n0 at *
               generalize Gk.length=gl at *
               by_cases hg0:gl=0
               · subst hg0
                 have HN1:Hid (Ru.foldN r.fold (Ru.group ((q.take (k+1)).map (fun y=>Ru.head r y.1)) (Ru.pre fa))=x):=by show _=_; rw [HFS.out,if_pos (Or.inl rfl)]
                 clear HFS
                 go_wp2_with fail
                 go_roundw
                 case rel=>exact ⟨k+1,hltk,by go_num,by rw [HN1.out],by rw [HL1.out]; rfl,HB7.out⟩
                 case measure=>simp [intOf]; omega
               · have hd1:(((gl:Int)+1)==1)=false:=beq_eq_false_iff_ne.mpr (by omega)
                 have hd2:decide ((gl:Int)+1=1)=false:=decide_eq_false (by omega)
                 have hd3:decide (gl=0)=false:=decide_eq_false hg0
                 by_cases hx0:n0<x
                 · have hx1:decide (n0<x)=true:=decide_eq_true hx0
                   have HN1:Hid (Ru.foldN r.fold (Ru.group ((q.take (k+1)).map (fun y=>Ru.head r y.1)) (Ru.pre fa))=x):=by show _=_; rw [HFS.out,if_pos (Or.inr hx0)]
                   clear HFS
                   go_wp2_with fail
                   go_roundw
                   case rel=>exact ⟨k+1,hltk,by go_num,by rw [HN1.out],by rw [HL1.out],HB7.out⟩
                   case measure=>simp [intOf]; omega
                 · have hx1:decide (n0<x)=false:=decide_eq_false hx0
                   have HN1:Hid (Ru.foldN r.fold (Ru.group ((q.take (k+1)).map (fun y=>Ru.head r y.1)) (Ru.pre fa))=n0):=by show _=_; rw [HFS.out,if_neg (fun e=>e.elim hg0 hx0)]
                   clear HFS
                   go_wp2_with fail
                   go_roundw
                   case rel=>exact ⟨k+1,hltk,by go_num,by rw [HN1.out],by rw [HL1.out],HB7.out⟩
                   case measure=>simp [intOf]; omega
           · have hpd:decide (Ru.pre fa=Ru.pre fb)=false:=decide_eq_false hpre
             rw [hpd] at HEQ
             clear hpd
             have HGN:Hid (Ru.group ((q.take (k+1)).map (fun y=>Ru.head r y.1)) (Ru.pre fa)=Ru.group ((q.take k).map (fun y=>Ru.head r y.1)) (Ru.pre fa)):=by
              show _=_
              rw [HTZ.out]
              exact Ru.group_no (fun e=>hpre e.symm)
             go_upto_region 14 with fail
             go_quiet (first | (go_at_call 25; exact Calls.quiet_of (HEQ.out _)))
             go_wp2_with fail
             go_roundw
             case rel=>exact ⟨k+1,hltk,by go_num,by rw [HGN.out],by rw [HGN.out],HB6.out.trans ((blw_drewN _ _).mono HB6.out.size)⟩
             case measure=>simp [intOf]; omega
        · have hddk:decide (k<q.length)=false:=decide_eq_false hltk
          have HGE:Hid (Ru.group ((q.take k).map (fun y=>Ru.head r y.1)) (Ru.pre fa)=Ru.group (q.map (fun y=>Ru.head r y.1)) (Ru.pre fa)):=by show _=_; rw [List.take_of_length_le (by omega)]
          rw [HGE.out]
          generalize hng:Ru.foldN r.fold (Ru.group (q.map (fun y=>Ru.head r y.1)) (Ru.pre fa))=nn at *
          have HNG:Hid (Ru.foldN r.fold (Ru.group (q.map (fun y=>Ru.head r y.1)) (Ru.pre fa))=nn):=hng
          clear hng
          have HRN:Hid _:=refNum_any nn wk
          generalize (Ru.group (q.map (fun y=>Ru.head r y.1)) (Ru.pre fa)).length=gl
          go_wp2_with fail
          refine Calls.mono HRN.out ?_
          rintro _ w6 ⟨rfl,rfl⟩
          cases hnb:Sc.isNum nn
          · have HQ6:Hid (qo.map (·.1)=(((q.take (j+1)).map (fun y=>Ru.head r y.1)).map (Ru.gave r (q.map (fun y=>Ru.head r y.1)))).flatten):=by
             show _=_
             rw [HTK.out,HGV.out]
             unfold Ru.emit
             rw [HNG.out,hnb,if_neg (by decide),List.append_nil]
             exact HQO.out
            go_wp2_with fail
            go_roundw
            case rel=>exact ⟨j+1,qo,hlt,by go_num,ownsRow_below HO5.out HBK.out,HQ6.out,fun p hp=>ownsRow_below (HRO5.out p hp) HBK.out,by omega,HB5.out.trans (HBK.out.mono HB5.out.size)⟩
            case measure=>simp [intOf]; omega
          · have HEM:Hid (Ru.gave r (q.map (fun y=>Ru.head r y.1)) (Ru.head r y.1)=[(⟨r.pred,Ru.pre fa++[nn]⟩:Rl.Fc)]):=by
             show _=_
             rw [HGV.out]
             unfold Ru.emit
             rw [HNG.out,hnb,if_pos rfl]
            go_upto_region 23 with fail
            have HO9:Hid (w6.ownsRow w1.heap.size 55 2 (.slice ao qo.length co) qo.length (qo.map fcCells).flatten):=ownsRow_below HO5.out HBK.out
            have HRO9:Hid (∀ p,p∈qo→w6.ownsRow w1.heap.size 3 1 p.2 p.1.args.length (p.1.args.map (Value.int .i64))):=fun p hp=>ownsRow_below (HRO5.out p hp) HBK.out
            have HB9:Hid (Below w1.heap.size w1 w6):=HB5.out.trans (HBK.out.mono HB5.out.size)
            have HAI9:Hid (IntsV w6 (.slice (some ⟨ga,0,none⟩) m ca) (Ru.pre fa)):=intsV_below HAI.out HBK.out
            have s09:=cell_below HBK.out s0
            have HPL:Hid ((Ru.pre fa).length=m):=by show _=_; rw [Ru.pre_length,HFL.out]; rfl
            obtain ⟨WS,HWS⟩:∃ WS,Hid (WS=w6.heap.size):=⟨_,rfl⟩
            refine wp_region_tailS2 (ho23T (.slice ao qo.length co) (.slice (some ⟨ga,0,none⟩) (m+1) ca) (.slice (some ⟨ga,0,none⟩) m ca) RB m r.pred nn WS (Ru.pre fa)) (ho23U nn WS (Ru.pre fa)) 13 10 ho23E (by decide) (by decide) (by kernel_rfl) (by kernel_rfl) (by kernel_rfl) (by kernel_rfl) (ho23T_mono (.slice ao qo.length co) (.slice (some ⟨ga,0,none⟩) (m+1) ca) (.slice (some ⟨ga,0,none⟩) m ca) RB m r.pred nn WS (Ru.pre fa)) (ho23U_mono nn WS (Ru.pre fa)) (fun t v w w' he _ h=>ho23T_early (.slice ao qo.length co) (.slice (some ⟨ga,0,none⟩) (m+1) ca) (.slice (some ⟨ga,0,none⟩) m ca) RB m r.pred nn WS (Ru.pre fa) t v w w' he h) ?hopD ?htailD
            case hopD =>
             refine AllOpsI.cons (fun a y_ h hO=>?_) ?_
             · rw [if_neg (by decide)]
               intro _
               have e5:a.eval (.tmp 5)=(.slice ao qo.length co:Value):=hO 5 (by decide)
               refine opOk_val (v:=.slice ao qo.length co) (w':=y_) (wanted_none rfl) ?_ (fun t ht=>by cases ht; exact ⟨rfl,trivial⟩) (Below.refl _ _)
               have ec:=evc a
               generalize a.eval=ev at *
               clear h hO
               go_simp
             refine AllOpsI.cons (fun a y_ h hO=>?_) ?_
             · rw [if_neg (by decide)]
               intro _
               have e2:a.eval (.tmp 2)=(.pointer (some ⟨RB,0,none⟩):Value):=h.old 2 (by kernel_rfl)
               refine opOk_val (v:=.pointer (some ⟨RB,0,none⟩)) (w':=y_) (wanted_none rfl) ?_ (fun t ht=>by cases ht; exact ⟨rfl,trivial⟩) (Below.refl _ _)
               have ec:=evc a
               generalize a.eval=ev at *
               clear h hO
               go_simp
             refine AllOpsI.cons (fun a y_ h hO=>?_) ?_
             · rw [if_neg (by decide)]
               intro _
               have e114:a.eval (.tmp 114)=(.pointer (some ⟨RB,0,none⟩):Value):=h.of 114 (by kernel_rfl)
               have c0:=cell_below h.below s09
               refine opOk_val (v:=.int .i64 r.pred) (w':=y_) (wanted_none rfl) ?_ (fun t ht=>by cases ht; exact ⟨rfl,trivial⟩) (Below.refl _ _)
               have ec:=evc a
               generalize a.eval=ev at *
               clear h hO
               go_simp
             refine AllOpsI.cons (fun a y_ h hO=>?_) ?_
             · rw [if_neg (by decide)]
               intro _
               refine opOk_val (v:=.slice (some ⟨y_.heap.size,0,none⟩) 0 0) (w':=y_.alloc (.cells #[] 3)) (wanted_none rfl) ?_ (fun t ht=>by cases ht; exact ⟨trivial,⟨_,rfl,World.ownsRow_made y_ #[] 0 (by rw [HWS.out]; exact h.below.size) (Nat.zero_le _) rfl⟩⟩) ((Below.refl _ _).alloc (Nat.le_refl _) _)
               have ec:=evc a
               generalize a.eval=ev at *
               clear h hO
               go_simp
             refine AllOpsI.cons (fun a y_ h hO=>?_) ?_
             · rw [if_neg (by decide)]
               intro _
               have e8:a.eval (.tmp 8)=(.slice (some ⟨ga,0,none⟩) (m+1) ca:Value):=h.old 8 (by kernel_rfl)
               refine opOk_val (v:=.slice (some ⟨ga,0,none⟩) (m+1) ca) (w':=y_) (wanted_none rfl) ?_ (fun t ht=>by cases ht; exact ⟨rfl,trivial⟩) (Below.refl _ _)
               have ec:=evc a
               generalize a.eval=ev at *
               clear h hO
               go_simp
             refine AllOpsI.cons (fun a y_ h hO=>?_) ?_
             · rw [if_neg (by decide)]
               intro _
               have e6:a.eval (.tmp 6)=(.int .i64 (m:Nat):Value):=h.old 6 (by kernel_rfl)
               refine opOk_val (v:=.int .i64 (m:Nat)) (w':=y_) (wanted_none rfl) ?_ (fun t ht=>by cases ht; exact ⟨rfl,trivial⟩) (Below.refl _ _)
               have ec:=evc a
               generalize a.eval=ev at *
               clear h hO
               go_simp
             refine AllOpsI.cons (fun a y_ h hO=>?_) ?_
             · rw [if_neg (by decide)]
               intro _
               have e117:a.eval (.tmp 117)=(.slice (some ⟨ga,0,none⟩) (m+1) ca:Value):=h.of 117 (by kernel_rfl)
               have e118:a.eval (.tmp 118)=(.int .i64 (m:Nat):Value):=h.of 118 (by kernel_rfl)
               have g0:(0:Int)≤(m:Int):=by omega
               have g8:(m:Int)≤(ca:Int):=by omega
               refine opOk_val (v:=.slice (some ⟨ga,0,none⟩) m ca) (w':=y_) (wanted_none rfl) ?_ (fun t ht=>by cases ht; exact ⟨rfl,trivial⟩) (Below.refl _ _)
               have ec:=evc a
               generalize a.eval=ev at *
               clear h hO
               go_simp
             refine AllOpsI.cons (fun a y_ h hO=>?_) ?_
             · rw [if_neg (by decide)]
               intro h1
               obtain ⟨bq,e116,ho116⟩:∃ b',a.eval (.tmp 116)=.slice (some ⟨b',0,none⟩) 0 0∧y_.ownsRow WS 3 1 (a.eval (.tmp 116)) 0 []:=(h1 (by kernel_rfl)).of 116 (by kernel_rfl)
               have e119:a.eval (.tmp 119)=(.slice (some ⟨ga,0,none⟩) m ca:Value):=h.of 119 (by kernel_rfl)
               rw [e116] at ho116
               refine opOk_copy (wanted_none rfl) (.tmp 116) (.tmp 119) 22 rfl WS 3 j3 _ 1 8 Tryz.underlying22 hj3 hj30 hj31 hj32 rfl (by decide) bq e116 ho116 ⟨ga,0,none⟩ m ca _ e119 (by rw [List.length_map]; have:=HPL.out; omega) (ints_news (intsV_below HAI9.out h.below)) (by omega) (by decide) (by rw [HWS.out]; exact h.below.size) ?_
               intro v9 w9 ho9 hb9 t ht
               cases ht
               refine ⟨trivial,?_⟩
               show w9.ownsRow WS 3 1 v9 (Ru.pre fa).length ((Ru.pre fa).map (Value.int .i64))
               rw [HPL.out]
               exact ho9
             refine AllOpsI.cons (fun a y_ h hO=>?_) ?_
             · rw [if_neg (by decide)]
               intro _
               have e9:a.eval (.tmp 9)=(.int .i64 nn:Value):=h.old 9 (by kernel_rfl)
               refine opOk_val (v:=.int .i64 nn) (w':=y_) (wanted_none rfl) ?_ (fun t ht=>by cases ht; exact ⟨rfl,trivial⟩) (Below.refl _ _)
               have ec:=evc a
               generalize a.eval=ev at *
               clear h hO
               go_simp
             refine AllOpsI.cons (fun a y_ h hO=>?_) ?_
             · rw [if_neg (by decide)]
               intro _
               have e121:a.eval (.tmp 121)=(.int .i64 nn:Value):=h.of 121 (by kernel_rfl)
               refine opOk_val (v:=.slice (some ⟨y_.heap.size,0,none⟩) 1 1) (w':=y_.alloc (.cells #[.int .i64 nn] 3)) (wanted_none rfl) ?_ (fun t ht=>by cases ht; exact ⟨trivial,⟨_,rfl,heap_alloc_new y_ _⟩⟩) ((Below.refl _ _).alloc (Nat.le_refl _) _)
               have ec:=evc a
               generalize a.eval=ev at *
               clear h hO
               go_simp
             refine AllOpsI.cons (fun a y_ h hO=>?_) ?_
             · rw [if_pos (by decide)]
               intro h1
               refine ⟨wanted_none rfl,?_⟩
               have ho64:y_.ownsRow WS 3 1 (a.eval (.tmp 120)) (Ru.pre fa).length ((Ru.pre fa).map (Value.int .i64)):=h1.of 120 (by kernel_rfl)
               obtain ⟨b',e66,hb'⟩:∃ b',a.eval (.tmp 122)=.slice (some ⟨b',0,none⟩) 1 1∧y_.heap[b']?=some (.cells #[.int .i64 nn] 3):=h1.of 122 (by kernel_rfl)
               have hWy:WS≤y_.heap.size:=by rw [HWS.out]; exact h.below.size
               refine wp_append_own y_ (.tmp 120) (.tmp 122) 22 rfl WS 3 j3 _ 1 8 Tryz.underlying22 hj3 hj30 hj31 hj32 rfl (by decide) _ _ _ rfl ho64 ⟨b',0,none⟩ 1 1 (#[Value.int .i64 nn]:Array Value).toList e66 rfl (row_news hb') (fun u hu=>by simp only [List.mem_cons,List.not_mem_nil,or_false] at hu; subst hu; rfl) (by have:=HPL.out; unfold maxLen; omega) (by have:=HPL.out; omega) hWy ?_
               intro v9 w9 ho9 hg9 _
               refine ⟨v9,rfl,fun t ht=>?_,hg9.size,hg9.os,hg9.tape,hg9.output,hg9.size,fun k hk=>hg9.block k (by rw [HWS.out] at hWy; omega) (fun e=>by have:=(ho64.lt k e.symm).1; rw [HWS.out] at this; omega)⟩
               cases ht
               show w9.ownsRow WS 3 1 v9 ((Ru.pre fa)++[nn]).length (((Ru.pre fa)++[nn]).map (Value.int .i64))
               rw [List.length_append,List.map_append]
               exact ho9
             refine AllOpsI.cons (fun a y_ h hO=>?_) ?_
             · rw [if_neg (by decide)]
               intro _
               have ho:y_.ownsRow WS 3 1 (a.eval (.tmp 123)) ((Ru.pre fa)++[nn]).length (((Ru.pre fa)++[nn]).map (Value.int .i64)):=h.of 123 (by kernel_rfl)
               have e115:a.eval (.tmp 115)=(.int .i64 r.pred:Value):=h.of 115 (by kernel_rfl)
               obtain ⟨a9,c9,e123⟩:=own_slice ho
               rw [e123] at ho
               refine opOk_val (v:=.agg #[.int .i64 r.pred,.slice a9 ((Ru.pre fa)++[nn]).length c9]) (w':=y_) (wanted_none rfl) ?_ (fun t ht=>by cases ht; exact ⟨⟨_,rfl,ho⟩,trivial⟩) (Below.refl _ _)
               have ec:=evc a
               generalize a.eval=ev at *
               clear h hO
               go_simp
             refine AllOpsI.cons (fun a y_ h hO=>?_) ?_
             · rw [if_neg (by decide)]
               intro _
               obtain ⟨u,e124,ho⟩:∃ u,a.eval (.tmp 124)=.agg #[.int .i64 r.pred,u]∧y_.ownsRow WS 3 1 u ((Ru.pre fa)++[nn]).length (((Ru.pre fa)++[nn]).map (Value.int .i64)):=h.of 124 (by kernel_rfl)
               obtain ⟨a9,c9,rfl⟩:=own_slice ho
               refine opOk_val (v:=.slice (some ⟨y_.heap.size,0,none⟩) 1 1) (w':=y_.alloc (.cells #[.int .i64 r.pred,.slice a9 ((Ru.pre fa)++[nn]).length c9] 55)) (wanted_none rfl) ?_ (fun t ht=>by cases ht; exact ⟨⟨_,_,rfl,heap_alloc_new y_ _,ho.alloc _⟩,trivial⟩) ((Below.refl _ _).alloc (Nat.le_refl _) _)
               have ec:=evc a
               generalize a.eval=ev at *
               clear h hO
               go_simp
             exact AllOpsI.nil
            case htailD =>
             rintro ⟨tm0,df⟩ y_ hI _
             have e113:Act.eval ⟨tm0,df⟩ (.tmp 113)=(.slice ao qo.length co):=hI.all 0 _ 113 (by decide) rfl rfl
             obtain ⟨b',u9,e125,hb',hou⟩:∃ b' u,Act.eval ⟨tm0,df⟩ (.tmp 125)=.slice (some ⟨b',0,none⟩) 1 1∧y_.heap[b']?=some (.cells #[.int .i64 r.pred,u] 55)∧y_.ownsRow WS 3 1 u (Ru.pre fa++[nn]).length ((Ru.pre fa++[nn]).map (Value.int .i64)):=hI.all 12 _ 125 (by decide) rfl rfl
             have hoy:=ownsRow_below HO9.out hI.below
             have hby:Below w1.heap.size w1 y_:=HB9.out.trans (hI.below.mono HB9.out.size)
             have hWS:w1.heap.size≤WS:=by rw [HWS.out]; exact HB9.out.size
             have hsz10:w1.heap.size≤y_.heap.size:=hby.size
             have hsN:tm0.size=129:=hI.size
             obtain ⟨a9,c9,evi⟩:=own_slice hou
             show wpOps Tryz.prog _ _ [13,14] _ _
             rw [wpOps_cons]
             refine wpOp_wp rfl (wanted_none rfl) (wp_append_own y_ (.tmp 113) (.tmp 125) 27 rfl w1.heap.size 55 i0 _ 2 32 Tryz.underlying27 hi hz0 hz1 hz2 rfl (by decide) (.slice ao qo.length co) qo.length _ e113 hoy ⟨b',0,none⟩ 1 1 (#[Value.int .i64 r.pred,u9]:Array Value).toList e125 rfl (row_news hb') ?h1D ?h63D ?hbyD hsz10 ?_)
             case h1D =>
              intro u hu
              simp only [List.mem_cons,List.not_mem_nil,or_false] at hu
              rcases hu with rfl | rfl
              · rfl
              · rw [evi]
                rfl
             case h63D=>unfold maxLen; omega
             case hbyD=>omega
             intro v11 w11 ho11 hg11 _
             obtain ⟨av9,cv9,rfl⟩:=own_slice ho11
             have hown11:∀ kQ,((.slice ao qo.length co):Value).ownBlock=some kQ→w1.heap.size≤kQ:=fun kQ hk=>(hoy.lt kQ hk).1
             have h3:∀ (B':Nat) (l:List Int) (u:Value),y_.ownsRow B' 3 1 u l.length (l.map (Value.int .i64))→w11.ownsRow B' 3 1 u l.length (l.map (Value.int .i64)):=fun B' l u hu=>own_type hu (fun k c hk=>(hg11.block k (heap_lt hk) (fun e=>by have:=own_ty hoy e.symm hk; cases this)).trans hk)
             have HB11:Hid (Below w1.heap.size w1 w11):=hby.grown hg11 hby.size (fun kQ hk=>hown11 kQ hk)
             have HR11:Hid (w11.ownsRow w1.heap.size 3 1 u9 (Ru.pre fa++[nn]).length ((Ru.pre fa++[nn]).map (Value.int .i64))):=rl_own_le (h3 _ _ _ hou) hWS
             have HRO11:Hid (∀ p,p∈qo++[((⟨r.pred,Ru.pre fa++[nn]⟩:Rl.Fc),u9)]→w11.ownsRow w1.heap.size 3 1 p.2 p.1.args.length (p.1.args.map (Value.int .i64))):=fun p hp=>by
              rcases List.mem_append.mp hp with hp | hp
              · exact h3 _ _ _ (ownsRow_below (HRO9.out p hp) hI.below)
              · rcases List.mem_singleton.mp hp with rfl
                exact HR11.out
             have HO11:Hid (w11.ownsRow w1.heap.size 55 2 (.slice av9 (qo.length+1) cv9) (qo++[((⟨r.pred,Ru.pre fa++[nn]⟩:Rl.Fc),u9)]).length ((qo++[((⟨r.pred,Ru.pre fa++[nn]⟩:Rl.Fc),u9)]).map fcCells).flatten):=by
              show World.ownsRow _ _ _ _ _ _ _
              rw [List.length_append,List.map_append,List.flatten_append]
              exact ho11
             have HQ11:Hid ((qo++[((⟨r.pred,Ru.pre fa++[nn]⟩:Rl.Fc),u9)]).map (·.1)=(((q.take (j+1)).map (fun y=>Ru.head r y.1)).map (Ru.gave r (q.map (fun y=>Ru.head r y.1)))).flatten):=by
              show _=_
              rw [HTK.out,HEM.out,← HQO.out,List.map_append]
              rfl
             have e126:Act.eval (Act.put ⟨tm0,df⟩ (some 126) (.slice av9 (qo.length+1) cv9)) (.tmp 126)=(.slice av9 (qo.length+1) cv9):=put_get_self (by show 126<tm0.size; omega)
             rw [wpOps_cons]
             refine wpOp_val (v:=(.slice av9 (qo.length+1) cv9)) (w':=w11) rfl (wanted_none rfl) ?_ ?_
             · show Sem.run Tryz.prog (execOp (Act.eval (Act.put ⟨tm0,df⟩ (some 126) (.slice av9 (qo.length+1) cv9))) _) w11=_
               generalize Act.eval (Act.put ⟨tm0,df⟩ (some 126) (.slice av9 (qo.length+1) cv9))=ev at *
               clear hI
               go_simp
             have hst:∀ t,t∉[113,114,115,116,117,118,119,120,121,122,123,124,125,126,5]→((tm0.setIfInBounds 126 (.slice av9 (qo.length+1) cv9)).setIfInBounds 5 (.slice av9 (qo.length+1) cv9)).getD t undef=_:=fun t ht=>by
              have hB:t≠126:=fun e=>ht (by rw [e]; decide)
              have hC:t≠5:=fun e=>ht (by rw [e]; decide)
              exact ((put_get_ne (a:=Act.put ⟨tm0,df⟩ (some 126) (.slice av9 (qo.length+1) cv9)) hC).trans (put_get_ne (a:=⟨tm0,df⟩) hB)).trans (hI.still t ht)
             have hs3:((tm0.setIfInBounds 126 (.slice av9 (qo.length+1) cv9)).setIfInBounds 5 (.slice av9 (qo.length+1) cv9)).size=129:=by simp [hsN]
             have h5:((tm0.setIfInBounds 126 (.slice av9 (qo.length+1) cv9)).setIfInBounds 5 (.slice av9 (qo.length+1) cv9)).getD 5 undef=(.slice av9 (qo.length+1) cv9):=put_get_self (a:=Act.put ⟨tm0,df⟩ (some 126) (.slice av9 (qo.length+1) cv9)) (by rw [put_size]; show 5<tm0.size; omega)
             obtain rfl:df=[]:=hI.defers
             clear hI e113 e125 hb' hou hoy hby hsz10 hsN evi ho11 hg11 hown11 h3 e126
             show Exit.inBlock 1 (Exit.then _ _) Exit.normal ⟨(tm0.setIfInBounds 126 (.slice av9 (qo.length+1) cv9)).setIfInBounds 5 (.slice av9 (qo.length+1) cv9),[]⟩ _
             generalize (tm0.setIfInBounds 126 (.slice av9 (qo.length+1) cv9)).setIfInBounds 5 (.slice av9 (qo.length+1) cv9)=tm at *
             have hF8:=tmps_fold [113,114,115,116,117,118,119,120,121,122,123,124,125,126,5] tm _ (hs3.trans (by rfl)) hst
             clear hs3 hst
             simp only [List.foldl_cons,List.foldl_nil,h5] at hF8
             clear h5
             generalize tm.getD 113 undef=x113 at hF8
             generalize tm.getD 114 undef=x114 at hF8
             generalize tm.getD 115 undef=x115 at hF8
             generalize tm.getD 116 undef=x116 at hF8
             generalize tm.getD 117 undef=x117 at hF8
             generalize tm.getD 118 undef=x118 at hF8
             generalize tm.getD 119 undef=x119 at hF8
             generalize tm.getD 120 undef=x120 at hF8
             generalize tm.getD 121 undef=x121 at hF8
             generalize tm.getD 122 undef=x122 at hF8
             generalize tm.getD 123 undef=x123 at hF8
             generalize tm.getD 124 undef=x124 at hF8
             generalize tm.getD 125 undef=x125 at hF8
             generalize tm.getD 126 undef=x126 at hF8
             simp only [List.setIfInBounds_toArray,List.set_cons_zero,List.set_cons_succ] at hF8
             subst hF8
             go_wp2_with fail
             go_roundw
             case rel=>exact ⟨j+1,_,hlt,by go_num,HO11.out,HQ11.out,HRO11.out,by rw [List.length_append]; exact Nat.succ_le_succ hqk,HB11.out⟩
             case measure=>simp [intOf]; omega
  · have hdd:decide (j<q.length)=false:=decide_eq_false hlt
    have HFE:Hid (qo.map (·.1)=Ru.headsL r (q.map (·.1))):=by
     show _=_
     have h9:q.map (fun y=>Ru.head r y.1)=(q.map (·.1)).map (Ru.head r):=by rw [List.map_map]; rfl
     rw [HQO.out,List.take_of_length_le (by omega),h9,Ru.gave_flat]
    have hFP:FactsP w1.heap.size wo (.slice ao qo.length co) (qo.map (·.1)):=⟨qo,rfl,HO.out,HRO.out⟩
    have HS:Hid _:=SetOf_phi (fun x=>wo.ownsRow w1.heap.size 3 1 x.2 x.1.args.length (x.1.args.map (Value.int .i64))) (qo.map (·.1)) _ wo wo (fun b off cap k hv hk u hc=>row_phi HO.out HRO.out hv (by rw [List.length_map] at hk; exact hk) hc) (Below.refl _ _) hFP.toV (by rw [List.length_map]; omega) (fun f hf2=>by
     obtain ⟨x,hx,rfl⟩:=List.mem_map.mp hf2
     have h9:=HRO.out x hx
     show _≤_
     rcases h9.2 with ⟨_,h0⟩ | ⟨_,cap,_,_,_,_,h1,h2,_⟩
     · omega
     · exact Nat.le_trans h1 (Nat.le_trans h2 (by unfold maxLen; decide)))
    have HSE:Hid (Rl.set (qo.map (·.1))=Ru.heads r (q.map (·.1))):=by show _=_; rw [HFE.out]; rfl
    clear hFP
    go_wp2_with fail
    refine Calls.mono HS.out ?_
    rintro _ w6 ⟨v',rfl,⟨q6,h61,h62,h63⟩,hb6⟩
    rw [HSE.out] at h61
    have hBB:Below w.heap.size w w6:=HB1.out.trans ((HBO.out.trans (hb6.mono HBO.out.size)).mono HB1.out.size)
    have hFP6:FactsP w.heap.size w6 v' (Ru.heads r (q.map (·.1))):=⟨q6,h61,rl_own_le h62 (Nat.le_trans HB1.out.size HBO.out.size),fun p hp=>ownsRow_below (rl_own_le (h63 p hp).2 HB1.out.size) hb6⟩
    obtain ⟨a9,c9,rfl⟩:=own_slice h62
    clear h61 h62 h63 hb6
    go_wp2_with fail
    go_ret
    exact ⟨_,rfl,hFP6,hBB⟩
namespace Ru
theorem in_perm {p:Sc.Prog} {i:Int} {l:List Rl.Fc} (h:In p i l):(ways (Rl.set l) (rule p i)).Perm (refWays (Rl.set l) (rule p i)) :=
 same_many (ruleIn_of h.rule h.set) (right_nums h.set) (set_nodup l)
theorem tells_in {p:Sc.Prog} {i:Int} {l:List Rl.Fc} (hc:check p i l=0) :
 (refOk l (rule p i)=true∧waysErr p i l=0∧waysOut p i l=refOut l (rule p i))∨(refOk l (rule p i)=false∧waysErr p i l=2∧waysOut p i l=[]):=by
 have hp:=in_perm (check_in hc)
 have hwe:waysErr p i l=if 2000<(refWays (Rl.set l) (rule p i)).length then 2 else 0:=by
  unfold waysErr
  rw [if_neg (fun h=>h hc),hp.length_eq]
 by_cases h:(refWays (Rl.set l) (rule p i)).length≤2000
 · left
   have h0:waysErr p i l=0:=by rw [hwe,if_neg (by omega)]
   have h1:refOk l (rule p i)=true:=decide_eq_true h
   refine ⟨h1,h0,?_⟩
   unfold waysOut refOut
   rw [if_neg (fun e=>e h0),if_pos h1]
   exact srt_same fun x=>hp.mem_iff
 · right
   have h0:waysErr p i l=2:=by rw [hwe,if_pos (by omega)]
   refine ⟨decide_eq_false h,h0,?_⟩
   unfold waysOut
   rw [if_pos (by rw [h0]; decide)]
theorem heads_len (r:Sc.Rule) (W:List (List Int)):(heads r W).length≤W.length:=by
 unfold heads
 have h1:=List.Nodup.length_le_of_subset (l₂:=headsL r W) (set_nodup (headsL r W)) fun f hf=>Rl.mem_set.mp hf
 refine Nat.le_trans h1 ?_
 unfold headsL
 split
 · rw [List.length_map]; exact Nat.le_refl _
 · refine Nat.le_trans (List.length_filterMap_le _ _) ?_
   rw [List.length_map]; exact Nat.le_refl _
theorem headsOut_right {p:Sc.Prog} {i:Int} {l:List Rl.Fc} (hin:In p i l) (he:waysErr p i l=0) {f:Rl.Fc} (hf:f∈headsOut p i l):Right p.arity f:=by
 unfold headsOut waysOut at hf
 rw [if_neg (fun h=>h he),heads_perm _ (srt_perm (ways_nodup (ruleIn_of hin.rule hin.set) (right_nums hin.set) (set_nodup l)))] at hf
 exact hd_right hin.rule hin.set hf
theorem waysErr_check {p:Sc.Prog} {i:Int} {l:List Rl.Fc} (hc:¬ check p i l=0):waysErr p i l=check p i l∧waysOut p i l=[]:=by
 have h:waysErr p i l=check p i l:=by unfold waysErr; rw [if_pos hc]
 exact ⟨h,by unfold waysOut; rw [if_pos (by rw [h]; exact hc)]⟩
end Ru
theorem WaysOf_in (p:Sc.Prog) (i:Int) (facts:List Rl.Fc) (vt vb vf:Value) (w:World) (hin:Ru.In p i facts) (hT:PTermsV w vt (Ru.rule p i).terms) (hB:PLitsV w vb (Ru.rule p i).body) (hF:FactsV w vf facts) :
 Calls Tryz.prog 17 #[pruleVal (Ru.rule p i) vt vb,vf] w fun e w'=>∃ v q,e=.returned (.tuple #[v,.bool (Ru.refOk facts (Ru.rule p i))])∧NumsP w.heap.size w' v q∧q.map (·.1)=Ru.refOut facts (Ru.rule p i)∧Below w.heap.size w w':=by
 have hr:=hin.rule
 have hRI:=Ru.ruleIn_of hr hin.set
 exact WaysOf_any facts (Ru.rule p i) vt vb vf w hT hB hF hin.len (fun f hf=>by have:=Ru.right_short hin.ok (hin.fs f hf); unfold FFit; omega) (Ru.rule p i).vars.toNat (by have:=hr.v0; omega) (by have:=hr.v8; omega) hr.b4 (Ru.right_nums hin.set)
  (fun l hl=>Ru.litFine_of hin.ok hr hin.set hl) (Ru.refWays_nodup hRI (Ru.set_nodup facts)) (fun x hx=>((Ru.mem_refWays hRI x).mp hx).1)
theorem refOut_sol {p:Sc.Prog} {i:Int} {facts:List Rl.Fc} (hin:Ru.In p i facts) {x:List Int} (hx:x∈Ru.refOut facts (Ru.rule p i)):Ru.Sol (Rl.set facts) (Ru.rule p i) x:=by
 unfold Ru.refOut at hx
 split at hx
 · exact (Ru.mem_refWays (Ru.ruleIn_of hin.rule hin.set) x).mp (Ru.mem_srt.mp hx)
 · cases hx
theorem refOut_le {p:Sc.Prog} {i:Int} {facts:List Rl.Fc} (hin:Ru.In p i facts):(Ru.refOut facts (Ru.rule p i)).length≤2000:=by
 unfold Ru.refOut
 split
 · rename_i h
   rw [(Ru.srt_perm (Ru.refWays_nodup (Ru.ruleIn_of hin.rule hin.set) (Ru.set_nodup facts))).length_eq]
   exact of_decide_eq_true h
 · exact Nat.zero_le _
theorem HeadsOf_in (p:Sc.Prog) (i:Int) (facts:List Rl.Fc) (q:List Nv) (vt vb vw:Value) (B:Nat) (w:World) (hin:Ru.In p i facts) (hT:PTermsV w vt (Ru.rule p i).terms) (hB:PLitsV w vb (Ru.rule p i).body) (hN:NumsP B w vw q) (hq:q.map (·.1)=Ru.refOut facts (Ru.rule p i)) :
 Calls Tryz.prog 18 #[pruleVal (Ru.rule p i) vt vb,vw] w fun e w'=>∃ v',e=.returned v'∧FactsP w.heap.size w' v' (Ru.heads (Ru.rule p i) (Ru.refOut facts (Ru.rule p i)))∧Below w.heap.size w w':=by
 have hr:=hin.rule
 have hS:∀ y,y∈q→Ru.Sol (Rl.set facts) (Ru.rule p i) y.1:=fun y hy=>refOut_sol hin (by rw [← hq]; exact List.mem_map_of_mem hy)
 have hl:q.length≤2000:=by have:=refOut_le hin; rw [← hq,List.length_map] at this; exact this
 rw [← hq]
 exact HeadsOf_any (Ru.rule p i) q vt vb vw B w hT hB hN hl (Ru.rule_short hin.ok hr) (fun y hy=>by rw [(hS y hy).1]; exact Ru.termsIn_of hr) (fun y hy=>(Ru.head_right hr hin.set (hS y hy)).nm) ⟨hr.f0,hr.f4⟩ (fun h=>(hr.ff h).1)
theorem CheckFact_any (p:Sc.Prog) (va vn vr:Value) (pred:Int) (args:List Int) (v:Value) (w:World) (hA:IntsV w va p.arity) (har:p.arity.length≤9223372036854775807) (hV:IntsV w v args) (hmax:args.length≤9223372036854775807) :
 Calls Tryz.prog 43 #[progVal va vn vr,factVal pred v] w fun e w'=>e=.returned (.int .i64 (Sc.factErr p pred args))∧Below w.heap.size w w':=by
 obtain ⟨ao,cap,rfl,hA⟩:=hA
 obtain ⟨ag,cg,rfl,hG⟩:=hV
 have HE:Hid (Sc.factErr p pred args=if Sc.isPred p.arity pred then Sc.thn (if (args.length:Int)≠Sc.intD p.arity pred.toNat then 1 else 0) (if args.all Sc.isNum then 0 else 3) else 5):=rfl
 have hR:=RB.start w (.cells #[.slice ao p.arity.length cap,vn,vr] 26) (.cells #[.int .i64 pred,.slice ag args.length cg] 55)
 go_enter Tryz.func43,Tryz.ntmps43
 go_wp2_with fail
 refine (btw_any _ _ _ _).mono ?_
 rintro e w2 ⟨he,hw2⟩
 subst hw2
 cases g1:Sc.isPred p.arity pred
 · have hbt:Tr.between pred 0 ((p.arity.length:Int) - 1)=false:=g1
   rw [hbt] at he
   subst he
   have HV:Hid (Sc.factErr p pred args=5):=by show _=_; rw [HE.out,g1]; rfl
   clear HE hA hbt
   go_wp2_with fail
   go_ret
   exact ⟨by rw [HV.out]; rfl,hR.bel⟩
 have hbt:Tr.between pred 0 ((p.arity.length:Int) - 1)=true:=g1
 rw [hbt] at he
 subst he
 clear hbt
 obtain ⟨k,rfl,hk⟩:=nat_of g1
 obtain ⟨b,off,rfl,hc⟩:=ints_at hA k hk
 have hq:=cell_below hR.bel hc
 rw [g1,if_pos rfl,Int.toNat_natCast] at HE
 clear hc hA
 go_upto_region 3 with fail
 generalize (w.alloc (.cells #[.slice (some ⟨b,off,none⟩) p.arity.length cap,vn,vr] 26)).alloc (.cells #[.int .i64 k,.slice ag args.length cg] 55)=w1 at *
 have c1:w1.cell? ⟨w.heap.size,0,none⟩=some (.slice (some ⟨b,off,none⟩) p.arity.length cap):=by rw [Lib.cell_of_heap hR.b1]; rfl
 have d0:w1.cell? ⟨w.heap.size+1,0,none⟩=some (.int .i64 k):=by rw [Lib.cell_of_heap hR.b2]; rfl
 have d1:w1.cell? ⟨w.heap.size+1,1,none⟩=some (.slice ag args.length cg):=by rw [Lib.cell_of_heap hR.b2]; rfl
 cases g2:((args.length:Int) != Sc.intD p.arity k)
 rotate_left
 · have h2:¬ (args.length:Int)=Sc.intD p.arity k:=by simpa using g2
   have HV:Hid (Sc.factErr p k args=1):=by show _=_; rw [HE.out,if_pos h2]; rfl
   clear HE h2
   go_region_held3 (fun y=>y.cell? ⟨w.heap.size,0,none⟩=some (.slice (some ⟨b,off,none⟩) p.arity.length cap)∧y.cell? ⟨w.heap.size+1,0,none⟩=some (.int .i64 k)∧y.cell? ⟨w.heap.size+1,1,none⟩=some (.slice ag args.length cg)∧y.cell? ⟨b,off+k,none⟩=some (.int .i64 (Sc.intD p.arity k))) (go_keep) (fail)
   have hbd:=hR.bel.drew
   go_wp2_with fail
   go_ret
   exact ⟨by rw [HV.out]; rfl,hbd⟩
 have h2:(args.length:Int)=Sc.intD p.arity k:=by simpa using g2
 rw [if_neg (by simp [h2]),Sc.thn_zero] at HE
 clear h2
 go_region_held3 (fun y=>y.cell? ⟨w.heap.size,0,none⟩=some (.slice (some ⟨b,off,none⟩) p.arity.length cap)∧y.cell? ⟨w.heap.size+1,0,none⟩=some (.int .i64 k)∧y.cell? ⟨w.heap.size+1,1,none⟩=some (.slice ag args.length cg)∧y.cell? ⟨b,off+k,none⟩=some (.int .i64 (Sc.intD p.arity k))) (go_keep) (fail)
 have hR:=hR.drew
 clear c1 d0 d1 hq
 generalize w1.drew=wd at *
 go_wp2_with fail
 go_loopw [5] (fun i wr=>∃ j:Nat,j≤args.length∧i=.int .i64 j∧RB w (.cells #[.slice (some ⟨b,off,none⟩) p.arity.length cap,vn,vr] 26) (.cells #[.int .i64 k,.slice ag args.length cg] 55) wr∧args.all Sc.isNum=(args.drop j).all Sc.isNum) (fun i _=>args.length - (intOf i).toNat)
 case atStart=>exact ⟨0,Nat.zero_le _,rfl,hR,rfl⟩
 case round =>
  clear hR
  obtain ⟨j,hj,rfl,hR,hall⟩:=hrel
  have HAL:Hid _:=hall
  clear hall
  have d1:wr.cell? ⟨w.heap.size+1,1,none⟩=some (.slice ag args.length cg):=by rw [Lib.cell_of_heap hR.b2]; rfl
  by_cases hjl:j<args.length
  · obtain ⟨b3,off3,rfl,hc⟩:=ints_at hG j hjl
    have q0:=cell_below hR.bel hc
    have HD:Hid (args.all Sc.isNum=(Sc.isNum (Sc.intD args j) && (args.drop (j+1)).all Sc.isNum)):=HAL.out.trans (all_drop _ _ _ j hjl)
    clear hc hG HAL
    generalize Sc.intD args j=a at *
    go_wp2_with fail
    refine (refNum_any a _).mono ?_
    rintro e w3 ⟨he,rfl⟩
    cases hx:Sc.isNum a
    · rw [hx] at he
      subst he
      have HV:Hid (Sc.factErr p k args=3):=by show _=_; rw [HE.out,HD.out,hx]; rfl
      clear HE HD
      go_wp2_with fail
      go_ret
      exact ⟨by rw [HV.out]; rfl,hR.bel⟩
    · rw [hx] at he
      subst he
      have HV:Hid (args.all Sc.isNum=(args.drop (j+1)).all Sc.isNum):=by show _=_; rw [HD.out,hx]; rfl
      clear HD
      go_wp2_with fail
      go_roundw
      case rel=>exact ⟨j+1,by omega,by go_num,hR,HV.out⟩
      case measure=>simp [intOf]; omega
  · have HV:Hid (Sc.factErr p k args=0):=by show _=_; rw [HE.out,HAL.out,List.drop_of_length_le (by omega)]; rfl
    clear HE hG
    go_wp2_with fail
    go_ret
    exact ⟨by rw [HV.out]; rfl,hR.bel⟩
namespace Ru
def factsE (p:Sc.Prog) (l:List Rl.Fc):Int:=if 60<l.length then 2 else Sc.first (fun f:Rl.Fc=>Sc.factErr p f.pred f.args) l
end Ru
def chkF6Tv (fb foff k:Nat) (er:Int) (PV VF FV:Value):Nat→Value
 | 16=>PV
 | 17=>VF
 | 18=>.int .i64 (k:Nat)
 | 19=>.pointer (some ⟨fb,foff+k * 2,none⟩)
 | 20=>FV
 | 21=>.int .i64 er
 | 6=>.int .i64 er
 | _=>.bool false
theorem CheckFacts_any (p:Sc.Prog) (facts:List Rl.Fc) (va vn vr vf:Value) (w:World) (hP:ProgV w va vn vr p) (hF:ProgFit p) (hV:FactsV w vf facts) (hFl:facts.length≤9223372036854775807) (hFF:∀ f,f∈facts→FFit f) :
 Calls Tryz.prog 32 #[progVal va vn vr,vf] w fun e w'=>e=.returned (.int .i64 (Ru.factsE p facts))∧Below w.heap.size w w':=by
 obtain ⟨a0,n0,rfl,_⟩:=id hP.ar
 obtain ⟨a1,n1,rfl,_⟩:=id hP.nm
 obtain ⟨a2,n2,rfl,_⟩:=id hP.rl
 obtain ⟨af,cf,rfl,_,hFA⟩:=id hV
 have bT:=new_below w (.cells #[.slice a0 p.arity.length n0,.slice a1 p.names.length n1,.slice a2 p.rules.length n2] 26)
 have HBX:Hid _:=heap_alloc_new w (.cells #[.slice a0 p.arity.length n0,.slice a1 p.names.length n1,.slice a2 p.rules.length n2] 26)
 have HB:Hid _:=bT
 have HAR:Hid (IntsV w (.slice a0 p.arity.length n0) p.arity∧p.arity.length≤9223372036854775807):=⟨hP.ar,hF.ar⟩
 have HFA:Hid _:=hFA
 have HFF:Hid _:=hFF
 clear hP hF hV hFA hFF bT
 by_cases h60:60<facts.length
 · have g60:decide ((60:Int)<(facts.length:Int))=true:=decide_eq_true (by omega)
   have g60n:decide (60<facts.length)=true:=decide_eq_true h60
   have HL60:Hid _:=h60
   clear h60
   go_enter Tryz.func32,Tryz.ntmps32
   go_wp2_with fail
   go_ret
   have HE:Hid (Ru.factsE p facts=2):=by show _=_; unfold Ru.factsE; rw [if_pos HL60.out]
   exact ⟨by rw [HE.out]; rfl,HB.out⟩
 · have g60:decide ((60:Int)<(facts.length:Int))=false:=decide_eq_false (by omega)
   have g60n:decide (60<facts.length)=false:=decide_eq_false h60
   have HL60:Hid _:=h60
   have hle:facts.length≤60:=by omega
   clear h60
   go_enter Tryz.func32,Tryz.ntmps32
   go_upto_region 1 with fail
   generalize w.alloc (.cells #[.slice a0 p.arity.length n0,.slice a1 p.names.length n1,.slice a2 p.rules.length n2] 26)=w1 at *
   generalize hPB:w.heap.size=PB at *
   go_wp2_with fail
   go_loopw [5] (fun iv wr=>∃ k:Nat,k≤facts.length∧iv=.int .i64 k∧Hid (Sc.first (fun f:Rl.Fc=>Sc.factErr p f.pred f.args) facts=Sc.first (fun f:Rl.Fc=>Sc.factErr p f.pred f.args) (facts.drop k))∧Hid (Below w.heap.size w wr∧Below w1.heap.size w1 wr)) (fun iv _=>facts.length - (intOf iv).toNat)
   case atStart=>exact ⟨0,Nat.zero_le _,rfl,by show _=_; rw [List.drop_zero],by rw [hPB]; exact HB.out,Below.refl _ _⟩
   case round =>
    obtain ⟨k,hk,rfl,HK,HBB⟩:=hrel
    have HB2:Hid (Below w.heap.size w wr):=HBB.out.1
    have hPX:=(HBB.out.2.block _ (heap_lt HBX.out)).trans HBX.out
    have c0:wr.cell? ⟨PB,0,none⟩=some (.slice a0 p.arity.length n0):=by rw [Lib.cell_of_heap hPX]; rfl
    have c1:wr.cell? ⟨PB,1,none⟩=some (.slice a1 p.names.length n1):=by rw [Lib.cell_of_heap hPX]; rfl
    have c2:wr.cell? ⟨PB,2,none⟩=some (.slice a2 p.rules.length n2):=by rw [Lib.cell_of_heap hPX]; rfl
    clear hPX
    by_cases hlt:k<facts.length
    · obtain ⟨fb,foff,rfl,f0,fv,f1,hIv⟩:=facts_at HFA.out k hlt
      have hmem:=factD_mem facts k hlt
      have p0:=cell_below HB2.out f0
      have p1:=cell_below HB2.out f1
      have HDR:Hid _:=Ru.drop_fact hlt
      have HCF:Hid (∀ y_,Below wr.heap.size wr y_→Calls Tryz.prog 43 #[progVal (.slice a0 p.arity.length n0) (.slice a1 p.names.length n1) (.slice a2 p.rules.length n2),fcVal (Rl.factD facts k).pred fv] y_ fun e w'=>e=.returned (.int .i64 (Sc.factErr p (Rl.factD facts k).pred (Rl.factD facts k).args))∧Below y_.heap.size y_ w'):=fun y_ hb=>by
       have hb':Below w.heap.size w y_:=HB2.out.trans (hb.mono HB2.out.size)
       exact CheckFact_any p _ _ _ _ _ fv y_ (intsV_below HAR.out.1 hb') HAR.out.2 (intsV_below hIv hb') (HFF.out _ hmem)
      obtain ⟨ai,ci,rfl,_⟩:=id hIv
      clear f0 f1 hIv hmem
      generalize Rl.factD facts k=ff at *
      obtain ⟨fp,fa⟩:=ff
      dsimp only at *
      obtain ⟨er,HER⟩:∃ er,Hid (Sc.factErr p fp fa=er):=⟨_,rfl⟩
      rw [HER.out] at HCF
      go_upto_region 6 with fail
      refine wp_region_tabA (fun tQ vQ _=>vQ=chkF6Tv fb foff k er (progVal (.slice a0 p.arity.length n0) (.slice a1 p.names.length n1) (.slice a2 p.rules.length n2)) (.slice (some ⟨fb,foff,none⟩) facts.length cf) (fcVal fp (.slice ai fa.length ci)) tQ) (by kernel_rfl) (by kernel_rfl) (fun _ _ _ _ _ h=>h) ?hop ?hend
      case hop =>
       refine AllOps.cons (fun a y_ h=>?_) ?_
       · have e2:a.eval (.tmp 2)=(.pointer (some ⟨PB,0,none⟩):Value):=h.old 2 (by kernel_rfl)
         have x0:=cell_below h.below c0
         have x1:=cell_below h.below c1
         have x2:=cell_below h.below c2
         refine opOk_val (v:=progVal (.slice a0 p.arity.length n0) (.slice a1 p.names.length n1) (.slice a2 p.rules.length n2)) (w':=y_) (wanted_none rfl) ?_ (fun t ht=>by cases ht; exact rfl) (Below.refl _ _)
         have ec:=evc a
         generalize a.eval=ev at *
         clear h
         go_simp
       refine AllOps.cons (fun a y_ h=>?_) ?_
       · have e1:a.eval (.tmp 1)=(.slice (some ⟨fb,foff,none⟩) facts.length cf:Value):=h.old 1 (by kernel_rfl)
         refine opOk_val (v:=.slice (some ⟨fb,foff,none⟩) facts.length cf) (w':=y_) (wanted_none rfl) ?_ (fun t ht=>by cases ht; exact rfl) (Below.refl _ _)
         have ec:=evc a
         generalize a.eval=ev at *
         clear h
         go_simp
       refine AllOps.cons (fun a y_ h=>?_) ?_
       · have e5:a.eval (.tmp 5)=(.int .i64 (k:Nat):Value):=h.old 5 (by kernel_rfl)
         refine opOk_val (v:=.int .i64 (k:Nat)) (w':=y_) (wanted_none rfl) ?_ (fun t ht=>by cases ht; exact rfl) (Below.refl _ _)
         have ec:=evc a
         generalize a.eval=ev at *
         clear h
         go_simp
       refine AllOps.cons (fun a y_ h=>?_) ?_
       · have e17:a.eval (.tmp 17)=(.slice (some ⟨fb,foff,none⟩) facts.length cf:Value):=h.of 17 (by kernel_rfl)
         have e18:a.eval (.tmp 18)=(.int .i64 (k:Nat):Value):=h.of 18 (by kernel_rfl)
         refine opOk_val (v:=.pointer (some ⟨fb,foff+k * 2,none⟩)) (w':=y_) (wanted_none rfl) ?_ (fun t ht=>by cases ht; exact rfl) (Below.refl _ _)
         have ec:=evc a
         generalize a.eval=ev at *
         clear h
         go_simp
       refine AllOps.cons (fun a y_ h=>?_) ?_
       · have e19:a.eval (.tmp 19)=(.pointer (some ⟨fb,foff+k * 2,none⟩):Value):=h.of 19 (by kernel_rfl)
         have x0:=cell_below h.below p0
         have x1:=cell_below h.below p1
         refine opOk_val (v:=fcVal fp (.slice ai fa.length ci)) (w':=y_) (wanted_none rfl) ?_ (fun t ht=>by cases ht; exact rfl) (Below.refl _ _)
         have ec:=evc a
         generalize a.eval=ev at *
         clear h
         go_simp
       refine AllOps.cons (fun a y_ h=>?_) ?_
       · have e16:a.eval (.tmp 16)=(progVal (.slice a0 p.arity.length n0) (.slice a1 p.names.length n1) (.slice a2 p.rules.length n2):Value):=h.of 16 (by kernel_rfl)
         have e20:a.eval (.tmp 20)=(fcVal fp (.slice ai fa.length ci):Value):=h.of 20 (by kernel_rfl)
         refine opOk_call (f:=43) (args:=#[progVal (.slice a0 p.arity.length n0) (.slice a1 p.names.length n1) (.slice a2 p.rules.length n2),fcVal fp (.slice ai fa.length ci)]) (wanted_none rfl) ?_ ?_
         · have ec:=evc a
           have ef:=evf a
           generalize a.eval=ev at *
           clear h
           go_simp
         · refine Calls.mono (HCF.out y_ h.below) ?_
           rintro _ y2 ⟨rfl,hb2⟩
           exact ⟨_,rfl,fun t ht=>by cases ht; exact rfl,hb2⟩
       refine AllOps.cons (fun a y_ h=>?_) ?_
       · have e21:a.eval (.tmp 21)=(.int .i64 er:Value):=h.of 21 (by kernel_rfl)
         refine opOk_val (v:=.int .i64 er) (w':=y_) (wanted_none rfl) ?_ (fun t ht=>by cases ht; exact rfl) (Below.refl _ _)
         have ec:=evc a
         generalize a.eval=ev at *
         clear h
         go_simp
       exact AllOps.nil
      case hend =>
       rintro ⟨tm,df⟩ wE hbE hdE hsE hstE hTE
       have h6:tm.getD 6 undef=.int .i64 er:=ends_at (T:=fun tQ vQ _=>vQ=chkF6Tv fb foff k er (progVal (.slice a0 p.arity.length n0) (.slice a1 p.names.length n1) (.slice a2 p.rules.length n2)) (.slice (some ⟨fb,foff,none⟩) facts.length cf) (fcVal fp (.slice ai fa.length ci)) tQ) (w:=wE) (a:=⟨tm,df⟩) (t:=6) hTE (by kernel_rfl)
       obtain rfl:df=[]:=hdE
       have hFE:=tmps_fold [16,17,18,19,20,21,6] tm _ hsE hstE
       clear hsE hstE hTE
       simp only [List.foldl_cons,List.foldl_nil,h6] at hFE
       clear h6
       generalize tm.getD 16 undef=x16 at hFE
       generalize tm.getD 17 undef=x17 at hFE
       generalize tm.getD 18 undef=x18 at hFE
       generalize tm.getD 19 undef=x19 at hFE
       generalize tm.getD 20 undef=x20 at hFE
       generalize tm.getD 21 undef=x21 at hFE
       simp only [List.setIfInBounds_toArray,List.set_cons_zero,List.set_cons_succ] at hFE
       subst hFE
       by_cases he:er=0
       · have ge:(er != 0)=false:=by simpa using he
         have HK2:Hid (Sc.first (fun f:Rl.Fc=>Sc.factErr p f.pred f.args) facts=Sc.first (fun f:Rl.Fc=>Sc.factErr p f.pred f.args) (facts.drop (k+1))):=by
          show _=_
          rw [HK.out,HDR.out]
          show (if Sc.factErr p fp fa=0 then _ else _)=_
          rw [HER.out,if_pos he]
         clear he
         go_wp2_with fail
         go_roundw
         case rel=>exact ⟨k+1,hlt,by go_num,HK2.out,HB2.out.trans (hbE.mono HB2.out.size),HBB.out.2.trans (hbE.mono HBB.out.2.size)⟩
         case measure=>simp [intOf]; omega
       · have ge:(er != 0)=true:=by simpa using he
         have HE:Hid (Ru.factsE p facts=er):=by
          show _=_
          unfold Ru.factsE
          rw [if_neg HL60.out,HK.out,HDR.out]
          show (if Sc.factErr p fp fa=0 then _ else _)=_
          rw [HER.out,if_neg he]
          exact HER.out
         clear he
         go_wp2_with fail
         go_ret
         exact ⟨by rw [HE.out]; rfl,HB2.out.trans (hbE.mono HB2.out.size)⟩
    · have hdd:decide (k<facts.length)=false:=decide_eq_false hlt
      have HE:Hid (Ru.factsE p facts=0):=by
       show _=_
       unfold Ru.factsE
       rw [if_neg HL60.out,HK.out,List.drop_of_length_le (by omega)]
       rfl
      go_wp2_with fail
      go_ret
      exact ⟨by rw [HE.out]; rfl,HB2.out⟩
namespace Ru
theorem first_congr {α:Type} {f g:α→Int}:∀ {l:List α},(∀ x,x∈l→f x=g x)→Sc.first f l=Sc.first g l
 | [],_=>rfl
 | x::r,h=>by
  show (if f x=0 then Sc.first f r else f x)=(if g x=0 then Sc.first g r else g x)
  rw [h x List.mem_cons_self,first_congr (fun y hy=>h y (List.mem_cons_of_mem _ hy))]
theorem check_facts {p:Sc.Prog} {i:Int} {l:List Rl.Fc} (h1:Sc.check p=0) (h2:¬ (i<0∨(p.rules.length:Int)≤i)):check p i l=factsE p l:=by
 unfold check factsE factsErr
 rw [if_neg (by simpa using h1),if_neg h2]
 split
 · rfl
 · refine first_congr fun f _=>?_
   unfold Sc.fact Sc.thn
   rw [if_pos h1]
theorem check_prog {p:Sc.Prog} {i:Int} {l:List Rl.Fc} (h1:¬ Sc.check p=0):check p i l=Sc.check p:=by
 unfold check
 rw [if_pos h1]
theorem check_rule {p:Sc.Prog} {i:Int} {l:List Rl.Fc} (h1:Sc.check p=0) (h2:i<0∨(p.rules.length:Int)≤i):check p i l=5:=by
 unfold check
 rw [if_neg (by simpa using h1),if_pos h2]
end Ru
theorem checkWays_any (p:Sc.Prog) (i:Int) (facts:List Rl.Fc) (va vn vr vf:Value) (w:World) (hP:ProgV w va vn vr p) (hF:ProgFit p) (hV:FactsV w vf facts) (hFl:facts.length≤9223372036854775807) (hFF:∀ f,f∈facts→FFit f) :
 Calls Tryz.prog 16 #[progVal va vn vr,.int .i64 i,vf] w fun e w'=>e=.returned (.int .i64 (Ru.check p i facts))∧Below w.heap.size w w':=by
 obtain ⟨a0,n0,rfl,_⟩:=id hP.ar
 obtain ⟨a1,n1,rfl,_⟩:=id hP.nm
 obtain ⟨a2,n2,rfl,_⟩:=id hP.rl
 obtain ⟨af,cf,rfl,_⟩:=id hV
 have hrl:p.rules.length≤9223372036854775807:=hF.rl
 have bT:=new_below w (.cells #[.slice a0 p.arity.length n0,.slice a1 p.names.length n1,.slice a2 p.rules.length n2] 26)
 have HBX:Hid _:=heap_alloc_new w (.cells #[.slice a0 p.arity.length n0,.slice a1 p.names.length n1,.slice a2 p.rules.length n2] 26)
 have HB:Hid _:=bT
 have HP:Hid (ProgV w (.slice a0 p.arity.length n0) (.slice a1 p.names.length n1) (.slice a2 p.rules.length n2) p∧ProgFit p):=⟨hP,hF⟩
 have HV:Hid (FactsV w (.slice af facts.length cf) facts∧facts.length≤9223372036854775807∧∀ f,f∈facts→FFit f):=⟨hV,hFl,hFF⟩
 have HC:Hid _:=CheckProgram_any p _ _ _ _ (hP.below bT) hF
 clear hP hF hV hFF bT hFl
 go_enter Tryz.func16,Tryz.ntmps16
 go_upto_region 1 with fail
 generalize w.alloc (.cells #[.slice a0 p.arity.length n0,.slice a1 p.names.length n1,.slice a2 p.rules.length n2] 26)=w1 at *
 generalize hPB:w.heap.size=PB at *
 have c0:w1.cell? ⟨PB,0,none⟩=some (.slice a0 p.arity.length n0):=by rw [Lib.cell_of_heap HBX.out]; rfl
 have c1:w1.cell? ⟨PB,1,none⟩=some (.slice a1 p.names.length n1):=by rw [Lib.cell_of_heap HBX.out]; rfl
 have c2:w1.cell? ⟨PB,2,none⟩=some (.slice a2 p.rules.length n2):=by rw [Lib.cell_of_heap HBX.out]; rfl
 go_wp2_with fail
 refine Calls.mono HC.out ?_
 rintro _ w2 ⟨rfl,hb2⟩
 have HB2:Hid (Below w.heap.size w w2):=by show Below _ _ _; rw [hPB]; exact HB.out.trans (hb2.mono (by rw [← hPB]; exact HB.out.size))
 have HBX2:Hid _:=(hb2.block _ (heap_lt HBX.out)).trans HBX.out
 clear hb2 HC HB HBX c0 c1 c2
 have c0:w2.cell? ⟨PB,0,none⟩=some (.slice a0 p.arity.length n0):=by rw [Lib.cell_of_heap HBX2.out]; rfl
 have c1:w2.cell? ⟨PB,1,none⟩=some (.slice a1 p.names.length n1):=by rw [Lib.cell_of_heap HBX2.out]; rfl
 have c2:w2.cell? ⟨PB,2,none⟩=some (.slice a2 p.rules.length n2):=by rw [Lib.cell_of_heap HBX2.out]; rfl
 by_cases h1:Sc.check p=0
 · by_cases h2:i<0∨(p.rules.length:Int)≤i
   · have HE:Hid _:=Ru.check_rule (l:=facts) h1 h2
     rw [h1]
     have ge:decide ((5:Int)=0)=false:=rfl
     by_cases h3:i<0
     · have g3:decide (i<0)=true:=decide_eq_true h3
       clear h2 h3 h1
       go_wp2_with fail
       go_ret
       exact ⟨by rw [HE.out]; rfl,HB2.out⟩
     · have g3:decide (i<0)=false:=decide_eq_false h3
       have g4:decide ((p.rules.length:Int)≤i)=true:=decide_eq_true (by omega)
       clear h2 h3 h1
       go_wp2_with fail
       go_ret
       exact ⟨by rw [HE.out]; rfl,HB2.out⟩
   · have HE:Hid _:=Ru.check_facts (l:=facts) h1 h2
     have g3:decide (i<0)=false:=decide_eq_false (by omega)
     have g4:decide ((p.rules.length:Int)≤i)=false:=decide_eq_false (by omega)
     have HCF:Hid _:=CheckFacts_any p facts _ _ _ _ w2 (HP.out.1.below HB2.out) HP.out.2 (factsV_below HV.out.1 HB2.out) HV.out.2.1 HV.out.2.2
     rw [h1]
     clear h2 h1
     go_wp2_with fail
     refine Calls.mono HCF.out ?_
     rintro _ w3 ⟨rfl,hb3⟩
     have HB3:Hid (Below w.heap.size w w3):=HB2.out.trans (hb3.mono HB2.out.size)
     clear hb3 HCF
     go_wp2_with fail
     go_ret
     exact ⟨by rw [HE.out]; rfl,HB3.out⟩
 · have HE:Hid _:=Ru.check_prog (i:=i) (l:=facts) h1
   have ge:(Sc.check p==0)=false:=by simpa using h1
   clear h1
   go_wp2_with fail
   go_ret
   exact ⟨by rw [HE.out]; rfl,HB2.out⟩
theorem nums_nil (w:World):NumsV w (.slice none 0 0) []:=⟨none,0,rfl,.inl rfl⟩
theorem facts_nil (w:World):FactsV w (.slice none 0 0) []:=⟨none,0,rfl,⟨Nat.le_refl _,fun _=>rfl⟩,.inl rfl⟩
theorem facts_eq {w:World} {v:Value} {l m:List Rl.Fc} (e:l=m) (h:FactsV w v l):FactsV w v m:=by rw [← e]; exact h
theorem rowD_mem {L:List (List Int)} {i:Nat} (h:i<L.length):Ru.rowD L i∈L:=by unfold Ru.rowD; rw [List.getD_eq_getElem?_getD,List.getElem?_eq_getElem h]; exact List.getElem_mem h
theorem ruleTells_any (p:Sc.Prog) (i:Int) (facts:List Rl.Fc) (va vn vr vf:Value) (w:World) (hP:ProgV w va vn vr p) (hF:ProgFit p) (hcap:RulesCap w vr) (hV:FactsV w vf facts) (hFl:facts.length≤9223372036854775807) (hFF:∀ f,f∈facts→FFit f) :
 Calls Tryz.prog 3 #[progVal va vn vr,.int .i64 i,vf] w fun e w'=>e=.returned (.bool true)∧Below w.heap.size w w':=by
 obtain ⟨a0,n0,rfl,_⟩:=id hP.ar
 obtain ⟨a1,n1,rfl,_⟩:=id hP.nm
 obtain ⟨a2,n2,rfl,hRA⟩:=id hP.rl
 obtain ⟨af,cf,rfl,_,hFA⟩:=id hV
 have bT:=(Below.refl w.heap.size w).alloc (Nat.le_refl _) (.cells #[.slice a0 p.arity.length n0,.slice a1 p.names.length n1,.slice a2 p.rules.length n2] 26)
 have HBX:Hid _:=heap_alloc_new w (.cells #[.slice a0 p.arity.length n0,.slice a1 p.names.length n1,.slice a2 p.rules.length n2] 26)
 have HB:Hid (Below w.heap.size w _):=bT
 have HP:Hid (ProgV w (.slice a0 p.arity.length n0) (.slice a1 p.names.length n1) (.slice a2 p.rules.length n2) p∧ProgFit p∧RulesCap w (.slice a2 p.rules.length n2)):=⟨hP,hF,hcap⟩
 have HV:Hid (FactsV w (.slice af facts.length cf) facts∧facts.length≤9223372036854775807∧∀ f,f∈facts→FFit f):=⟨hV,hFl,hFF⟩
 have HRA:Hid _:=hRA
 clear hP hF hcap hV hFl hFF bT hRA hFA
 go_enter Tryz.func3,Tryz.ntmps3
 go_upto_region 1 with fail
 generalize w.alloc (.cells #[.slice a0 p.arity.length n0,.slice a1 p.names.length n1,.slice a2 p.rules.length n2] 26)=w1 at *
 have HXX:Hid (∀ y,Below w1.heap.size w1 y→y.cell? ⟨w.heap.size,0,none⟩=some (.slice a0 p.arity.length n0)∧y.cell? ⟨w.heap.size,1,none⟩=some (.slice a1 p.names.length n1)∧y.cell? ⟨w.heap.size,2,none⟩=some (.slice a2 p.rules.length n2)):=fun y hy=>by
  have h:=(hy.block _ (heap_lt HBX.out)).trans HBX.out
  exact ⟨by rw [Lib.cell_of_heap h]; rfl,by rw [Lib.cell_of_heap h]; rfl,by rw [Lib.cell_of_heap h]; rfl⟩
 have HC1:Hid _:=Ways_any p i facts _ _ _ _ w1 (HP.out.1.below HB.out) HP.out.2.1 (HP.out.2.2.below HP.out.1.rl HB.out) (factsV_below HV.out.1 HB.out) HV.out.2.1 HV.out.2.2
 obtain ⟨c0,c1,c2⟩:=HXX.out w1 (Below.refl _ _)
 go_wp2_with fail
 refine Calls.mono HC1.out ?_
 rintro _ w2 ⟨v,q,rfl,hN,hq,hb2⟩
 obtain ⟨av,cv,rfl⟩:=own_slice hN.1
 have HN:Hid (NumsV w2 (.slice av q.length cv) (Ru.waysOut p i facts)):=hN.toV hq
 have HB2:Hid (Below w1.heap.size w1 w2):=hb2
 have HW2:Hid (Below w.heap.size w w2):=HB.out.trans (hb2.mono HB.out.size)
 clear c0 c1 c2 hb2 HC1 hN hq
 have HC2:Hid _:=Heads_any p i facts _ _ _ _ w2 (HP.out.1.below HW2.out) HP.out.2.1 (HP.out.2.2.below HP.out.1.rl HW2.out) (factsV_below HV.out.1 HW2.out) HV.out.2.1 HV.out.2.2
 obtain ⟨c0,c1,c2⟩:=HXX.out w2 HB2.out
 go_wp2_with fail
 refine Calls.mono HC2.out ?_
 rintro _ w3 ⟨vh,rfl,hFP,hb3⟩
 have HFH:Hid (FactsV w3 vh (Ru.headsOut p i facts)):=hFP.toV
 obtain ⟨ah,ch,rfl,_⟩:=id HFH.out
 have HN3:Hid _:=numsV_below HN.out hb3
 have HB3:Hid (Below w1.heap.size w1 w3):=HB2.out.trans (hb3.mono HB2.out.size)
 have HW3:Hid (Below w.heap.size w w3):=HB.out.trans (HB3.out.mono HB.out.size)
 clear c0 c1 c2 hb3 HC2 hFP HN HB2 HW2
 have HC3:Hid _:=checkWays_any p i facts _ _ _ _ w3 (HP.out.1.below HW3.out) HP.out.2.1 (factsV_below HV.out.1 HW3.out) HV.out.2.1 HV.out.2.2
 obtain ⟨c0,c1,c2⟩:=HXX.out w3 HB3.out
 go_wp2_with fail
 refine Calls.mono HC3.out ?_
 rintro _ w4 ⟨rfl,hb4⟩
 have HN4:Hid _:=numsV_below HN3.out hb4
 have HFH4:Hid _:=factsV_below HFH.out hb4
 have HB4:Hid (Below w1.heap.size w1 w4):=HB3.out.trans (hb4.mono HB3.out.size)
 have HW4:Hid (Below w.heap.size w w4):=HB.out.trans (HB4.out.mono HB.out.size)
 clear c0 c1 c2 hb4 HC3 HN3 HFH HB3 HW3
 by_cases hc:Ru.check p i facts=0
 · have hin:=Ru.check_in hc
   have HIN:Hid _:=hin
   have HT:Hid _:=Ru.tells_in hc
   obtain ⟨k,rfl⟩:∃ k:Nat,i=k:=⟨i.toNat,by have:=hin.lo; omega⟩
   have hk:k<p.rules.length:=by have:=hin.hi; omega
   have HRU:Hid (Ru.rule p (k:Int)=Sc.ruleD p.rules k):=by show _=_; unfold Ru.rule; rw [Int.toNat_natCast]
   obtain ⟨b,off,rfl,q0,⟨vt,q1,hT⟩,q2,⟨vb,q3,hL⟩,q4⟩:=prules_at HRA.out k hk
   rw [← HRU.out] at q0 q2 q4 hT hL
   have HW:Hid _:=fun y (hy:Below w.heap.size w y)=>WaysOf_in p k facts vt vb (.slice af facts.length cf) y hin (ptermsV_below hT hy) (plitsV_below hL hy) (factsV_below HV.out.1 hy)
   have HH:Hid _:=fun (y:World) (hy:Below w.heap.size w y) (qq:List Nv) (vw:Value) (B:Nat) (hN:NumsP B y vw qq) hqq=>HeadsOf_in p k facts qq vt vb vw B y hin (ptermsV_below hT hy) (plitsV_below hL hy) hN hqq
   obtain ⟨at_,ct,rfl,_⟩:=id hT
   obtain ⟨ab,cb,rfl,_⟩:=id hL
   have HWL:Hid (∀ x,x∈Ru.waysOut p k facts→x.length≤8):=fun x hx=>by have:=(Ru.mem_waysOut hin hx).1; have:=hin.rule.v8; omega
   have HHL:Hid (∀ f,f∈Ru.headsOut p k facts→FFit f):=fun f hf=>by
    have h1:f∈Ru.heads (Ru.rule p k) (Ru.waysOut p k facts):=hf
    rcases HT.out with ⟨_,h0,_⟩ | ⟨_,_,h0⟩
    · have:=Ru.right_short hin.ok (Ru.headsOut_right hin h0 hf)
      unfold FFit
      omega
    · rw [h0,Ru.heads_nil] at h1; cases h1
   have HQC:Hid (w.cell? ⟨b,off+k * 5,none⟩=some (.int .i64 (Ru.rule p k).pred)∧w.cell? ⟨b,off+k * 5+1,none⟩=some (.slice at_ (Ru.rule p k).terms.length ct)∧w.cell? ⟨b,off+k * 5+2,none⟩=some (.int .i64 (Ru.rule p k).fold)∧w.cell? ⟨b,off+k * 5+3,none⟩=some (.slice ab (Ru.rule p k).body.length cb)∧w.cell? ⟨b,off+k * 5+4,none⟩=some (.int .i64 (Ru.rule p k).vars)):=⟨q0,q1,q2,q3,q4⟩
   rw [hc]
   clear q0 q1 q2 q3 q4 hT hL hin hc
   obtain ⟨c0,c1,c2⟩:=HXX.out w4 HB4.out
   have p0:=cell_below HW4.out HQC.out.1
   have p1:=cell_below HW4.out HQC.out.2.1
   have p2:=cell_below HW4.out HQC.out.2.2.1
   have p3:=cell_below HW4.out HQC.out.2.2.2.1
   have p4:=cell_below HW4.out HQC.out.2.2.2.2
   have HW5:Hid _:=HW.out w4 HW4.out
   go_wp2_with fail
   refine Calls.mono HW5.out ?_
   rintro _ w5 ⟨v5,q5,rfl,hN5,hq5,hb5⟩
   obtain ⟨a5,c5,rfl⟩:=own_slice hN5.1
   have HNP5:Hid (NumsP w4.heap.size w5 (.slice a5 q5.length c5) q5):=hN5
   have HQ5:Hid _:=hq5
   have HN5:Hid _:=numsV_below HN4.out hb5
   have HFH5:Hid _:=factsV_below HFH4.out hb5
   have HB5:Hid (Below w1.heap.size w1 w5):=HB4.out.trans (hb5.mono HB4.out.size)
   have HWW5:Hid (Below w.heap.size w w5):=HB.out.trans (HB5.out.mono HB.out.size)
   clear c0 c1 c2 p0 p1 p2 p3 p4 hb5 HW5 HW hN5 hq5 HN4 HFH4 HB4 HW4
   rcases HT.out with ⟨hok,he,hwo⟩ | ⟨hok,he,hwo⟩
   · rw [hok,he]
     have HHO:Hid (Ru.headsOut p k facts=Ru.heads (Ru.rule p k) (Ru.refOut facts (Ru.rule p k))):=by show _=_; unfold Ru.headsOut; rw [hwo]
     have HWO:Hid _:=hwo
     obtain ⟨c0,c1,c2⟩:=HXX.out w5 HB5.out
     have p0:=cell_below HWW5.out HQC.out.1
     have p1:=cell_below HWW5.out HQC.out.2.1
     have p2:=cell_below HWW5.out HQC.out.2.2.1
     have p3:=cell_below HWW5.out HQC.out.2.2.2.1
     have p4:=cell_below HWW5.out HQC.out.2.2.2.2
     have HH5:Hid _:=HH.out w5 HWW5.out q5 _ _ HNP5.out HQ5.out
     clear hok he hwo HT
     go_wp2_with fail
     refine Calls.mono HH5.out ?_
     rintro _ w6 ⟨v6,rfl,hF6,hb6⟩
     have HF6:Hid (FactsV w6 v6 (Ru.headsOut p k facts)):=by show FactsV _ _ _; rw [HHO.out]; exact hF6.toV
     obtain ⟨a6,c6,rfl,_⟩:=id HF6.out
     have HR6:Hid (NumsV w6 (.slice a5 q5.length c5) (Ru.waysOut p k facts)):=by show NumsV _ _ _; rw [HWO.out]; exact numsV_below (HNP5.out.toV HQ5.out) hb6
     have HN6:Hid _:=numsV_below HN5.out hb6
     have HFH6:Hid _:=factsV_below HFH5.out hb6
     have HW6:Hid (Below w.heap.size w w6):=HWW5.out.trans (hb6.mono HWW5.out.size)
     clear c0 c1 c2 p0 p1 p2 p3 p4 hb6 HH5 hF6 HN5 HFH5 HB5 HWW5
     go_wp2_with fail
     refine Calls.mono (ruleBegun_any w6) ?_
     rintro _ w7 ⟨rfl,hb7⟩
     have HS7:Hid _:=SameLists_refl (Ru.waysOut p k facts) _ _ w7 (numsV_below HN6.out hb7) (numsV_below HR6.out hb7) (by have:=refOut_le HIN.out; rw [HWO.out]; omega) (fun j hj=>by have:=HWL.out _ (rowD_mem hj); omega)
     have HF7:Hid _:=factsV_below HF6.out hb7
     have HFH7:Hid _:=factsV_below HFH6.out hb7
     have HW7:Hid (Below w.heap.size w w7):=HW6.out.trans (hb7.mono HW6.out.size)
     clear hb7 HN6 HR6 HF6 HFH6 HW6
     go_wp2_with fail
     refine Calls.mono HS7.out ?_
     rintro _ w8 ⟨rfl,j8,hj8⟩
     have hb8:Below w7.heap.size w7 w8:=by rw [hj8]; exact blw_drewN _ _
     have HS8:Hid _:=SameFacts_refl (Ru.headsOut p k facts) _ _ w8 (factsV_below HFH7.out hb8) (factsV_below HF7.out hb8) (Nat.le_trans (Ru.heads_len _ _) (by have:=refOut_le HIN.out; rw [HWO.out]; omega)) HHL.out
     have HW8:Hid (Below w.heap.size w w8):=HW7.out.trans (hb8.mono HW7.out.size)
     clear hb8 hj8 HS7 HF7 HFH7 HW7
     go_wp2_with fail
     refine Calls.mono HS8.out ?_
     rintro _ w9 ⟨rfl,hb9⟩
     have HW9:Hid (Below w.heap.size w w9):=HW8.out.trans (hb9.mono HW8.out.size)
     clear hb9 HS8 HW8
     go_wp2_with fail
     go_ret
     exact ⟨rfl,HW9.out⟩
   · rw [hok,he]
     have HHO:Hid (Ru.headsOut p k facts=[]):=by show _=_; unfold Ru.headsOut; rw [hwo]; exact Ru.heads_nil _
     have HWO:Hid _:=hwo
     clear hok he hwo HT
     go_wp2_with fail
     refine Calls.mono (ruleBegun_any w5) ?_
     rintro _ w7 ⟨rfl,hb7⟩
     have HS7:Hid _:=SameLists_refl [] _ (.slice none 0 0) w7 (by have:=numsV_below HN5.out hb7; rw [HWO.out] at this; exact this) (nums_nil _) (by decide) (fun j hj=>absurd hj (Nat.not_lt_zero _))
     have HFH7:Hid _:=factsV_below HFH5.out hb7
     have HW7:Hid (Below w.heap.size w w7):=HWW5.out.trans (hb7.mono HWW5.out.size)
     clear hb7
     go_wp2_with fail
     refine Calls.mono HS7.out ?_
     rintro _ w8 ⟨rfl,j8,hj8⟩
     have hb8:Below w7.heap.size w7 w8:=by rw [hj8]; exact blw_drewN _ _
     have HS8:Hid _:=SameFacts_refl [] (.slice ah (Ru.headsOut p k facts).length ch) (.slice none 0 0) w8 (facts_eq HHO.out (factsV_below HFH7.out hb8)) (facts_nil _) (Nat.zero_le _) (fun f hf=>absurd hf (by simp))
     have HW8:Hid (Below w.heap.size w w8):=HW7.out.trans (hb8.mono HW7.out.size)
     clear hb8 hj8 HS7 HFH7 HW7
     go_wp2_with fail
     refine Calls.mono HS8.out ?_
     rintro _ w9 ⟨rfl,hb9⟩
     have HW9:Hid (Below w.heap.size w w9):=HW8.out.trans (hb9.mono HW8.out.size)
     clear hb9 HS8 HW8
     go_wp2_with fail
     go_ret
     exact ⟨rfl,HW9.out⟩
 · obtain ⟨he,hwo⟩:=Ru.waysErr_check hc
   have HHO:Hid (Ru.headsOut p i facts=[]):=by show _=_; unfold Ru.headsOut; rw [hwo]; exact Ru.heads_nil _
   have HWO:Hid _:=hwo
   have g0:(Ru.check p i facts==0)=false:=by simpa using hc
   rw [he]
   clear he hwo hc
   generalize Ru.check p i facts=ck at *
   go_wp2_with fail
   refine Calls.mono (ruleBegun_any w4) ?_
   rintro _ w7 ⟨rfl,hb7⟩
   have HS7:Hid _:=SameLists_refl [] _ (.slice none 0 0) w7 (by have:=numsV_below HN4.out hb7; rw [HWO.out] at this; exact this) (nums_nil _) (by decide) (fun j hj=>absurd hj (Nat.not_lt_zero _))
   have HFH7:Hid _:=factsV_below HFH4.out hb7
   have HW7:Hid (Below w.heap.size w w7):=HW4.out.trans (hb7.mono HW4.out.size)
   clear hb7
   go_wp2_with fail
   refine Calls.mono HS7.out ?_
   rintro _ w8 ⟨rfl,j8,hj8⟩
   have hb8:Below w7.heap.size w7 w8:=by rw [hj8]; exact blw_drewN _ _
   have HS8:Hid _:=SameFacts_refl [] (.slice ah (Ru.headsOut p i facts).length ch) (.slice none 0 0) w8 (facts_eq HHO.out (factsV_below HFH7.out hb8)) (facts_nil _) (Nat.zero_le _) (fun f hf=>absurd hf (by simp))
   have HW8:Hid (Below w.heap.size w w8):=HW7.out.trans (hb8.mono HW7.out.size)
   clear hb8 hj8 HS7 HFH7 HW7
   go_wp2_with fail
   refine Calls.mono HS8.out ?_
   rintro _ w9 ⟨rfl,hb9⟩
   have HW9:Hid (Below w.heap.size w w9):=HW8.out.trans (hb9.mono HW8.out.size)
   clear hb9 HS8 HW8
   go_wp2_with fail
   go_ret
   exact ⟨rfl,HW9.out⟩
end Go.Proofs.YthenjegmigeieaaGreat
namespace Go.Proofs.YthenjegmigeieaaGreat
namespace Md
open Ru
end Md
end Go.Proofs.YthenjegmigeieaaGreat
namespace Go.Proofs.YthenjegmigeieaaGreat
namespace Md
open Ru
end Md
end Go.Proofs.YthenjegmigeieaaGreat
namespace Go.Proofs.YthenjegmigeieaaGreat
namespace Md
open Ru
end Md
end Go.Proofs.YthenjegmigeieaaGreat
namespace Go.Proofs.YthenjegmigeieaaGreat
open Go.RowKit







namespace Md
open Ru
end Md
end Go.Proofs.YthenjegmigeieaaGreat
namespace Go.Proofs.YthenjegmigeieaaGreat
namespace Md
open Ru
end Md
end Go.Proofs.YthenjegmigeieaaGreat
namespace Go.Proofs.YthenjegmigeieaaGreat
open Go.RowKit



namespace Md
open Ru
end Md


theorem A_cells3:Tryz.prog.cellsOf 3=1:=by kernel_rfl
theorem A_cells9:Tryz.prog.cellsOf 9=1:=by kernel_rfl
theorem list2 {l:List Value} (h:l.length=2):∃ a b,l=[a,b]:=by
 match l,h with
 | [a,b],_=>exact ⟨a,b,rfl⟩
theorem list5 {l:List Value} (h:l.length=5):∃ a b c d e,l=[a,b,c,d,e]:=by
 match l,h with
 | [a,b,c,d,e],_=>exact ⟨a,b,c,d,e,rfl⟩
section
variable {H:Type} {enc:TypeId × Value→H} {w:World} {base:Nat} {spare:Nat→Bool} {held:Bool}
theorem open_row {α:Type} {st e:TypeId} {k:Nat} (ht:Tryz.prog.underlying st=some (.slice e)) (hk:Tryz.prog.cellsOf e=k) (hk0:0<k) (d:α) (In:Nat→Nat→α→Prop)
 (el:∀ n cs' y b off,cs'.length=k→(∀ j,j<k→w.cell? ⟨b,off+j,none⟩=cs'[j]?)→DataW.trod enc Tryz.prog w base spare held n e cs'=some y→∃ a,In b off a)
 {fuel:Nat} {v:Value} {x:DataW H × List MemPlace} (h:DataW.trod enc Tryz.prog w base spare held fuel st [v]=some x) :
 ∃ (ao:Option Addr) (l:List α) (cap:Nat),v=.slice ao l.length cap∧l.length≤9223372036854775807∧(l=[]∨∃ b off,ao=some ⟨b,off,none⟩∧∀ i,i<l.length→In b (off+i * k) (l.getD i d)):=by
 haveI:Inhabited α:=⟨d⟩
 rcases Deep.open_slice ht h with ⟨hv,_⟩ | ⟨a,len,cap,m,n,D,Pl,hv,hb,hl,hm,hmm,hx,hel⟩
 · have hv':v=.slice none 0 0:=by simpa using hv
   exact ⟨none,[],0,hv',by simp,.inl rfl⟩
 · have hv':v=.slice (some a) len cap:=by simpa using hv
   have hlm:len≤m:=by rw [hmm]; split <;> omega
   by_cases h0:len=0
   · subst h0
     exact ⟨some a,[],cap,hv',by simp,.inl rfl⟩
   · obtain ⟨b,off,spot⟩:=a
     have hspot:spot=none:=by
      obtain ⟨cs',h1,_⟩:=hel 0 (by omega)
      rw [hk] at h1
      obtain ⟨_,hlen,hcell⟩:=World.cells?_some h1
      have hc:=hcell 0 hk0
      cases hcs:cs'[0]? with
      | none=>rw [List.getElem?_eq_none_iff] at hcs; omega
      | some u =>
       rw [hcs] at hc
       simpa [Addr.add] using World.cell?_spot hc
     subst hspot
     have each:∀ i,i<len→∃ q:α,In b (off+i * k) q:=by
      intro i hi
      obtain ⟨cs',h1,h2⟩:=hel i (by omega)
      rw [hk] at h1
      obtain ⟨_,hlen,hcell⟩:=World.cells?_some h1
      refine el n cs' _ b (off+i * k) hlen (fun j hj=>?_) h2
      have:=hcell j hj
      rw [Deep.add_add,WideShapes.add_plain] at this
      rw [← this,Nat.add_assoc]
     obtain ⟨q,hq⟩:=Deep.choose_lt each
     refine ⟨some ⟨b,off,none⟩,(List.range len).map q,cap,by rw [hv']; simp,by unfold maxLen at hm; simp; omega,.inr ⟨b,off,rfl,fun i hi=>?_⟩⟩
     have hi':i<len:=by simpa using hi
     have ht:((List.range len).map q).getD i d=q i:=by
      rw [List.getD_eq_getElem?_getD,List.getElem?_map,List.getElem?_range hi']
      rfl
     rw [ht]
     exact hq i hi'
theorem trod_struct2 {t:TypeId} {f0 f1:Field} {fuel:Nat} {cs:List Value} {x:DataW H × List MemPlace} (ht:Tryz.prog.underlying t=some (.struct #[f0,f1])) (h:DataW.trod enc Tryz.prog w base spare held fuel t cs=some x) :
 ∃ y0 y1 n,cs.length=Tryz.prog.cellsOf t∧DataW.trod enc Tryz.prog w base spare held n f0.type ((cs.drop f0.offset).take (Tryz.prog.cellsOf f0.type))=some y0 ∧
  DataW.trod enc Tryz.prog w base spare held n f1.type ((cs.drop f1.offset).take (Tryz.prog.cellsOf f1.type))=some y1:=by
 obtain ⟨xs,n,_,rfl,hl,hlen,hf⟩:=DataW.trod_struct ht h
 match xs,hlen with
 | [y0,y1],_=>exact ⟨y0,y1,n,hl,by simpa using hf 0 f0 rfl,by simpa using hf 1 f1 rfl⟩
theorem trod_struct5 {t:TypeId} {f0 f1 f2 f3 f4:Field} {fuel:Nat} {cs:List Value} {x:DataW H × List MemPlace} (ht:Tryz.prog.underlying t=some (.struct #[f0,f1,f2,f3,f4])) (h:DataW.trod enc Tryz.prog w base spare held fuel t cs=some x) :
 ∃ y0 y1 y2 y3 y4 n,cs.length=Tryz.prog.cellsOf t∧DataW.trod enc Tryz.prog w base spare held n f0.type ((cs.drop f0.offset).take (Tryz.prog.cellsOf f0.type))=some y0 ∧
  DataW.trod enc Tryz.prog w base spare held n f1.type ((cs.drop f1.offset).take (Tryz.prog.cellsOf f1.type))=some y1∧DataW.trod enc Tryz.prog w base spare held n f2.type ((cs.drop f2.offset).take (Tryz.prog.cellsOf f2.type))=some y2 ∧
  DataW.trod enc Tryz.prog w base spare held n f3.type ((cs.drop f3.offset).take (Tryz.prog.cellsOf f3.type))=some y3∧DataW.trod enc Tryz.prog w base spare held n f4.type ((cs.drop f4.offset).take (Tryz.prog.cellsOf f4.type))=some y4:=by
 obtain ⟨xs,n,_,rfl,hl,hlen,hf⟩:=DataW.trod_struct ht h
 match xs,hlen with
 | [y0,y1,y2,y3,y4],_=>exact ⟨y0,y1,y2,y3,y4,n,hl,by simpa using hf 0 f0 rfl,by simpa using hf 1 f1 rfl,by simpa using hf 2 f2 rfl,by simpa using hf 3 f3 rfl,by simpa using hf 4 f4 rfl⟩
end
theorem P_cells28:Tryz.prog.cellsOf 55=2:=by kernel_rfl
theorem P_cells22:Tryz.prog.cellsOf 22=1:=by kernel_rfl
theorem P_cells23:Tryz.prog.cellsOf 23=1:=by kernel_rfl
theorem P_cells24:Tryz.prog.cellsOf 24=1:=by kernel_rfl
theorem P_cells64:Tryz.prog.cellsOf 37=1:=by kernel_rfl
theorem P_cells65:Tryz.prog.cellsOf 38=1:=by kernel_rfl
theorem P_cells67:Tryz.prog.cellsOf 40=5:=by kernel_rfl
theorem P_cells84:Tryz.prog.cellsOf 49=4:=by kernel_rfl
theorem P_cells130:Tryz.prog.cellsOf 147=2:=by kernel_rfl
theorem list4 {l:List Value} (h:l.length=4):∃ a b c d,l=[a,b,c,d]:=by
 match l,h with
 | [a,b,c,d],_=>exact ⟨a,b,c,d,rfl⟩
section
variable {H:Type} {enc:TypeId × Value→H} {w:World} {base:Nat} {spare:Nat→Bool} {held:Bool}
theorem open_rowC {α:Type} {st e:TypeId} {k:Nat} (ht:Tryz.prog.underlying st=some (.slice e)) (hk:Tryz.prog.cellsOf e=k) (hk0:0<k) (d:α) (In:Nat→Nat→α→Prop)
 (el:∀ n cs' y b off,cs'.length=k→(∀ j,j<k→w.cell? ⟨b,off+j,none⟩=cs'[j]?)→DataW.trod enc Tryz.prog w base spare held n e cs'=some y→∃ a,In b off a)
 {fuel:Nat} {v:Value} {x:DataW H × List MemPlace} (h:DataW.trod enc Tryz.prog w base spare held fuel st [v]=some x) :
 ∃ (ao:Option Addr) (l:List α) (cap:Nat),v=.slice ao l.length cap∧l.length≤cap∧l.length≤9223372036854775807∧(l=[]∨∃ b off,ao=some ⟨b,off,none⟩∧∀ i,i<l.length→In b (off+i * k) (l.getD i d)):=by
 obtain ⟨ao,l,cap,hv,hm,hl⟩:=open_row ht hk hk0 d In el h
 refine ⟨ao,l,cap,hv,?_,hm,hl⟩
 rcases Deep.open_slice ht h with ⟨hv2,_⟩ | ⟨a,len,cap2,m,n,D,Pl,hv2,hb,hl2,_⟩
 · have hv':v=.slice none 0 0:=by simpa using hv2
   rw [hv] at hv'
   injection hv' with _ h1 h2
   omega
 · have hv':v=.slice (some a) len cap2:=by simpa using hv2
   rw [hv] at hv'
   injection hv' with _ h1 h2
   omega
theorem trod_struct3 {t:TypeId} {f0 f1 f2:Field} {fuel:Nat} {cs:List Value} {x:DataW H × List MemPlace} (ht:Tryz.prog.underlying t=some (.struct #[f0,f1,f2])) (h:DataW.trod enc Tryz.prog w base spare held fuel t cs=some x) :
 ∃ y0 y1 y2 n,cs.length=Tryz.prog.cellsOf t∧DataW.trod enc Tryz.prog w base spare held n f0.type ((cs.drop f0.offset).take (Tryz.prog.cellsOf f0.type))=some y0 ∧
  DataW.trod enc Tryz.prog w base spare held n f1.type ((cs.drop f1.offset).take (Tryz.prog.cellsOf f1.type))=some y1∧DataW.trod enc Tryz.prog w base spare held n f2.type ((cs.drop f2.offset).take (Tryz.prog.cellsOf f2.type))=some y2:=by
 obtain ⟨xs,n,_,rfl,hl,hlen,hf⟩:=DataW.trod_struct ht h
 match xs,hlen with
 | [y0,y1,y2],_=>exact ⟨y0,y1,y2,n,hl,by simpa using hf 0 f0 rfl,by simpa using hf 1 f1 rfl,by simpa using hf 2 f2 rfl⟩
theorem trod_struct4 {t:TypeId} {f0 f1 f2 f3:Field} {fuel:Nat} {cs:List Value} {x:DataW H × List MemPlace} (ht:Tryz.prog.underlying t=some (.struct #[f0,f1,f2,f3])) (h:DataW.trod enc Tryz.prog w base spare held fuel t cs=some x) :
 ∃ y0 y1 y2 y3 n,cs.length=Tryz.prog.cellsOf t∧DataW.trod enc Tryz.prog w base spare held n f0.type ((cs.drop f0.offset).take (Tryz.prog.cellsOf f0.type))=some y0 ∧
  DataW.trod enc Tryz.prog w base spare held n f1.type ((cs.drop f1.offset).take (Tryz.prog.cellsOf f1.type))=some y1∧DataW.trod enc Tryz.prog w base spare held n f2.type ((cs.drop f2.offset).take (Tryz.prog.cellsOf f2.type))=some y2 ∧
  DataW.trod enc Tryz.prog w base spare held n f3.type ((cs.drop f3.offset).take (Tryz.prog.cellsOf f3.type))=some y3:=by
 obtain ⟨xs,n,_,rfl,hl,hlen,hf⟩:=DataW.trod_struct ht h
 match xs,hlen with
 | [y0,y1,y2,y3],_=>exact ⟨y0,y1,y2,y3,n,hl,by simpa using hf 0 f0 rfl,by simpa using hf 1 f1 rfl,by simpa using hf 2 f2 rfl,by simpa using hf 3 f3 rfl⟩
theorem open_ints {fuel:Nat} {v:Value} {x:DataW H × List MemPlace} (h:DataW.trod enc Tryz.prog w base spare held fuel 22 [v]=some x):∃ l,IntsV w v l∧l.length≤9223372036854775807:=by
 obtain ⟨ao,l,cap,hv,_,hmx,hl⟩:=open_rowC Tryz.underlying22 A_cells3 (by decide) (0:Int) (fun b off a=>w.cell? ⟨b,off,none⟩=some (.int .i64 a)) (fun n cs' y b off hlen hc h2=>by
  match cs',hlen with
  | [v0],_ =>
   obtain ⟨k0,e0,_,_⟩:=DataW.trod_int Tryz.underlying3 h2
   simp at e0
   subst e0
   exact ⟨k0,hc 0 (by decide)⟩) h
 refine ⟨l,⟨ao,cap,hv,?_⟩,hmx⟩
 rcases hl with h | ⟨b,off,he,hc⟩
 · exact .inl h
 · exact .inr ⟨b,off,he,fun i hi=>by have:=hc i hi; rw [Nat.mul_one] at this; exact this⟩
theorem open_strs {fuel:Nat} {v:Value} {x:DataW H × List MemPlace} (h:DataW.trod enc Tryz.prog w base spare held fuel 23 [v]=some x):∃ l,StrsV w v l∧l.length≤9223372036854775807:=by
 obtain ⟨ao,l,cap,hv,_,hmx,hl⟩:=open_rowC Tryz.underlying23 A_cells9 (by decide) ([]:List UInt8) (fun b off a=>w.cell? ⟨b,off,none⟩=some (.string ⟨a.toArray⟩)) (fun n cs' y b off hlen hc h2=>by
  match cs',hlen with
  | [v0],_ =>
   obtain ⟨k0,e0,_,_⟩:=DataW.trod_string Tryz.underlying9 h2
   simp at e0
   subst e0
   exact ⟨k0.data.toList,hc 0 (by decide)⟩) h
 refine ⟨l,⟨ao,cap,hv,?_⟩,hmx⟩
 rcases hl with h | ⟨b,off,he,hc⟩
 · exact .inl h
 · exact .inr ⟨b,off,he,fun i hi=>by have:=hc i hi; rw [Nat.mul_one] at this; exact this⟩
theorem open_pterms {fuel:Nat} {v:Value} {x:DataW H × List MemPlace} (h:DataW.trod enc Tryz.prog w base spare held fuel 37 [v]=some x):∃ l,PTermsV w v l∧l.length≤9223372036854775807:=by
 obtain ⟨ao,l,cap,hv,hcap,hmx,hl⟩:=open_rowC Tryz.underlying37 P_cells130 (by decide) (⟨0,0⟩:Sc.Term) (PTermIn w) (fun n cs' y b off hlen hc h2=>by
  obtain ⟨y0,y1,k,_,g0,g1⟩:=trod_struct2 Tryz.underlying147 h2
  obtain ⟨v0,v1,rfl⟩:=list2 hlen
  simp [A_cells3] at g0 g1
  obtain ⟨k0,e0,_,_⟩:=DataW.trod_int Tryz.underlying3 g0
  obtain ⟨k1,e1,_,_⟩:=DataW.trod_int Tryz.underlying3 g1
  simp at e0 e1
  subst e0 e1
  exact ⟨⟨k0,k1⟩,hc 0 (by decide),hc 1 (by decide)⟩) h
 exact ⟨l,⟨ao,cap,hv,hcap,hl⟩,hmx⟩
theorem open_fact {fuel:Nat} {v0 v1:Value} {x:DataW H × List MemPlace} (h:DataW.trod enc Tryz.prog w base spare held fuel 55 [v0,v1]=some x):∃ pred args,v0=.int .i64 pred∧IntsV w v1 args∧args.length≤9223372036854775807:=by
 obtain ⟨y0,y1,n,_,g0,g1⟩:=trod_struct2 Tryz.underlying55 h
 simp [A_cells3,P_cells22] at g0 g1
 obtain ⟨k0,e0,_,_⟩:=DataW.trod_int Tryz.underlying3 g0
 obtain ⟨l1,hl1,hm1⟩:=open_ints g1
 simp at e0
 exact ⟨k0,l1,e0,hl1,hm1⟩
end

section
variable {H:Type} {enc:TypeId × Value→H} {w:World} {base:Nat} {spare:Nat→Bool} {held:Bool}
theorem open_plitsC {fuel:Nat} {v:Value} {x:DataW H × List MemPlace} (h:DataW.trod enc Tryz.prog w base spare held fuel 38 [v]=some x):∃ l,PLitsV w v l∧l.length≤9223372036854775807∧(∀ i,i<l.length→LitFit (Sc.litD l i))∧CapOk v:=by
 obtain ⟨ao,l,cap,hv,hcp,hmx,hl⟩:=open_rowC Tryz.underlying38 P_cells84 (by decide) (⟨0,0,0,[]⟩:Sc.Lit) (fun b off x=>PLitIn w b off x∧LitFit x) (fun n cs' y b off hlen hc h2=>by
  obtain ⟨y0,y1,y2,y3,k,_,g0,g1,g2,g3⟩:=trod_struct4 Tryz.underlying49 h2
  obtain ⟨v0,v1,v2,v3,rfl⟩:=list4 hlen
  simp [A_cells3,P_cells64] at g0 g1 g2 g3
  obtain ⟨k0,e0,_,_⟩:=DataW.trod_int Tryz.underlying3 g0
  obtain ⟨k1,e1,_,_⟩:=DataW.trod_int Tryz.underlying3 g1
  obtain ⟨k2,e2,_,_⟩:=DataW.trod_int Tryz.underlying3 g2
  obtain ⟨l3,hl3,hm3⟩:=open_pterms g3
  simp at e0 e1 e2
  subst e0 e1 e2
  exact ⟨⟨k0,k1,k2,l3⟩,⟨hc 0 (by decide),hc 1 (by decide),hc 2 (by decide),v3,hc 3 (by decide),hl3⟩,hm3⟩) h
 refine ⟨l,⟨ao,cap,hv,?_⟩,hmx,?_,fun ao2 n2 c2 h2=>by rw [hv] at h2; injection h2 with _ e1 e2; subst e1 e2; exact hcp⟩
 · rcases hl with h | ⟨b,off,he,hc⟩
   · exact .inl h
   · exact .inr ⟨b,off,he,fun i hi=>(hc i hi).1⟩
 · intro i hi
   rcases hl with h | ⟨b,off,he,hc⟩
   · rw [h] at hi; simp at hi
   · exact (hc i hi).2
theorem open_prulesC {fuel:Nat} {v:Value} {x:DataW H × List MemPlace} (h:DataW.trod enc Tryz.prog w base spare held fuel 24 [v]=some x):∃ l,PRulesV w v l∧l.length≤9223372036854775807∧(∀ i,i<l.length→RuleFit (Sc.ruleD l i))∧RulesCap w v:=by
 obtain ⟨ao,l,cap,hv,_,hmx,hl⟩:=open_rowC Tryz.underlying24 P_cells67 (by decide) (⟨0,[],0,[],0⟩:Sc.Rule) (fun b off x=>PRuleIn w b off x∧RuleFit x∧∃ u,w.cell? ⟨b,off+3,none⟩=some u∧CapOk u) (fun n cs' y b off hlen hc h2=>by
  obtain ⟨y0,y1,y2,y3,y4,k,_,g0,g1,g2,g3,g4⟩:=trod_struct5 Tryz.underlying40 h2
  obtain ⟨v0,v1,v2,v3,v4,rfl⟩:=list5 hlen
  simp [A_cells3,P_cells64,P_cells65] at g0 g1 g2 g3 g4
  obtain ⟨k0,e0,_,_⟩:=DataW.trod_int Tryz.underlying3 g0
  obtain ⟨l1,hl1,hm1⟩:=open_pterms g1
  obtain ⟨k2,e2,_,_⟩:=DataW.trod_int Tryz.underlying3 g2
  obtain ⟨l3,hl3,hm3,hf3,hcp3⟩:=open_plitsC g3
  obtain ⟨k4,e4,_,_⟩:=DataW.trod_int Tryz.underlying3 g4
  simp at e0 e2 e4
  subst e0 e2 e4
  exact ⟨⟨k0,l1,k2,l3,k4⟩,⟨hc 0 (by decide),⟨v1,hc 1 (by decide),hl1⟩,hc 2 (by decide),⟨v3,hc 3 (by decide),hl3⟩,hc 4 (by decide)⟩,⟨hm1,hm3,hf3⟩,v3,hc 3 (by decide),hcp3⟩) h
 refine ⟨l,⟨ao,cap,hv,?_⟩,hmx,?_,?_⟩
 · rcases hl with h | ⟨b,off,he,hc⟩
   · exact .inl h
   · exact .inr ⟨b,off,he,fun i hi=>(hc i hi).1⟩
 · intro i hi
   rcases hl with h | ⟨b,off,he,hc⟩
   · rw [h] at hi; simp at hi
   · exact (hc i hi).2.1
 · intro b off n cap2 hv2 k hk u hu
   rw [hv] at hv2
   injection hv2 with e1 e2 e3
   subst e1 e2 e3
   rcases hl with h | ⟨b2,off2,he,hc⟩
   · rw [h] at hk; simp at hk
   · injection he with he
     injection he with e1 e2
     subst e1 e2
     obtain ⟨u2,hu2,hok⟩:=(hc k hk).2.2
     rw [hu2] at hu
     injection hu with hu
     subst hu
     exact hok
theorem open_progC {fuel:Nat} {va vn vr:Value} {x:DataW H × List MemPlace} (h:DataW.trod enc Tryz.prog w base spare held fuel 26 [va,vn,vr]=some x):∃ p,ProgV w va vn vr p∧ProgFit p∧RulesCap w vr:=by
 obtain ⟨y0,y1,y2,n,_,g0,g1,g2⟩:=trod_struct3 Tryz.underlying26 h
 simp [P_cells22,P_cells23,P_cells24] at g0 g1 g2
 obtain ⟨l0,hl0,hm0⟩:=open_ints g0
 obtain ⟨l1,hl1,hm1⟩:=open_strs g1
 obtain ⟨l2,hl2,hm2,hf2,hcp2⟩:=open_prulesC g2
 exact ⟨⟨l0,l1,l2⟩,⟨hl0,hl1,hl2⟩,⟨hm0,hm1,hm2,hf2⟩,hcp2⟩
theorem open_factsC {fuel:Nat} {v:Value} {x:DataW H × List MemPlace} (h:DataW.trod enc Tryz.prog w base spare held fuel 27 [v]=some x):∃ l,FactsV w v l∧l.length≤9223372036854775807∧∀ f,f∈l→FFit f:=by
 obtain ⟨ao,l,cap,hv,hcp,hmx,hl⟩:=open_rowC Tryz.underlying27 P_cells28 (by decide) (⟨0,[]⟩:Rl.Fc) (fun b off f=>FactIn w b off f∧FFit f) (fun n cs' y b off hlen hc h2=>by
  match cs',hlen with
  | [v0,v1],_ =>
   obtain ⟨pr,ar,e0,hI,hm⟩:=open_fact h2
   exact ⟨⟨pr,ar⟩,⟨by rw [← e0]; exact hc 0 (by decide),v1,hc 1 (by decide),hI⟩,hm⟩) h
 refine ⟨l,⟨ao,cap,hv,⟨hcp,fun e=>?_⟩,?_⟩,hmx,fun f hf=>?_⟩
 · subst e
   rcases Deep.open_slice Tryz.underlying27 h with ⟨hv2,_⟩ | ⟨a,len,cap2,m,n,D,Pl,hv2,_⟩
   · have hv':v=.slice none 0 0:=by simpa using hv2
     rw [hv] at hv'
     injection hv' with _ _ h2
   · have hv':v=.slice (some a) len cap2:=by simpa using hv2
     rw [hv] at hv'
     injection hv' with h1
     cases h1
 · rcases hl with h | ⟨b,off,he,hc⟩
   · exact .inl h
   · exact .inr ⟨b,off,he,fun i hi=>(hc i hi).1⟩
 · obtain ⟨i,hi,rfl⟩:=List.getElem_of_mem hf
   rcases hl with h | ⟨b,off,he,hc⟩
   · rw [h] at hi; simp at hi
   · have:=(hc i hi).2
     rwa [List.getD_eq_getElem?_getD,List.getElem?_eq_getElem hi] at this
end

end Go.Proofs.YthenjegmigeieaaGreat

namespace Go.Proofs.YthenjegmigeieaaGreat
open Go.ChangeShapes Go.WideShapes Go.ChangeAt Go.RowKit
theorem rulTells_and {a b:Bool} (ha:a=true) (hb:b=true):(a && b)=true:=by rw [ha,hb]; rfl
theorem rulTells_j1:Rows.ruleTellsRow.wf (OpenSpec.ofChange Rows.ruleTellsSpec)=true:=by kernel_rfl
theorem rulTells_j2:laidOutB Tryz.prog=true:=by kernel_rfl
theorem rulTells_j3:mapsRowed Tryz.prog=true:=by kernel_rfl
theorem rulTells_j4:Tryz.f3.params.all (Tryz.prog.readableRec ·)=true:=by kernel_rfl
theorem rulTells_j5:namedTie Tryz.prog Rows.ruleTellsRow.named Rows.ruleTellsSpec.vars=true:=by kernel_rfl
theorem rulTells_j6:(Rows.ruleTellsRow.stops==[])=true:=by kernel_rfl
theorem rulTells_j7:(Tryz.prog.stops==[])=true:=by kernel_rfl
theorem rulTells_j8:(Rows.ruleTellsRow.knobs==[])=true:=by kernel_rfl
theorem rulTells_j9:(Tryz.prog.stopKnobs==[])=true:=by kernel_rfl
theorem rulTells_j10:(Rows.ruleTellsRow.inPlace==Tryz.prog.inPlace 3)=true:=by kernel_rfl
theorem rulTells_j11:(Rows.ruleTellsRow.unfollowed==Tryz.prog.unfollowed 3)=true:=by kernel_rfl
theorem rulTells_j12:(Rows.ruleTellsRow.recurses==Tryz.prog.recurses 3)=true:=by kernel_rfl
theorem rulTells_j13:(Rows.ruleTellsRow.named==Tryz.prog.varsNamed 3)=true:=by kernel_rfl
theorem rulTells_j14:(Rows.ruleTellsRow.maps==(Tryz.f3.params.toList++Rows.ruleTellsSpec.plain.varTypes Tryz.prog).any (Tryz.prog.mapsRec ·))=true:=by kernel_rfl
theorem rulTells_j15:(Rows.ruleTellsRow.ifaces==(Tryz.f3.params.toList++Rows.ruleTellsSpec.plain.varTypes Tryz.prog).any (Tryz.prog.ifacesRec ·))=true:=by kernel_rfl
theorem rulTells_j16:(Rows.ruleTellsRow.mapsOut==Tryz.prog.mapsAmong Tryz.f3.resultTypes.toList)=true:=by kernel_rfl
theorem rulTells_j17:(Rows.ruleTellsRow.loops==(Tryz.f3.params.toList++Rows.ruleTellsSpec.plain.varTypes Tryz.prog).any (Tryz.prog.loopsFrom ·))=true:=by kernel_rfl
theorem rulTells_j18:(Rows.ruleTellsRow.wideKeys==(Tryz.f3.params.toList++Rows.ruleTellsSpec.plain.varTypes Tryz.prog++Tryz.f3.resultTypes.toList).any (Tryz.prog.wideKeysFrom ·))=true:=by kernel_rfl
theorem rulTells_j19:Rows.ruleTellsSpec.vars.all (Tryz.prog.varReadable ·)=true:=by kernel_rfl
theorem rulTells_j20:Tryz.f3.resultTypes.all (fun t=>Tryz.prog.readableRec t && decide (t<Tryz.prog.types.size))=true:=by kernel_rfl
theorem rulTells_j21:(Rows.ruleTellsRow.ifacesOut==Tryz.f3.resultTypes.toList.any (Tryz.prog.ifacesRec ·))=true:=by kernel_rfl
theorem rulTells_j22:(Rows.ruleTellsRow.loopsOut==Tryz.f3.resultTypes.toList.any (Tryz.prog.loopsFrom ·))=true:=by kernel_rfl
theorem rulTells_j23:(Rows.ruleTellsRow.plainKeys==Tryz.prog.plainKeys)=true:=by kernel_rfl
theorem rulTells_j24:Rows.ruleTellsRow.shortTexts.isNone=true:=by kernel_rfl
theorem rulTells_j25:Tryz.prog.stopsHeard=true:=by kernel_rfl
theorem rulTells_j26:Tryz.prog.mayEnter=true:=by kernel_rfl
theorem rulTells_j27:(Rows.ruleTellsRow.lifted==Tryz.prog.liftsFinal)=true:=by kernel_rfl
theorem rulTells_j28:(Tryz.prog.make==some Rows.ruleTellsRow.make)=true:=by kernel_rfl
theorem rulTells_j29:(Rows.ruleTellsRow.kinds==(if Rows.ruleTellsRow.domain.isEmpty then [] else Tryz.f3.params.toList.map fun t=>match Tryz.prog.underlying t with | some (.int k)=>some k | _=>none))=true:=by kernel_rfl
theorem rulTells_j30:(Rows.ruleTellsRow.pinned==Rows.ruleTellsRow.pinnedBy)=true:=by kernel_rfl
theorem rulTells_j31:(Rows.ruleTellsRow.veiled==(Tryz.f3.params.toList++Rows.ruleTellsSpec.plain.varTypes Tryz.prog++Tryz.f3.resultTypes.toList).any (Tryz.prog.veiledRec ·))=true:=by kernel_rfl
theorem rulTells_j32:Rows.ruleTellsRow.veiledFits Tryz.prog Tryz.f3.params.toList (Tryz.f3.params.toList++Rows.ruleTellsSpec.plain.varTypes Tryz.prog++Tryz.f3.resultTypes.toList)=true:=by kernel_rfl
theorem rulTells_facts:joinedFacts Tryz.prog 3 Tryz.f3 (Rows.ruleTellsSpec) Rows.ruleTellsRow=true:=by
 unfold joinedFacts
 exact rulTells_and (rulTells_and (rulTells_and (rulTells_and (rulTells_and (rulTells_and (rulTells_and (rulTells_and (rulTells_and (rulTells_and (rulTells_and (rulTells_and (rulTells_and (rulTells_and (rulTells_and (rulTells_and (rulTells_and (rulTells_and (rulTells_and (rulTells_and (rulTells_and (rulTells_and (rulTells_and (rulTells_and (rulTells_and (rulTells_and (rulTells_and (rulTells_and (rulTells_and (rulTells_and (rulTells_and rulTells_j1 rulTells_j2) rulTells_j3) rulTells_j4) rulTells_j5) rulTells_j6) rulTells_j7) rulTells_j8) rulTells_j9) rulTells_j10) rulTells_j11) rulTells_j12) rulTells_j13) rulTells_j14) rulTells_j15) rulTells_j16) rulTells_j17) rulTells_j18) rulTells_j19) rulTells_j20) rulTells_j21) rulTells_j22) rulTells_j23) rulTells_j24) rulTells_j25) rulTells_j26) rulTells_j27) rulTells_j28) rulTells_j29) rulTells_j30) rulTells_j31) rulTells_j32
end Go.Proofs.YthenjegmigeieaaGreat
