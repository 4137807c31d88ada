/- Own texts, one behind the other (part 6). -/
import Derived.Test.YthenjegmigeieaaGreatBundleE
import Derived.Test.YthenjegmigeieaaGreatRows
import Derived.Laws.AppendOwnNone
import Derived.Lib.AppendZeros
set_option maxRecDepth 100000
set_option maxHeartbeats 8000000
namespace Go.Proofs.YthenjegmigeieaaGreat
open Go.RowKit
def hold7T (y:Ru.Way) (X b off ct:Nat) (op:Int) (t0 t1:Sc.Term) (hh:Nat) (cb:Array Value):Nat→Value
 | 39=>.pointer (some ⟨X,1,none⟩)
 | 40=>.int .i64 op
 | 41=>wayVal y
 | 42=>.pointer (some ⟨X,3,none⟩)
 | 43=>.slice (some ⟨b,off,none⟩) 2 ct
 | 44=>.pointer (some ⟨b,off,none⟩)
 | 45=>ptermVal t0
 | 46=>.int .i64 (Ru.num y.nums t0)
 | 47=>wayVal y
 | 48=>.pointer (some ⟨X,3,none⟩)
 | 49=>.slice (some ⟨b,off,none⟩) 2 ct
 | 50=>.pointer (some ⟨b,off+2,none⟩)
 | 51=>ptermVal t1
 | 52=>.int .i64 (Ru.num y.nums t1)
 | 53=>.bool true
 | 54=>.bool false
 | 55=>.bool false
 | 56=>.func (.func hh) #[] cb
 | 57=>wayVal y
 | _=>.bool false
def hold7F (y:Ru.Way) (X b off ct:Nat) (op:Int) (t0 t1:Sc.Term):Nat→Value
 | 39=>.pointer (some ⟨X,1,none⟩)
 | 40=>.int .i64 op
 | 41=>wayVal y
 | 42=>.pointer (some ⟨X,3,none⟩)
 | 43=>.slice (some ⟨b,off,none⟩) 2 ct
 | 44=>.pointer (some ⟨b,off,none⟩)
 | 45=>ptermVal t0
 | 46=>.int .i64 (Ru.num y.nums t0)
 | 47=>wayVal y
 | 48=>.pointer (some ⟨X,3,none⟩)
 | 49=>.slice (some ⟨b,off,none⟩) 2 ct
 | 50=>.pointer (some ⟨b,off+2,none⟩)
 | 51=>ptermVal t1
 | 52=>.int .i64 (Ru.num y.nums t1)
 | 53=>.bool false
 | 54=>.bool true
 | 55=>.bool true
 | 56=>undef
 | 57=>undef
 | 58=>undef
 | 59=>.bool true
 | 8=>.bool true
 | _=>.bool false
theorem hold3_any {σ:Type} {step:σ→Ru.Way→σ × Bool} {live:σ→Ru.Way→Prop} {I:σ→World→Prop} {NB hh:Nat} {cb:Array Value} (facts:List Rl.Fc) (l:Sc.Lit) (y:Ru.Way) (vf vt:Value) (w0 w:World) (s:σ)
 (hB0:Below w0.heap.size w0 w) (hT:PTermsV w0 vt l.terms) (hTI:Ru.TermsIn 8 l.terms) (hTl:l.terms.length=2) (hy:Ru.Wf 8 y) (hk:l.kind=3)
 (TL:Tell w0.heap.size NB hh cb step live I) (he:∀ args w,(callFunc hh args).run Tryz.prog w=.ok (.enter hh args) w) (hI:I s w) (hLv:Ru.Lv step live s (Ru.on facts l y)) :
 Calls Tryz.prog 145 #[vf,plitVal l vt,wayVal y,.func (.func hh) #[] cb] w fun e w'=>e=.returned (.bool (Ru.run step s (Ru.on facts l y)).2)∧I (Ru.run step s (Ru.on facts l y)).1 w'∧Kp w0.heap.size NB w w':=by
 obtain ⟨at_,ct,rfl,_,hTA⟩:=id hT
 obtain ⟨kd,op,pd,ts⟩:=l
 dsimp only at *
 subst hk
 obtain ⟨t0,t1,rfl⟩:∃ t0 t1,ts=[t0,t1]:=by
  match ts,hTl with
  | [a,b],_=>exact ⟨a,b,rfl⟩
 have hon:Ru.on facts ⟨3,op,pd,[t0,t1]⟩ y=if Ru.isSo op (Ru.num y.nums t0) (Ru.num y.nums t1)=true then [y] else []:=by unfold Ru.on; rfl
 generalize hLL:Ru.on facts ⟨3,op,pd,[t0,t1]⟩ y=LL at *
 have HON:Hid _:=hon
 have HT0:Hid (Ru.TermIn 8 t0):=hTI t0 (by simp)
 have HT1:Hid (Ru.TermIn 8 t1):=hTI t1 (by simp)
 obtain ⟨b,off,rfl,hc⟩:=pterms_at hTA 0 (by simp)
 obtain ⟨p0,p1⟩:=hc 0 (by simp)
 obtain ⟨p2,p3⟩:=hc 1 (by simp)
 rw [Nat.zero_mul,Nat.add_zero] at p0 p1
 rw [Nat.one_mul] at p2 p3
 clear hon hLL hc hTA hT hTI hTl
 show Calls Tryz.prog 145 #[vf,.agg #[.int .i64 3,.int .i64 op,.int .i64 pd,.slice (some ⟨b,off,none⟩) 2 ct],wayVal y,.func (.func hh) #[] cb] w _
 obtain ⟨h0,h1,hb⟩:=ru_two w (.cells #[.int .i64 3,.int .i64 op,.int .i64 pd,.slice (some ⟨b,off,none⟩) 2 ct] 49) (.cells (wayArr y) 138)
 have hroom0:=TL.room s w hI
 have HW:Hid (WayAt ((w.alloc (.cells #[.int .i64 3,.int .i64 op,.int .i64 pd,.slice (some ⟨b,off,none⟩) 2 ct] 49)).alloc (.cells (wayArr y) 138)) (w.heap.size+1) y):=h1
 have HI:Hid _:=TL.grow _ _ _ hI hb
 have HK:Hid (Kp w0.heap.size NB w ((w.alloc (.cells #[.int .i64 3,.int .i64 op,.int .i64 pd,.slice (some ⟨b,off,none⟩) 2 ct] 49)).alloc (.cells (wayArr y) 138))):=Kp.of_below hb hroom0.1
 have hBq:=HK.out.below hB0
 replace p0:((w.alloc (.cells #[.int .i64 3,.int .i64 op,.int .i64 pd,.slice (some ⟨b,off,none⟩) 2 ct] 49)).alloc (.cells (wayArr y) 138)).cell? ⟨b,off,none⟩=some (.int .i64 t0.var):=cell_below hBq p0
 replace p1:((w.alloc (.cells #[.int .i64 3,.int .i64 op,.int .i64 pd,.slice (some ⟨b,off,none⟩) 2 ct] 49)).alloc (.cells (wayArr y) 138)).cell? ⟨b,off+1,none⟩=some (.int .i64 t0.n):=cell_below hBq p1
 replace p2:((w.alloc (.cells #[.int .i64 3,.int .i64 op,.int .i64 pd,.slice (some ⟨b,off,none⟩) 2 ct] 49)).alloc (.cells (wayArr y) 138)).cell? ⟨b,off+2,none⟩=some (.int .i64 t1.var):=cell_below hBq p2
 replace p3:((w.alloc (.cells #[.int .i64 3,.int .i64 op,.int .i64 pd,.slice (some ⟨b,off,none⟩) 2 ct] 49)).alloc (.cells (wayArr y) 138)).cell? ⟨b,off+2+1,none⟩=some (.int .i64 t1.n):=cell_below hBq p3
 have HTL:Hid _:=TL
 have HWF:Hid _:=hy
 have d0:((w.alloc (.cells #[.int .i64 3,.int .i64 op,.int .i64 pd,.slice (some ⟨b,off,none⟩) 2 ct] 49)).alloc (.cells (wayArr y) 138)).cell? ⟨w.heap.size,0,none⟩=some (.int .i64 3):=by rw [Lib.cell_of_heap h0]; rfl
 have d1:((w.alloc (.cells #[.int .i64 3,.int .i64 op,.int .i64 pd,.slice (some ⟨b,off,none⟩) 2 ct] 49)).alloc (.cells (wayArr y) 138)).cell? ⟨w.heap.size,1,none⟩=some (.int .i64 op):=by rw [Lib.cell_of_heap h0]; rfl
 have d3:((w.alloc (.cells #[.int .i64 3,.int .i64 op,.int .i64 pd,.slice (some ⟨b,off,none⟩) 2 ct] 49)).alloc (.cells (wayArr y) 138)).cell? ⟨w.heap.size,3,none⟩=some (.slice (some ⟨b,off,none⟩) 2 ct):=by rw [Lib.cell_of_heap h0]; rfl
 have hroom:=TL.room _ _ HI.out
 clear h0 h1 hb hI hB0 TL hBq
 go_enter Tryz.func145,Tryz.ntmps145
 go_upto_region 7 with fail
 generalize ((w.alloc (.cells #[.int .i64 3,.int .i64 op,.int .i64 pd,.slice (some ⟨b,off,none⟩) 2 ct] 49)).alloc (.cells (wayArr y) 138))=w1 at *
 cases hso:Ru.isSo op (Ru.num y.nums t0) (Ru.num y.nums t1)
 · have HSO:Hid _:=hso
   have HE:Hid (Ru.run step s LL=(s,true)):=by show _=_; rw [HON.out,hso]; rfl
   clear hso hLv HON
   refine wp_region_tabA (fun tQ vQ _=>vQ=hold7F y w.heap.size b off ct op t0 t1 tQ) (by kernel_rfl) (by kernel_rfl) (fun _ _ _ _ _ h=>h) ?hopB ?hendB
   case hopB =>
    refine AllOps.cons (fun a y_ h=>?_) ?_
    · have e5:a.eval (.tmp 5)=(.pointer (some ⟨w.heap.size,0,none⟩):Value):=h.old 5 (by kernel_rfl)
      refine opOk_val (v:=.pointer (some ⟨w.heap.size,1,none⟩)) (w':=y_) (wanted_none rfl) ?_ (fun t ht=>by cases ht; exact rfl) (Below.refl _ _)
      have ec:=evc a
      generalize a.eval=ev at *
      clear h
      go_simp
    refine AllOps.cons (fun a y_ h=>?_) ?_
    · have e39:a.eval (.tmp 39)=(.pointer (some ⟨w.heap.size,1,none⟩):Value):=h.of 39 (by kernel_rfl)
      have c1:=cell_below h.below d1
      refine opOk_val (v:=.int .i64 op) (w':=y_) (wanted_none rfl) ?_ (fun t ht=>by cases ht; exact rfl) (Below.refl _ _)
      have ec:=evc a
      generalize a.eval=ev at *
      clear h
      go_simp
    refine AllOps.cons (fun a y_ h=>?_) ?_
    · have e6:a.eval (.tmp 6)=(.pointer (some ⟨w.heap.size+1,0,none⟩):Value):=h.old 6 (by kernel_rfl)
      refine opOk_val (v:=wayVal y) (w':=y_) (wanted_none rfl) ?_ (fun t ht=>by cases ht; exact rfl) (Below.refl _ _)
      exact load_way rfl e6 (WayAt.below HW.out h.below) hy
    refine AllOps.cons (fun a y_ h=>?_) ?_
    · have e5:a.eval (.tmp 5)=(.pointer (some ⟨w.heap.size,0,none⟩):Value):=h.old 5 (by kernel_rfl)
      refine opOk_val (v:=.pointer (some ⟨w.heap.size,3,none⟩)) (w':=y_) (wanted_none rfl) ?_ (fun t ht=>by cases ht; exact rfl) (Below.refl _ _)
      have ec:=evc a
      generalize a.eval=ev at *
      clear h
      go_simp
    refine AllOps.cons (fun a y_ h=>?_) ?_
    · have e42:a.eval (.tmp 42)=(.pointer (some ⟨w.heap.size,3,none⟩):Value):=h.of 42 (by kernel_rfl)
      have c3:=cell_below h.below d3
      refine opOk_val (v:=.slice (some ⟨b,off,none⟩) 2 ct) (w':=y_) (wanted_none rfl) ?_ (fun t ht=>by cases ht; exact rfl) (Below.refl _ _)
      have ec:=evc a
      generalize a.eval=ev at *
      clear h
      go_simp
    refine AllOps.cons (fun a y_ h=>?_) ?_
    · have e43:a.eval (.tmp 43)=(.slice (some ⟨b,off,none⟩) 2 ct:Value):=h.of 43 (by kernel_rfl)
      refine opOk_val (v:=.pointer (some ⟨b,off,none⟩)) (w':=y_) (wanted_none rfl) ?_ (fun t ht=>by cases ht; exact rfl) (Below.refl _ _)
      have ec:=evc a
      generalize a.eval=ev at *
      clear h
      go_simp
    refine AllOps.cons (fun a y_ h=>?_) ?_
    · have e44:a.eval (.tmp 44)=(.pointer (some ⟨b,off,none⟩):Value):=h.of 44 (by kernel_rfl)
      have c0:=cell_below h.below p0
      have c1:=cell_below h.below p1
      refine opOk_val (v:=ptermVal t0) (w':=y_) (wanted_none rfl) ?_ (fun t ht=>by cases ht; exact rfl) (Below.refl _ _)
      have ec:=evc a
      generalize a.eval=ev at *
      clear h
      go_simp
    refine AllOps.cons (fun a y_ h=>?_) ?_
    · have e41:a.eval (.tmp 41)=(wayVal y:Value):=h.of 41 (by kernel_rfl)
      have e45:a.eval (.tmp 45)=(ptermVal t0:Value):=h.of 45 (by kernel_rfl)
      refine opOk_call (f:=187) (args:=#[wayVal y,ptermVal t0]) (wanted_none rfl) ?_ ?_
      · have ec:=evc a
        have ef:=evf a
        generalize a.eval=ev at *
        clear h
        go_simp
      · refine Calls.mono (number_any y t0 y_ hy HT0.out) ?_
        rintro _ y2 ⟨rfl,hb2⟩
        exact ⟨_,rfl,fun t ht=>by cases ht; exact rfl,hb2⟩
    refine AllOps.cons (fun a y_ h=>?_) ?_
    · have e6:a.eval (.tmp 6)=(.pointer (some ⟨w.heap.size+1,0,none⟩):Value):=h.old 6 (by kernel_rfl)
      refine opOk_val (v:=wayVal y) (w':=y_) (wanted_none rfl) ?_ (fun t ht=>by cases ht; exact rfl) (Below.refl _ _)
      exact load_way rfl e6 (WayAt.below HW.out h.below) hy
    refine AllOps.cons (fun a y_ h=>?_) ?_
    · have e5:a.eval (.tmp 5)=(.pointer (some ⟨w.heap.size,0,none⟩):Value):=h.old 5 (by kernel_rfl)
      refine opOk_val (v:=.pointer (some ⟨w.heap.size,3,none⟩)) (w':=y_) (wanted_none rfl) ?_ (fun t ht=>by cases ht; exact rfl) (Below.refl _ _)
      have ec:=evc a
      generalize a.eval=ev at *
      clear h
      go_simp
    refine AllOps.cons (fun a y_ h=>?_) ?_
    · have e48:a.eval (.tmp 48)=(.pointer (some ⟨w.heap.size,3,none⟩):Value):=h.of 48 (by kernel_rfl)
      have c3:=cell_below h.below d3
      refine opOk_val (v:=.slice (some ⟨b,off,none⟩) 2 ct) (w':=y_) (wanted_none rfl) ?_ (fun t ht=>by cases ht; exact rfl) (Below.refl _ _)
      have ec:=evc a
      generalize a.eval=ev at *
      clear h
      go_simp
    refine AllOps.cons (fun a y_ h=>?_) ?_
    · have e49:a.eval (.tmp 49)=(.slice (some ⟨b,off,none⟩) 2 ct:Value):=h.of 49 (by kernel_rfl)
      refine opOk_val (v:=.pointer (some ⟨b,off+2,none⟩)) (w':=y_) (wanted_none rfl) ?_ (fun t ht=>by cases ht; exact rfl) (Below.refl _ _)
      have ec:=evc a
      generalize a.eval=ev at *
      clear h
      go_simp
    refine AllOps.cons (fun a y_ h=>?_) ?_
    · have e50:a.eval (.tmp 50)=(.pointer (some ⟨b,off+2,none⟩):Value):=h.of 50 (by kernel_rfl)
      have c0:=cell_below h.below p2
      have c1:=cell_below h.below p3
      refine opOk_val (v:=ptermVal t1) (w':=y_) (wanted_none rfl) ?_ (fun t ht=>by cases ht; exact rfl) (Below.refl _ _)
      have ec:=evc a
      generalize a.eval=ev at *
      clear h
      go_simp
    refine AllOps.cons (fun a y_ h=>?_) ?_
    · have e47:a.eval (.tmp 47)=(wayVal y:Value):=h.of 47 (by kernel_rfl)
      have e51:a.eval (.tmp 51)=(ptermVal t1:Value):=h.of 51 (by kernel_rfl)
      refine opOk_call (f:=187) (args:=#[wayVal y,ptermVal t1]) (wanted_none rfl) ?_ ?_
      · have ec:=evc a
        have ef:=evf a
        generalize a.eval=ev at *
        clear h
        go_simp
      · refine Calls.mono (number_any y t1 y_ hy HT1.out) ?_
        rintro _ y2 ⟨rfl,hb2⟩
        exact ⟨_,rfl,fun t ht=>by cases ht; exact rfl,hb2⟩
    refine AllOps.cons (fun a y_ h=>?_) ?_
    · have e40:a.eval (.tmp 40)=(.int .i64 op:Value):=h.of 40 (by kernel_rfl)
      have e46:a.eval (.tmp 46)=(.int .i64 (Ru.num y.nums t0):Value):=h.of 46 (by kernel_rfl)
      have e52:a.eval (.tmp 52)=(.int .i64 (Ru.num y.nums t1):Value):=h.of 52 (by kernel_rfl)
      refine opOk_call (f:=186) (args:=#[.int .i64 op,.int .i64 (Ru.num y.nums t0),.int .i64 (Ru.num y.nums t1)]) (wanted_none rfl) ?_ ?_
      · have ec:=evc a
        have ef:=evf a
        generalize a.eval=ev at *
        clear h
        go_simp
      · refine Calls.mono (isSo_any op (Ru.num y.nums t0) (Ru.num y.nums t1) y_) ?_
        rintro _ y2 ⟨rfl,rfl⟩
        exact ⟨_,rfl,fun t ht=>by cases ht; exact congrArg Value.bool HSO.out,Below.refl _ _⟩
    refine AllOps.cons (fun a y_ h=>?_) ?_
    · have e53:a.eval (.tmp 53)=(.bool false:Value):=h.of 53 (by kernel_rfl)
      refine opOk_val (v:=.bool true) (w':=y_) (wanted_none rfl) ?_ (fun t ht=>by cases ht; exact rfl) (Below.refl _ _)
      have ec:=evc a
      generalize a.eval=ev at *
      clear h
      go_simp
    refine AllOps.cons (fun a y_ h=>?_) ?_
    · have e54:a.eval (.tmp 54)=(.bool true:Value):=h.of 54 (by kernel_rfl)
      refine opOk_val (v:=.bool true) (w':=y_) (wanted_none rfl) ?_ (fun t ht=>by cases ht; exact rfl) (Below.refl _ _)
      have ec:=evc a
      generalize a.eval=ev at *
      clear h
      go_simp
    refine AllOps.cons (fun a y_ h=>?_) ?_
    · exact opOk_skip (j:=16) (t:=55) (b:=false) (c:=true) rfl rfl rfl (h.of 55 (by kernel_rfl)) (by decide) (fun t ht=>by cases ht; exact rfl)
    refine AllOps.cons (fun a y_ h=>?_) ?_
    · exact opOk_skip (j:=16) (t:=55) (b:=false) (c:=true) rfl rfl rfl (h.of 55 (by kernel_rfl)) (by decide) (fun t ht=>by cases ht; exact rfl)
    refine AllOps.cons (fun a y_ h=>?_) ?_
    · exact opOk_skip (j:=16) (t:=55) (b:=false) (c:=true) rfl rfl rfl (h.of 55 (by kernel_rfl)) (by decide) (fun t ht=>by cases ht; exact rfl)
    refine AllOps.cons (fun a y_ h=>?_) ?_
    · have e55:a.eval (.tmp 55)=(.bool true:Value):=h.of 55 (by kernel_rfl)
      have e58:a.eval (.tmp 58)=(undef:Value):=h.of 58 (by kernel_rfl)
      refine opOk_val (v:=.bool true) (w':=y_) (wanted_none rfl) ?_ (fun t ht=>by cases ht; exact rfl) (Below.refl _ _)
      have ec:=evc a
      generalize a.eval=ev at *
      clear h
      go_simp
    refine AllOps.cons (fun a y_ h=>?_) ?_
    · have e59:a.eval (.tmp 59)=(.bool true:Value):=h.of 59 (by kernel_rfl)
      refine opOk_val (v:=.bool true) (w':=y_) (wanted_none rfl) ?_ (fun t ht=>by cases ht; exact rfl) (Below.refl _ _)
      have ec:=evc a
      generalize a.eval=ev at *
      clear h
      go_simp
    exact AllOps.nil
   case hendB =>
    rintro ⟨tm,df⟩ wE hbE hdE hsE hstE hTE
    have h8:tm.getD 8 undef=.bool true:=ends_at (T:=fun tQ vQ _=>vQ=hold7F y w.heap.size b off ct op t0 t1 tQ) (w:=wE) (a:=⟨tm,df⟩) (t:=8) hTE (by kernel_rfl)
    obtain rfl:df=[]:=hdE
    have hFE:=tmps_fold [39,40,41,42,43,44,45,46,47,48,49,50,51,52,53,54,55,56,57,58,59,8] tm _ hsE hstE
    clear hsE hstE hTE
    simp only [List.foldl_cons,List.foldl_nil,h8] at hFE
    clear h8
    generalize tm.getD 39 undef=x39 at hFE
    generalize tm.getD 40 undef=x40 at hFE
    generalize tm.getD 41 undef=x41 at hFE
    generalize tm.getD 42 undef=x42 at hFE
    generalize tm.getD 43 undef=x43 at hFE
    generalize tm.getD 44 undef=x44 at hFE
    generalize tm.getD 45 undef=x45 at hFE
    generalize tm.getD 46 undef=x46 at hFE
    generalize tm.getD 47 undef=x47 at hFE
    generalize tm.getD 48 undef=x48 at hFE
    generalize tm.getD 49 undef=x49 at hFE
    generalize tm.getD 50 undef=x50 at hFE
    generalize tm.getD 51 undef=x51 at hFE
    generalize tm.getD 52 undef=x52 at hFE
    generalize tm.getD 53 undef=x53 at hFE
    generalize tm.getD 54 undef=x54 at hFE
    generalize tm.getD 55 undef=x55 at hFE
    generalize tm.getD 56 undef=x56 at hFE
    generalize tm.getD 57 undef=x57 at hFE
    generalize tm.getD 58 undef=x58 at hFE
    generalize tm.getD 59 undef=x59 at hFE
    simp only [List.setIfInBounds_toArray,List.set_cons_zero,List.set_cons_succ] at hFE
    subst hFE
    have hKy:Kp w0.heap.size NB _ _:=Kp.of_below hbE hroom.1
    have HIE:Hid _:=HTL.out.grow _ _ _ HI.out hbE
    clear hbE
    go_wp2_with fail
    go_ret
    exact ⟨by rw [HE.out]; rfl,by rw [HE.out]; exact HIE.out,HK.out.trans hKy⟩
 · have HSO:Hid _:=hso
   have HL1:Hid (LL=[y]):=by show _=_; rw [HON.out,hso]; rfl
   rw [HL1.out] at hLv
   have HLv2:Hid _:=hLv.1
   have HE:Hid (Ru.run step s LL=((step s y).1,(step s y).2)):=by
    show _=_
    rw [HL1.out,Ru.run_cons]
    cases hq:(step s y).2 <;> rfl
   clear hso hLv HON HL1
   refine wp_region_tail (fun tQ vQ _=>vQ=hold7T y w.heap.size b off ct op t0 t1 hh cb tQ) 19 (by decide) (by kernel_rfl) (by kernel_rfl) (by kernel_rfl) (fun _ _ _ _ _ h=>h) ?hopA ?htailA
   case hopA =>
    refine AllOps.cons (fun a y_ h=>?_) ?_
    · have e5:a.eval (.tmp 5)=(.pointer (some ⟨w.heap.size,0,none⟩):Value):=h.old 5 (by kernel_rfl)
      refine opOk_val (v:=.pointer (some ⟨w.heap.size,1,none⟩)) (w':=y_) (wanted_none rfl) ?_ (fun t ht=>by cases ht; exact rfl) (Below.refl _ _)
      have ec:=evc a
      generalize a.eval=ev at *
      clear h
      go_simp
    refine AllOps.cons (fun a y_ h=>?_) ?_
    · have e39:a.eval (.tmp 39)=(.pointer (some ⟨w.heap.size,1,none⟩):Value):=h.of 39 (by kernel_rfl)
      have c1:=cell_below h.below d1
      refine opOk_val (v:=.int .i64 op) (w':=y_) (wanted_none rfl) ?_ (fun t ht=>by cases ht; exact rfl) (Below.refl _ _)
      have ec:=evc a
      generalize a.eval=ev at *
      clear h
      go_simp
    refine AllOps.cons (fun a y_ h=>?_) ?_
    · have e6:a.eval (.tmp 6)=(.pointer (some ⟨w.heap.size+1,0,none⟩):Value):=h.old 6 (by kernel_rfl)
      refine opOk_val (v:=wayVal y) (w':=y_) (wanted_none rfl) ?_ (fun t ht=>by cases ht; exact rfl) (Below.refl _ _)
      exact load_way rfl e6 (WayAt.below HW.out h.below) hy
    refine AllOps.cons (fun a y_ h=>?_) ?_
    · have e5:a.eval (.tmp 5)=(.pointer (some ⟨w.heap.size,0,none⟩):Value):=h.old 5 (by kernel_rfl)
      refine opOk_val (v:=.pointer (some ⟨w.heap.size,3,none⟩)) (w':=y_) (wanted_none rfl) ?_ (fun t ht=>by cases ht; exact rfl) (Below.refl _ _)
      have ec:=evc a
      generalize a.eval=ev at *
      clear h
      go_simp
    refine AllOps.cons (fun a y_ h=>?_) ?_
    · have e42:a.eval (.tmp 42)=(.pointer (some ⟨w.heap.size,3,none⟩):Value):=h.of 42 (by kernel_rfl)
      have c3:=cell_below h.below d3
      refine opOk_val (v:=.slice (some ⟨b,off,none⟩) 2 ct) (w':=y_) (wanted_none rfl) ?_ (fun t ht=>by cases ht; exact rfl) (Below.refl _ _)
      have ec:=evc a
      generalize a.eval=ev at *
      clear h
      go_simp
    refine AllOps.cons (fun a y_ h=>?_) ?_
    · have e43:a.eval (.tmp 43)=(.slice (some ⟨b,off,none⟩) 2 ct:Value):=h.of 43 (by kernel_rfl)
      refine opOk_val (v:=.pointer (some ⟨b,off,none⟩)) (w':=y_) (wanted_none rfl) ?_ (fun t ht=>by cases ht; exact rfl) (Below.refl _ _)
      have ec:=evc a
      generalize a.eval=ev at *
      clear h
      go_simp
    refine AllOps.cons (fun a y_ h=>?_) ?_
    · have e44:a.eval (.tmp 44)=(.pointer (some ⟨b,off,none⟩):Value):=h.of 44 (by kernel_rfl)
      have c0:=cell_below h.below p0
      have c1:=cell_below h.below p1
      refine opOk_val (v:=ptermVal t0) (w':=y_) (wanted_none rfl) ?_ (fun t ht=>by cases ht; exact rfl) (Below.refl _ _)
      have ec:=evc a
      generalize a.eval=ev at *
      clear h
      go_simp
    refine AllOps.cons (fun a y_ h=>?_) ?_
    · have e41:a.eval (.tmp 41)=(wayVal y:Value):=h.of 41 (by kernel_rfl)
      have e45:a.eval (.tmp 45)=(ptermVal t0:Value):=h.of 45 (by kernel_rfl)
      refine opOk_call (f:=187) (args:=#[wayVal y,ptermVal t0]) (wanted_none rfl) ?_ ?_
      · have ec:=evc a
        have ef:=evf a
        generalize a.eval=ev at *
        clear h
        go_simp
      · refine Calls.mono (number_any y t0 y_ hy HT0.out) ?_
        rintro _ y2 ⟨rfl,hb2⟩
        exact ⟨_,rfl,fun t ht=>by cases ht; exact rfl,hb2⟩
    refine AllOps.cons (fun a y_ h=>?_) ?_
    · have e6:a.eval (.tmp 6)=(.pointer (some ⟨w.heap.size+1,0,none⟩):Value):=h.old 6 (by kernel_rfl)
      refine opOk_val (v:=wayVal y) (w':=y_) (wanted_none rfl) ?_ (fun t ht=>by cases ht; exact rfl) (Below.refl _ _)
      exact load_way rfl e6 (WayAt.below HW.out h.below) hy
    refine AllOps.cons (fun a y_ h=>?_) ?_
    · have e5:a.eval (.tmp 5)=(.pointer (some ⟨w.heap.size,0,none⟩):Value):=h.old 5 (by kernel_rfl)
      refine opOk_val (v:=.pointer (some ⟨w.heap.size,3,none⟩)) (w':=y_) (wanted_none rfl) ?_ (fun t ht=>by cases ht; exact rfl) (Below.refl _ _)
      have ec:=evc a
      generalize a.eval=ev at *
      clear h
      go_simp
    refine AllOps.cons (fun a y_ h=>?_) ?_
    · have e48:a.eval (.tmp 48)=(.pointer (some ⟨w.heap.size,3,none⟩):Value):=h.of 48 (by kernel_rfl)
      have c3:=cell_below h.below d3
      refine opOk_val (v:=.slice (some ⟨b,off,none⟩) 2 ct) (w':=y_) (wanted_none rfl) ?_ (fun t ht=>by cases ht; exact rfl) (Below.refl _ _)
      have ec:=evc a
      generalize a.eval=ev at *
      clear h
      go_simp
    refine AllOps.cons (fun a y_ h=>?_) ?_
    · have e49:a.eval (.tmp 49)=(.slice (some ⟨b,off,none⟩) 2 ct:Value):=h.of 49 (by kernel_rfl)
      refine opOk_val (v:=.pointer (some ⟨b,off+2,none⟩)) (w':=y_) (wanted_none rfl) ?_ (fun t ht=>by cases ht; exact rfl) (Below.refl _ _)
      have ec:=evc a
      generalize a.eval=ev at *
      clear h
      go_simp
    refine AllOps.cons (fun a y_ h=>?_) ?_
    · have e50:a.eval (.tmp 50)=(.pointer (some ⟨b,off+2,none⟩):Value):=h.of 50 (by kernel_rfl)
      have c0:=cell_below h.below p2
      have c1:=cell_below h.below p3
      refine opOk_val (v:=ptermVal t1) (w':=y_) (wanted_none rfl) ?_ (fun t ht=>by cases ht; exact rfl) (Below.refl _ _)
      have ec:=evc a
      generalize a.eval=ev at *
      clear h
      go_simp
    refine AllOps.cons (fun a y_ h=>?_) ?_
    · have e47:a.eval (.tmp 47)=(wayVal y:Value):=h.of 47 (by kernel_rfl)
      have e51:a.eval (.tmp 51)=(ptermVal t1:Value):=h.of 51 (by kernel_rfl)
      refine opOk_call (f:=187) (args:=#[wayVal y,ptermVal t1]) (wanted_none rfl) ?_ ?_
      · have ec:=evc a
        have ef:=evf a
        generalize a.eval=ev at *
        clear h
        go_simp
      · refine Calls.mono (number_any y t1 y_ hy HT1.out) ?_
        rintro _ y2 ⟨rfl,hb2⟩
        exact ⟨_,rfl,fun t ht=>by cases ht; exact rfl,hb2⟩
    refine AllOps.cons (fun a y_ h=>?_) ?_
    · have e40:a.eval (.tmp 40)=(.int .i64 op:Value):=h.of 40 (by kernel_rfl)
      have e46:a.eval (.tmp 46)=(.int .i64 (Ru.num y.nums t0):Value):=h.of 46 (by kernel_rfl)
      have e52:a.eval (.tmp 52)=(.int .i64 (Ru.num y.nums t1):Value):=h.of 52 (by kernel_rfl)
      refine opOk_call (f:=186) (args:=#[.int .i64 op,.int .i64 (Ru.num y.nums t0),.int .i64 (Ru.num y.nums t1)]) (wanted_none rfl) ?_ ?_
      · have ec:=evc a
        have ef:=evf a
        generalize a.eval=ev at *
        clear h
        go_simp
      · refine Calls.mono (isSo_any op (Ru.num y.nums t0) (Ru.num y.nums t1) y_) ?_
        rintro _ y2 ⟨rfl,rfl⟩
        exact ⟨_,rfl,fun t ht=>by cases ht; exact congrArg Value.bool HSO.out,Below.refl _ _⟩
    refine AllOps.cons (fun a y_ h=>?_) ?_
    · have e53:a.eval (.tmp 53)=(.bool true:Value):=h.of 53 (by kernel_rfl)
      refine opOk_val (v:=.bool false) (w':=y_) (wanted_none rfl) ?_ (fun t ht=>by cases ht; exact rfl) (Below.refl _ _)
      have ec:=evc a
      generalize a.eval=ev at *
      clear h
      go_simp
    refine AllOps.cons (fun a y_ h=>?_) ?_
    · have e54:a.eval (.tmp 54)=(.bool false:Value):=h.of 54 (by kernel_rfl)
      refine opOk_val (v:=.bool false) (w':=y_) (wanted_none rfl) ?_ (fun t ht=>by cases ht; exact rfl) (Below.refl _ _)
      have ec:=evc a
      generalize a.eval=ev at *
      clear h
      go_simp
    refine AllOps.cons (fun a y_ h=>?_) ?_
    · have e3:a.eval (.tmp 3)=(.func (.func hh) #[] cb:Value):=h.old 3 (by kernel_rfl)
      refine opOk_val (v:=.func (.func hh) #[] cb) (w':=y_) (wanted_some (j:=16) (t:=55) (b:=false) rfl rfl rfl (h.of 55 (by kernel_rfl))) ?_ (fun t ht=>by cases ht; exact rfl) (Below.refl _ _)
      have ec:=evc a
      generalize a.eval=ev at *
      clear h
      go_simp
    refine AllOps.cons (fun a y_ h=>?_) ?_
    · have e6:a.eval (.tmp 6)=(.pointer (some ⟨w.heap.size+1,0,none⟩):Value):=h.old 6 (by kernel_rfl)
      refine opOk_val (v:=wayVal y) (w':=y_) (wanted_some (j:=16) (t:=55) (b:=false) rfl rfl rfl (h.of 55 (by kernel_rfl))) ?_ (fun t ht=>by cases ht; exact rfl) (Below.refl _ _)
      exact load_way rfl e6 (WayAt.below HW.out h.below) hy
    exact AllOps.nil
   case htailA =>
    rintro ⟨tm0,df⟩ y_ hI
    have e56:Act.eval ⟨tm0,df⟩ (.tmp 56)=.func (.func hh) #[] cb:=hI.all 17 _ 56 (by decide) rfl rfl
    have e57:Act.eval ⟨tm0,df⟩ (.tmp 57)=wayVal y:=hI.all 18 _ 57 (by decide) rfl rfl
    have e55:tm0.getD 55 undef=.bool false:=hI.all 16 _ 55 (by decide) rfl rfl
    have hsN:tm0.size=97:=hI.size
    show wpOps Tryz.prog _ _ [19,20,21] _ _
    rw [wpOps_cons]
    refine wpOp_call (f:=hh) (args:=#[wayVal y]++cb) rfl (wanted_some (j:=16) (t:=55) (b:=false) rfl rfl rfl e55) ?_ ?_
    · show Sem.run Tryz.prog (execOp (Act.eval ⟨tm0,df⟩) _) y_=_
      generalize Act.eval ⟨tm0,df⟩=ev at *
      clear hI
      go_simp
    refine Calls.mono (HTL.out.call s y_ y (HTL.out.grow _ _ _ HI.out hI.below) HLv2.out HWF.out) ?_
    rintro eR w4 ⟨he4,hI4,hK4⟩
    refine ⟨_,he4,?_⟩
    rw [wpOps_cons]
    refine wpOp_val (v:=(.bool (step s y).2)) (w':=w4) rfl (wanted_none rfl) ?_ ?_
    · have q1:Act.eval (Act.put ⟨tm0,df⟩ (some 58) (.bool (step s y).2)) (.tmp 55)=.bool false:=(put_get_ne (a:=⟨tm0,df⟩) (t:=58) (u:=55) (by decide)).trans e55
      have q2:Act.eval (Act.put ⟨tm0,df⟩ (some 58) (.bool (step s y).2)) (.tmp 58)=(.bool (step s y).2):=put_get_self (by show 58<tm0.size; omega)
      have ec:∀ v,Act.eval (Act.put ⟨tm0,df⟩ (some 58) (.bool (step s y).2)) (.const v)=v:=fun _=>rfl
      show Sem.run Tryz.prog (execOp (Act.eval (Act.put ⟨tm0,df⟩ (some 58) (.bool (step s y).2))) _) w4=_
      generalize Act.eval (Act.put ⟨tm0,df⟩ (some 58) (.bool (step s y).2))=ev at *
      clear hI
      go_simp
    rw [wpOps_cons]
    refine wpOp_val (v:=(.bool (step s y).2)) (w':=w4) rfl (wanted_none rfl) ?_ ?_
    · have q2:Act.eval (Act.put (Act.put ⟨tm0,df⟩ (some 58) (.bool (step s y).2)) (some 59) (.bool (step s y).2)) (.tmp 59)=(.bool (step s y).2):=put_get_self (by rw [put_size]; show 59<tm0.size; omega)
      show Sem.run Tryz.prog (execOp (Act.eval (Act.put (Act.put ⟨tm0,df⟩ (some 58) (.bool (step s y).2)) (some 59) (.bool (step s y).2))) _) w4=_
      generalize Act.eval (Act.put (Act.put ⟨tm0,df⟩ (some 58) (.bool (step s y).2)) (some 59) (.bool (step s y).2))=ev at *
      clear hI
      go_simp
    have hst:∀ t,t∉[39,40,41,42,43,44,45,46,47,48,49,50,51,52,53,54,55,56,57,58,59,8]→(((tm0.setIfInBounds 58 (.bool (step s y).2)).setIfInBounds 59 (.bool (step s y).2)).setIfInBounds 8 (.bool (step s y).2)).getD t undef=_:=fun t ht=>by
     have hA:t≠58:=fun e=>ht (by rw [e]; decide)
     have hB:t≠59:=fun e=>ht (by rw [e]; decide)
     have hC:t≠8:=fun e=>ht (by rw [e]; decide)
     exact ((put_get_ne (a:=(Act.put (Act.put ⟨tm0,df⟩ (some 58) (.bool (step s y).2)) (some 59) (.bool (step s y).2))) hC).trans ((put_get_ne (a:=Act.put ⟨tm0,df⟩ (some 58) (.bool (step s y).2)) hB).trans (put_get_ne (a:=⟨tm0,df⟩) hA))).trans (hI.still t ht)
    have h8:(((tm0.setIfInBounds 58 (.bool (step s y).2)).setIfInBounds 59 (.bool (step s y).2)).setIfInBounds 8 (.bool (step s y).2)).getD 8 undef=(.bool (step s y).2):=put_get_self (a:=(Act.put (Act.put ⟨tm0,df⟩ (some 58) (.bool (step s y).2)) (some 59) (.bool (step s y).2))) (by rw [put_size,put_size]; show 8<tm0.size; omega)
    have hKy:Kp w0.heap.size NB _ _:=Kp.of_below hI.below hroom.1
    obtain rfl:df=[]:=hI.defers
    have hs2:(((tm0.setIfInBounds 58 (.bool (step s y).2)).setIfInBounds 59 (.bool (step s y).2)).setIfInBounds 8 (.bool (step s y).2)).size=97:=by simp [hsN]
    clear hI e56 e57 e55 hsN he4
    show Exit.then _ _ Exit.normal ⟨(((tm0.setIfInBounds 58 (.bool (step s y).2)).setIfInBounds 59 (.bool (step s y).2)).setIfInBounds 8 (.bool (step s y).2)),[]⟩ w4
    generalize (((tm0.setIfInBounds 58 (.bool (step s y).2)).setIfInBounds 59 (.bool (step s y).2)).setIfInBounds 8 (.bool (step s y).2))=tm at *
    have hF8:=tmps_fold [39,40,41,42,43,44,45,46,47,48,49,50,51,52,53,54,55,56,57,58,59,8] tm _ (hs2.trans (by rfl)) hst
    clear hs2 hst
    simp only [List.foldl_cons,List.foldl_nil,h8] at hF8
    clear h8
    generalize tm.getD 39 undef=x39 at hF8
    generalize tm.getD 40 undef=x40 at hF8
    generalize tm.getD 41 undef=x41 at hF8
    generalize tm.getD 42 undef=x42 at hF8
    generalize tm.getD 43 undef=x43 at hF8
    generalize tm.getD 44 undef=x44 at hF8
    generalize tm.getD 45 undef=x45 at hF8
    generalize tm.getD 46 undef=x46 at hF8
    generalize tm.getD 47 undef=x47 at hF8
    generalize tm.getD 48 undef=x48 at hF8
    generalize tm.getD 49 undef=x49 at hF8
    generalize tm.getD 50 undef=x50 at hF8
    generalize tm.getD 51 undef=x51 at hF8
    generalize tm.getD 52 undef=x52 at hF8
    generalize tm.getD 53 undef=x53 at hF8
    generalize tm.getD 54 undef=x54 at hF8
    generalize tm.getD 55 undef=x55 at hF8
    generalize tm.getD 56 undef=x56 at hF8
    generalize tm.getD 57 undef=x57 at hF8
    generalize tm.getD 58 undef=x58 at hF8
    generalize tm.getD 59 undef=x59 at hF8
    simp only [List.setIfInBounds_toArray,List.set_cons_zero,List.set_cons_succ] at hF8
    subst hF8
    go_wp2_with fail
    go_ret
    exact ⟨by rw [HE.out]; rfl,by rw [HE.out]; exact hI4,HK.out.trans (hKy.trans hK4)⟩
def tabFineR (ops:Array Oper) (n:Nat):Bool :=
 decide ((ops.toList.filterMap (·.dst)).Nodup) && (ops.toList.filterMap (·.dst)).all (fun t=>decide (t<n)) && (List.range ops.size).all (fun i=>((ops[i]?).map (fun o=>o.after.toList.all (fun e=>!Region.binds .any e || decide (e.on<i)))).getD true)
def waitedBy (ops:Array Oper) (S i:Nat):Bool:=((ops[S]?).map fun o=>o.after.toList.any fun e=>Region.binds .any e && e.on==i).getD false
structure TabbedR (R:World→World→Prop) (ops:Array Oper) (T:Nat→Value→World→Prop) (a0:Act) (w0:World) (s:Array Bool) (a:Act) (w:World):Prop where
 below:R w0 w
 defers:a.defers=a0.defers
 size:a.tmps.size=a0.tmps.size
 still:∀ t,t∉ops.toList.filterMap (·.dst)→a.tmps.getD t undef=a0.tmps.getD t undef
 done:∀ (i:Nat) (o:Oper) (t:Nat),s[i]?=some true→ops[i]?=some o→o.dst=some t→T t (a.tmps.getD t undef) w
structure OpInR (R:World→World→Prop) (ops:Array Oper) (T:Nat→Value→World→Prop) (a0:Act) (w0:World) (o:Oper) (a:Act) (w:World):Prop where
 below:R w0 w
 still:∀ t,t∉ops.toList.filterMap (·.dst)→a.tmps.getD t undef=a0.tmps.getD t undef
 has:∀ e,e∈o.after→Region.binds .any e=true→∀ (o':Oper) (t:Nat),ops[e.on]?=some o'→o'.dst=some t→T t (a.tmps.getD t undef) w
 size:a.tmps.size=a0.tmps.size
def OpOkR (P:Program) (R:World→World→Prop) (ops:Array Oper) (Q:Exit→Act→World→Prop) (T:Nat→Value→World→Prop) (S:Nat) (D:Act→World→Prop) (i:Nat) (o:Oper) (a:Act) (w:World):Prop :=
 Region.wanted o (yielded ops a.tmps)=true∧o.wp P a w (fun a' w'=>∃ v,a'=a.put o.dst v∧(∀ t,o.dst=some t→T t v w')∧R w w'∧(i=S→D (a.put o.dst v) w')∧(waitedBy ops S i=false→¬ i=S→D a w→D (a.put o.dst v) w')) Q
section
variable {P:Program} {ops:Array Oper} {Q:Exit→Act→World→Prop} {R:World→World→Prop} {T:Nat→Value→World→Prop} {a0:Act} {w0:World} {o:Oper} {a:Act} {w:World} {S i:Nat} {D:Act→World→Prop}
theorem OpInR.of (h:OpInR R ops T a0 w0 o a w) (t:Nat) (hw:waitsFor ops o t=true):T t (a.tmps.getD t undef) w:=by
 unfold waitsFor at hw
 rw [List.any_eq_true] at hw
 obtain ⟨e,he,hw⟩:=hw
 rw [Bool.and_eq_true] at hw
 cases ho:ops[e.on]? with
 | none=>rw [ho] at hw; simp at hw
 | some o' =>
  rw [ho] at hw
  exact h.has e (by simpa using he) hw.1 o' t ho (by simpa using hw.2)
theorem OpInR.old (h:OpInR R ops T a0 w0 o a w) (t:Nat) (hs:stays ops t=true):a.tmps.getD t undef=a0.tmps.getD t undef:=by
 refine h.still t ?_
 unfold stays at hs
 simpa [List.contains_iff_mem] using hs
theorem opOkR_val {v:Value} {w':World} (hw:Region.wanted o (yielded ops a.tmps)=true) (hr:(execOp a.eval o).run P w=.ok (.value v) w') (hT:∀ t,o.dst=some t→T t v w') (hb:R w w') (hS:i=S→D (a.put o.dst v) w') (hD:waitedBy ops S i=false→¬ i=S→D a w→D (a.put o.dst v) w'):OpOkR P R ops Q T S D i o a w:=by
 refine ⟨hw,?_⟩
 unfold Oper.wp
 rw [hr,Oper.upon_value]
 exact ⟨v,rfl,hT,hb,hS,hD⟩
theorem opOkR_void {w':World} (hw:Region.wanted o (yielded ops a.tmps)=true) (hr:(execOp a.eval o).run P w=.ok .skip w') (hd:o.dst=none) (hb:R w w') (hS:i=S→D a w') (hD:waitedBy ops S i=false→¬ i=S→D a w→D a w'):OpOkR P R ops Q T S D i o a w:=by
 refine ⟨hw,?_⟩
 unfold Oper.wp
 rw [hr,Oper.upon_skip]
 refine ⟨undef,rfl,fun t ht=>(by rw [hd] at ht; cases ht),hb,fun h=>?_,fun h1 h2 h3=>?_⟩
 · rw [hd]; exact hS h
 · rw [hd]; exact hD h1 h2 h3
theorem opOkR_call {f:FuncId} {args:Array Value} (hw:Region.wanted o (yielded ops a.tmps)=true) (hr:(execOp a.eval o).run P w=.ok (.enter f args) w)
 (hc:Calls P f args w fun e w'=>∃ v,e=.returned v∧(∀ t,o.dst=some t→T t v w')∧R w w'∧(i=S→D (a.put o.dst v) w')∧(waitedBy ops S i=false→¬ i=S→D a w→D (a.put o.dst v) w')):OpOkR P R ops Q T S D i o a w:=by
 refine ⟨hw,?_⟩
 unfold Oper.wp
 rw [hr,Oper.upon_enter]
 refine Calls.mono hc ?_
 rintro e w' ⟨v,rfl,h⟩
 exact ⟨v,rfl,h⟩
def AllOpsI (Φ:Nat→Oper→Prop):Nat→List Oper→Prop
 | _,[]=>True
 | i,o::l=>Φ i o∧AllOpsI Φ (i+1) l
theorem AllOpsI.cons {Φ:Nat→Oper→Prop} {i:Nat} {o:Oper} {l:List Oper} (h:Φ i o) (hl:AllOpsI Φ (i+1) l):AllOpsI Φ i (o::l):=⟨h,hl⟩
theorem AllOpsI.nil {Φ:Nat→Oper→Prop} {i:Nat}:AllOpsI Φ i []:=trivial
theorem AllOpsI.get {Φ:Nat→Oper→Prop}:∀ (l:List Oper) (i:Nat),AllOpsI Φ i l→∀ j o,l[j]?=some o→Φ (i+j) o
 | [],_,_,j,o,h=>by simp at h
 | x::l,i,hA,j,o,h=>by
  cases j with
  | zero=>simp only [List.getElem?_cons_zero,Option.some.injEq] at h; subst h; exact hA.1
  | succ j =>
   simp only [List.getElem?_cons_succ] at h
   have:=AllOpsI.get l (i+1) hA.2 j o h
   rw [show i+(j+1)=i+1+j by omega]
   exact this
theorem wp_region_tabR (R:World→World→Prop) (hRt:∀ a b c,R a b→R b c→R a c) (hRd:∀ w,R w { w with drawn:=w.drawn+1 }) (T:Nat→Value→World→Prop) (S:Nat) (D:Act→World→Prop) (hS:S<ops.size) {id:Nat} {a0:Act} {w0:World} (hm:P.follows .mixedOrders=true)
 (hf:tabFineR ops a0.tmps.size=true)
 (hmono:∀ t v w w',R w w'→T t v w→T t v w')
 (hopA:AllOpsI (fun i o=>∀ a w,OpInR R ops T a0 w0 o a w→OpOkR P R ops Q T S D i o a w) 0 ops.toList)
 (hend:∀ a w,R w0 w→D a w→a.defers=a0.defers→a.tmps.size=a0.tmps.size→(∀ t,t∉ops.toList.filterMap (·.dst)→a.tmps.getD t undef=a0.tmps.getD t undef)→(∀ t,t∈ops.toList.filterMap (·.dst)→T t (a.tmps.getD t undef) w)→Q .normal a w) :
 (Code.region id ops true).wp P Q a0 w0:=by
 have hop:∀ (i:Nat) (o:Oper),ops[i]?=some o→∀ a w,OpInR R ops T a0 w0 o a w→OpOkR P R ops Q T S D i o a w:=fun i o ho=>by
  have:=AllOpsI.get ops.toList 0 hopA i o (by rw [Array.getElem?_toList]; exact ho)
  rw [Nat.zero_add] at this
  exact this
 unfold tabFineR at hf
 rw [Bool.and_eq_true,Bool.and_eq_true] at hf
 obtain ⟨⟨hnd,hlt⟩,hah⟩:=hf
 have hnd:=of_decide_eq_true hnd
 have hlt':∀ t,t∈ops.toList.filterMap (·.dst)→t<a0.tmps.size:=fun t ht=>by
  have h:=List.all_eq_true.mp hlt t ht
  exact of_decide_eq_true h
 have hah':∀ (i:Nat) (o:Oper),ops[i]?=some o→∀ e,e∈o.after→Region.binds .any e=true→e.on<i:=fun i o ho e he hbe=>by
  have hi:i<ops.size:=(Array.getElem?_eq_some_iff.mp ho).1
  have h:=List.all_eq_true.mp hah i (List.mem_range.mpr hi)
  rw [ho,Option.map_some,Option.getD_some] at h
  have h9:=List.all_eq_true.mp h e (by simpa using he)
  rw [hbe] at h9
  exact of_decide_eq_true (by simpa using h9)
 have hset:∀ {T:Nat→Value→World→Prop} {s:Array Bool} {a:Act} {w w':World} {i:Nat} {o:Oper} {v:Value},(∀ t v w w',R w w'→T t v w→T t v w')→s.size=ops.size→ops[i]?=some o→TabbedR R ops T a0 w0 s a w→(∀ t,o.dst=some t→T t v w')→R w w'→TabbedR R ops T a0 w0 (s.setIfInBounds i true) (a.put o.dst v) w':=by
  intro T s a w w' i o v hmono hs ho hI hv hb
  refine ⟨hRt _ _ _ hI.below hb,by rw [put_defers]; exact hI.defers,by rw [put_size]; exact hI.size,fun t ht=>?_,fun j oj t hj hoj hd=>?_⟩
  · cases hd:o.dst with
    | none=>exact hI.still t ht
    | some u =>
     have hne:t≠u:=fun h=>ht (h ▸ dst_mem ho hd)
     rw [put_get_ne hne]
     exact hI.still t ht
  · by_cases hij:j=i
    · subst hij
      rw [ho] at hoj
      cases hoj
      rw [hd,put_get_self (by rw [hI.size]; exact hlt' t (dst_mem ho hd))]
      exact hv t hd
    · have hj':s[j]?=some true:=by
       rw [Array.getElem?_setIfInBounds,if_neg (fun h=>hij h.symm)] at hj
       exact hj
      have h1:=hmono t _ w w' hb (hI.done j oj t hj' hoj hd)
      cases hd2:o.dst with
      | none=>exact h1
      | some u =>
       have hne:t≠u:=fun h=>hij (dst_inj ops.toList hnd j i oj o t (by rw [Array.getElem?_toList]; exact hoj) (by rw [Array.getElem?_toList]; exact ho) hd (h ▸ hd2))
       rw [put_get_ne hne]
       exact h1
 refine wp_region_inv (fun s a w=>s.size=ops.size∧TabbedR R ops T a0 w0 s a w∧(s[S]?=some true→D a w∧∀ i,waitedBy ops S i=true→s[i]?=some true)) hm ?_ ?_ ?_
 · rintro s a w hr ⟨hs,hI,hDs⟩
   have hall:∀ n:Nat,n≤ops.size→∀ i:Nat,i<n→s[i]?=some true:=by
    intro n
    induction n with
    | zero=>intro _ i hi; exact absurd hi (Nat.not_lt_zero _)
    | succ n ih =>
     intro hn i hi
     have ih:=ih (by omega)
     by_cases hin:i<n
     · exact ih i hin
     · have hin:i=n:=by omega
       subst hin
       cases hsi:s[i]? with
       | none=>rw [Array.getElem?_eq_none_iff] at hsi; omega
       | some b =>
        cases b with
        | true=>rfl
        | false =>
         exfalso
         have hio:i<ops.size:=by omega
         have:i∈Region.ready .any ops s:=by
          unfold Region.ready
          refine List.mem_filter.mpr ⟨List.mem_range.mpr hio,?_⟩
          rw [Bool.and_eq_true]
          refine ⟨by simp [Array.getD_eq_getD_getElem?,hsi],?_⟩
          have ho:ops[i]?=some ops[i]:=Array.getElem?_eq_getElem hio
          rw [ho,Option.map_some,Option.getD_some,Array.all_eq_true_iff_forall_mem]
          intro e he
          cases hbe:Region.binds .any e with
          | false=>rfl
          | true =>
           have h1:=ih e.on (hah' i _ ho e he hbe)
           simp [Array.getD_eq_getD_getElem?,h1]
         rw [hr] at this
         exact absurd this (by simp)
   refine hend a w hI.below (hDs (hall ops.size (Nat.le_refl _) S hS)).1 hI.defers hI.size hI.still (fun t ht=>?_)
   obtain ⟨o,ho,hd⟩:=List.mem_filterMap.mp ht
   obtain ⟨i,hi⟩:=List.mem_iff_getElem?.mp ho
   rw [Array.getElem?_toList] at hi
   exact hI.done i o t (hall ops.size (Nat.le_refl _) i (Array.getElem?_eq_some_iff.mp hi).1) hi hd
 · rintro s a w i hi ⟨hs,hI,hDs⟩
   obtain ⟨hsi,o,ho,haf⟩:=ready_mem hi
   have h:=hop i o ho a w ⟨hI.below,hI.still,fun e he hb o' t ho' hd=>hI.done e.on o' t (haf e he hb) ho' hd,hI.size⟩
   have hss:(s.setIfInBounds i true).size=ops.size:=by simp [hs]
   obtain ⟨hw,h⟩:=h
   unfold wpOp
   rw [ho]
   dsimp only
   rw [if_pos hw]
   left
   refine Oper.wp_mono ?_ h
   rintro a' w' ⟨v,rfl,hv,hb,hSS,hDD⟩
   refine ⟨hss,hset hmono hs ho hI hv hb,fun hS1=>?_⟩
   have hup:∀ j,s[j]?=some true→(s.setIfInBounds i true)[j]?=some true:=fun j hj=>by
    rw [Array.getElem?_setIfInBounds]
    split
    · rename_i h9
      subst h9
      rw [hsi] at hj
      cases hj
    · exact hj
   by_cases hiS:i=S
   · refine ⟨hSS hiS,fun j hj=>hup j ?_⟩
     subst hiS
     unfold waitedBy at hj
     rw [ho,Option.map_some,Option.getD_some,List.any_eq_true] at hj
     obtain ⟨e,he,h9⟩:=hj
     rw [Bool.and_eq_true] at h9
     have:=haf e (by simpa using he) h9.1
     rw [(by simpa using h9.2:e.on=j)] at this
     exact this
   · rw [Array.getElem?_setIfInBounds,if_neg hiS] at hS1
     obtain ⟨hD1,hW1⟩:=hDs hS1
     refine ⟨?_,fun j hj=>hup j (hW1 j hj)⟩
     cases hwi:waitedBy ops S i with
     | true =>
      have:=hW1 i hwi
      rw [hsi] at this
      cases this
     | false=>exact hDD hwi hiS hD1
 · refine ⟨by simp,⟨hRd w0,rfl,rfl,fun _ _=>rfl,fun i o t h _ _=>?_⟩,fun h=>?_⟩
   · rw [Array.getElem?_replicate] at h
     split at h <;> simp at h
   · rw [Array.getElem?_replicate] at h
     split at h <;> simp at h
end
structure Rq (n:Nat) (w w':World):Prop where
 os:w'.os=w.os
 tape:w'.tape=w.tape
 output:w'.output=w.output
 size:w.heap.size≤w'.heap.size
 low:∀ k,k<n→w'.heap[k]?=w.heap[k]?
 keep:∀ (k:Nat) (c:Array Value) (t:TypeId),w.heap[k]?=some (.cells c t)→t≠138→w'.heap[k]?=some (.cells c t)
 way:∀ (k:Nat) (y:Ru.Way),WayAt w k y→Ru.Wf 8 y→∃ y',Ru.Wf 8 y'∧WayAt w' k y'
theorem Rq.refl (n:Nat) (w:World):Rq n w w:=⟨rfl,rfl,rfl,Nat.le_refl _,fun _ _=>rfl,fun _ _ _ h _=>h,fun _ y h hy=>⟨y,hy,h⟩⟩
theorem Rq.trans {n:Nat} {a b c:World} (h:Rq n a b) (k:Rq n b c):Rq n a c :=
 ⟨k.os.trans h.os,k.tape.trans h.tape,k.output.trans h.output,Nat.le_trans h.size k.size,fun j hj=>(k.low j hj).trans (h.low j hj),fun j o t hj ht=>k.keep j o t (h.keep j o t hj ht) ht,fun j y hj hy=>by
  obtain ⟨y1,h1,h2⟩:=h.way j y hj hy
  exact k.way j y1 h2 h1⟩
theorem Rq.of_below {n:Nat} {w w':World} (h:Below w.heap.size w w') (hn:n≤w.heap.size):Rq n w w' :=
 ⟨h.os,h.tape,h.output,h.size,fun k hk=>h.block k (Nat.lt_of_lt_of_le hk hn),fun k _ _ hk _=>(h.block k (heap_lt hk)).trans hk,fun _ y hk hy=>⟨y,hy,hk.below h⟩⟩
theorem Rq.to_below {n:Nat} {w w':World} (h:Rq n w w') {m:Nat} (hm:m≤n):Below m w w':=⟨h.os,h.tape,h.output,h.size,fun k hk=>h.low k (Nat.lt_of_lt_of_le hk hm)⟩
theorem Rq.store {n:Nat} {w:World} {b:Nat} {y z:Ru.Way} (h:WayAt w b y) (hn:n≤b) (hz:Ru.Wf 8 z):Rq n w (w.setRow b (wayArr z)):=by
 refine ⟨rfl,rfl,rfl,by simp,fun k hk=>way_set_other (by omega),fun k c t hk ht=>?_,fun k y' hk hy'=>?_⟩
 · by_cases hkb:k=b
   · subst hkb
     rw [h] at hk
     injection hk with hk
     injection hk with _ hk
     exact absurd hk.symm ht
   · exact (way_set_other hkb).trans hk
 · by_cases hkb:k=b
   · subst hkb
     exact ⟨z,hz,way_set h⟩
   · exact ⟨y',hy',(way_set_other hkb).trans hk⟩
theorem store_way {a:Act} {o:Oper} {x u:Operand} {w:World} {b:Nat} {y z:Ru.Way} (ho:o.op=.store 138 x u) (hx:a.eval x=.pointer (some ⟨b,0,none⟩)) (hu:a.eval u=wayVal z) (hW:WayAt w b y) (hy:Ru.Wf 8 y) (hz:Ru.Wf 8 z):(execOp a.eval o).run Tryz.prog w=.ok .skip (w.setRow b (wayArr z)):=by
 have hr:=run_storeVar_row (P:=Tryz.prog) w b 138 138 (wayArr y) (wayArr z) hW (by rw [wayArr_size hz]; exact way_info) (by rw [wayArr_size hy,wayArr_size hz]) (wayArr_one z)
 unfold execOp
 simp only [ho,hx,hu,Instr.storeAt,Instr.sureAddr,Sem.run_bind,Sem.run_pure,Result.andThen_ok,hr]
theorem one_ints {w:World} {b:Nat} {m:Int} (h:w.heap[b]?=some (.cells #[.int .i64 m] 3)):IntsV w (.slice (some ⟨b,0,none⟩) 1 1) [m]:=by
 refine ⟨_,_,rfl,.inr ⟨b,0,rfl,fun i hi=>?_⟩⟩
 obtain rfl:i=0:=by simpa using hi
 rw [Lib.cell_of_heap h]
 rfl
def hold8Tv (y:Ru.Way) (X b off ct:Nat) (op:Int) (t0 t1:Sc.Term):Nat→Value
 | 60=>.pointer (some ⟨X,1,none⟩)
 | 61=>.int .i64 op
 | 62=>wayVal y
 | 63=>.pointer (some ⟨X,3,none⟩)
 | 64=>.slice (some ⟨b,off,none⟩) 3 ct
 | 65=>.pointer (some ⟨b,off,none⟩)
 | 66=>ptermVal t0
 | 67=>.int .i64 (Ru.num y.nums t0)
 | 68=>wayVal y
 | 69=>.pointer (some ⟨X,3,none⟩)
 | 70=>.slice (some ⟨b,off,none⟩) 3 ct
 | 71=>.pointer (some ⟨b,off+2,none⟩)
 | 72=>ptermVal t1
 | 73=>.int .i64 (Ru.num y.nums t1)
 | 74=>.int .i64 (Ru.reck op (Ru.num y.nums t0) (Ru.num y.nums t1))
 | 9=>.int .i64 (Ru.reck op (Ru.num y.nums t0) (Ru.num y.nums t1))
 | _=>.bool false
def hold9V (y z:Ru.Way) (X b off ct:Nat) (m:Int) (ok:Bool) (tQ:Nat) (vQ:Value):Prop :=
 match tQ with
 | 76=>vQ=(wayVal y:Value)
 | 77=>vQ=(.pointer (some ⟨X,3,none⟩):Value)
 | 78=>vQ=(.slice (some ⟨b,off,none⟩) 3 ct:Value)
 | 79=>vQ=(.slice (some ⟨b,off+4,none⟩) 1 (ct - 2):Value)
 | 80=>vQ=(.int .i64 m:Value)
 | 82=>vQ=(.tuple #[wayVal z,.bool ok]:Value)
 | 75=>vQ=(.tuple #[wayVal z,.bool ok]:Value)
 | 83=>vQ=(wayVal z:Value)
 | 84=>vQ=(.bool ok:Value)
 | 11=>vQ=(.bool ok:Value)
 | _=>True
def hold9T (y z:Ru.Way) (X b off ct n:Nat) (m:Int) (ok:Bool) (tQ:Nat) (vQ:Value) (WQ:World):Prop :=
 if tQ=81 then ∃ b',vQ=.slice (some ⟨b',0,none⟩) 1 1∧WQ.heap[b']?=some (.cells #[.int .i64 m] 3)
 else if tQ=10 then ∃ b',vQ=.pointer (some ⟨b',0,none⟩)∧n≤b'∧∃ y',Ru.Wf 8 y'∧WayAt WQ b' y' else hold9V y z X b off ct m ok tQ vQ
theorem hold9T_mono (y z:Ru.Way) (X b off ct n:Nat) (m:Int) (ok:Bool) (tQ:Nat) (vQ:Value) (W W':World) (hb:Rq n W W') (h:hold9T y z X b off ct n m ok tQ vQ W):hold9T y z X b off ct n m ok tQ vQ W':=by
 unfold hold9T at h ⊢
 by_cases ht:tQ=81
 · rw [if_pos ht] at h ⊢
   obtain ⟨b',h1,h2⟩:=h
   exact ⟨b',h1,hb.keep _ _ _ h2 (by decide)⟩
 · rw [if_neg ht] at h ⊢
   by_cases ht2:tQ=10
   · rw [if_pos ht2] at h ⊢
     obtain ⟨b',h1,h2,y',h3,h4⟩:=h
     obtain ⟨y2,h5,h6⟩:=hb.way _ _ h4 h3
     exact ⟨b',h1,h2,y2,h5,h6⟩
   · rw [if_neg ht2] at h ⊢
     exact h
def hold9D (z:Ru.Way) (n:Nat) (a:Act) (w:World):Prop:=∃ b',n≤b'∧a.tmps.getD 10 undef=.pointer (some ⟨b',0,none⟩)∧WayAt w b' z
theorem hold9D_put {z:Ru.Way} {n:Nat} {a:Act} {w:World} {d:Nat} {v:Value} (hd:(10:Nat)≠d) (h:hold9D z n a w):hold9D z n (a.put (some d) v) w:=by
 obtain ⟨b',h1,h2,h3⟩:=h
 exact ⟨b',h1,(put_get_ne hd).trans h2,h3⟩
theorem hold4_any {σ:Type} {step:σ→Ru.Way→σ × Bool} {live:σ→Ru.Way→Prop} {I:σ→World→Prop} {NB hh:Nat} {cb:Array Value} (facts:List Rl.Fc) (l:Sc.Lit) (y:Ru.Way) (vf vt:Value) (w0 w:World) (s:σ)
 (hB0:Below w0.heap.size w0 w) (hT:PTermsV w0 vt l.terms) (hTI:Ru.TermsIn 8 l.terms) (hTl:l.terms.length=3) (hy:Ru.Wf 8 y) (hk:l.kind=4) (hN0:Sc.isNum (Ru.num y.nums (Sc.termD l.terms 0))=true) (hN1:Sc.isNum (Ru.num y.nums (Sc.termD l.terms 1))=true)
 (TL:Tell w0.heap.size NB hh cb step live I) (he:∀ args w,(callFunc hh args).run Tryz.prog w=.ok (.enter hh args) w) (hI:I s w) (hLv:Ru.Lv step live s (Ru.on facts l y)) :
 Calls Tryz.prog 145 #[vf,plitVal l vt,wayVal y,.func (.func hh) #[] cb] w fun e w'=>e=.returned (.bool (Ru.run step s (Ru.on facts l y)).2)∧I (Ru.run step s (Ru.on facts l y)).1 w'∧Kp w0.heap.size NB w w':=by
 obtain ⟨at_,ct,rfl,hct,hTA⟩:=id hT
 obtain ⟨kd,op,pd,ts⟩:=l
 dsimp only at *
 subst hk
 obtain ⟨t0,t1,t2,rfl⟩:∃ t0 t1 t2,ts=[t0,t1,t2]:=by
  match ts,hTl with
  | [a,b,c],_=>exact ⟨a,b,c,rfl⟩
 have hct:3≤ct:=hct
 have hon:Ru.on facts ⟨4,op,pd,[t0,t1,t2]⟩ y=match Ru.withW y [t2] [(Ru.reck op (Ru.num y.nums t0) (Ru.num y.nums t1))] with | none=>[] | some w'=>if Sc.isNum (Ru.reck op (Ru.num y.nums t0) (Ru.num y.nums t1))=true then [w'] else []:=by unfold Ru.on; rfl
 generalize hLL:Ru.on facts ⟨4,op,pd,[t0,t1,t2]⟩ y=LL at *
 have HON:Hid _:=hon
 have HT0:Hid (Ru.TermIn 8 t0):=hTI t0 (by simp)
 have HT1:Hid (Ru.TermIn 8 t1):=hTI t1 (by simp)
 have HTI2:Hid (Ru.TermsIn 8 [t2]):=fun t ht=>hTI t (by simp at ht; subst ht; simp)
 have HN0:Hid (-1000000≤Ru.num y.nums t0∧Ru.num y.nums t0≤1000000):=Ru.between_iff.mp hN0
 have HN1:Hid (-1000000≤Ru.num y.nums t1∧Ru.num y.nums t1≤1000000):=Ru.between_iff.mp hN1
 have HZW:Hid (Ru.Wf 8 (Ru.withO y [t2] [(Ru.reck op (Ru.num y.nums t0) (Ru.num y.nums t1))])):=by
  show Ru.Wf 8 _
  unfold Ru.withO
  cases hx:Ru.withW y [t2] [(Ru.reck op (Ru.num y.nums t0) (Ru.num y.nums t1))] with
  | none=>exact ⟨rfl,rfl⟩
  | some z=>exact Ru.withW_wf hy hx
 have HOKm:Hid ((Ru.reck op (Ru.num y.nums t0) (Ru.num y.nums t1))=(Ru.reck op (Ru.num y.nums t0) (Ru.num y.nums t1))):=rfl
 obtain ⟨b,off,rfl,hc⟩:=pterms_at hTA 0 (by simp)
 obtain ⟨p0,p1⟩:=hc 0 (by simp)
 obtain ⟨p2,p3⟩:=hc 1 (by simp)
 obtain ⟨p4,p5⟩:=hc 2 (by simp)
 rw [Nat.zero_mul,Nat.add_zero] at p0 p1
 rw [Nat.one_mul] at p2 p3
 clear hon hLL hc hTA hT hTI hTl hN0 hN1
 show Calls Tryz.prog 145 #[vf,.agg #[.int .i64 4,.int .i64 op,.int .i64 pd,.slice (some ⟨b,off,none⟩) 3 ct],wayVal y,.func (.func hh) #[] cb] w _
 obtain ⟨h0,h1,hb⟩:=ru_two w (.cells #[.int .i64 4,.int .i64 op,.int .i64 pd,.slice (some ⟨b,off,none⟩) 3 ct] 49) (.cells (wayArr y) 138)
 have hroom0:=TL.room s w hI
 have HW:Hid (WayAt ((w.alloc (.cells #[.int .i64 4,.int .i64 op,.int .i64 pd,.slice (some ⟨b,off,none⟩) 3 ct] 49)).alloc (.cells (wayArr y) 138)) (w.heap.size+1) y):=h1
 have HI:Hid _:=TL.grow _ _ _ hI hb
 have HK:Hid (Kp w0.heap.size NB w ((w.alloc (.cells #[.int .i64 4,.int .i64 op,.int .i64 pd,.slice (some ⟨b,off,none⟩) 3 ct] 49)).alloc (.cells (wayArr y) 138))):=Kp.of_below hb hroom0.1
 have hBq:=HK.out.below hB0
 replace p0:((w.alloc (.cells #[.int .i64 4,.int .i64 op,.int .i64 pd,.slice (some ⟨b,off,none⟩) 3 ct] 49)).alloc (.cells (wayArr y) 138)).cell? ⟨b,off,none⟩=some (.int .i64 t0.var):=cell_below hBq p0
 replace p1:((w.alloc (.cells #[.int .i64 4,.int .i64 op,.int .i64 pd,.slice (some ⟨b,off,none⟩) 3 ct] 49)).alloc (.cells (wayArr y) 138)).cell? ⟨b,off+1,none⟩=some (.int .i64 t0.n):=cell_below hBq p1
 replace p2:((w.alloc (.cells #[.int .i64 4,.int .i64 op,.int .i64 pd,.slice (some ⟨b,off,none⟩) 3 ct] 49)).alloc (.cells (wayArr y) 138)).cell? ⟨b,off+2,none⟩=some (.int .i64 t1.var):=cell_below hBq p2
 replace p3:((w.alloc (.cells #[.int .i64 4,.int .i64 op,.int .i64 pd,.slice (some ⟨b,off,none⟩) 3 ct] 49)).alloc (.cells (wayArr y) 138)).cell? ⟨b,off+2+1,none⟩=some (.int .i64 t1.n):=cell_below hBq p3
 replace p4:((w.alloc (.cells #[.int .i64 4,.int .i64 op,.int .i64 pd,.slice (some ⟨b,off,none⟩) 3 ct] 49)).alloc (.cells (wayArr y) 138)).cell? ⟨b,off+4,none⟩=some (.int .i64 t2.var):=cell_below hBq p4
 replace p5:((w.alloc (.cells #[.int .i64 4,.int .i64 op,.int .i64 pd,.slice (some ⟨b,off,none⟩) 3 ct] 49)).alloc (.cells (wayArr y) 138)).cell? ⟨b,off+4+1,none⟩=some (.int .i64 t2.n):=cell_below hBq p5
 have HTL:Hid _:=TL
 have d0:((w.alloc (.cells #[.int .i64 4,.int .i64 op,.int .i64 pd,.slice (some ⟨b,off,none⟩) 3 ct] 49)).alloc (.cells (wayArr y) 138)).cell? ⟨w.heap.size,0,none⟩=some (.int .i64 4):=by rw [Lib.cell_of_heap h0]; rfl
 have d1:((w.alloc (.cells #[.int .i64 4,.int .i64 op,.int .i64 pd,.slice (some ⟨b,off,none⟩) 3 ct] 49)).alloc (.cells (wayArr y) 138)).cell? ⟨w.heap.size,1,none⟩=some (.int .i64 op):=by rw [Lib.cell_of_heap h0]; rfl
 have d3:((w.alloc (.cells #[.int .i64 4,.int .i64 op,.int .i64 pd,.slice (some ⟨b,off,none⟩) 3 ct] 49)).alloc (.cells (wayArr y) 138)).cell? ⟨w.heap.size,3,none⟩=some (.slice (some ⟨b,off,none⟩) 3 ct):=by rw [Lib.cell_of_heap h0]; rfl
 have hroom:=TL.room _ _ HI.out
 clear h0 h1 hb hI hB0 TL hBq hroom0
 go_enter Tryz.func145,Tryz.ntmps145
 go_upto_region 8 with fail
 generalize ((w.alloc (.cells #[.int .i64 4,.int .i64 op,.int .i64 pd,.slice (some ⟨b,off,none⟩) 3 ct] 49)).alloc (.cells (wayArr y) 138))=w1 at *
 refine wp_region_tabA (fun tQ vQ _=>vQ=hold8Tv y w.heap.size b off ct op t0 t1 tQ) (by kernel_rfl) (by kernel_rfl) (fun _ _ _ _ _ h=>h) ?hopE ?hendE
 case hopE =>
  refine AllOps.cons (fun a y_ h=>?_) ?_
  · have e5:a.eval (.tmp 5)=(.pointer (some ⟨w.heap.size,0,none⟩):Value):=h.old 5 (by kernel_rfl)
    refine opOk_val (v:=.pointer (some ⟨w.heap.size,1,none⟩)) (w':=y_) (wanted_none rfl) ?_ (fun t ht=>by cases ht; exact rfl) (Below.refl _ _)
    have ec:=evc a
    generalize a.eval=ev at *
    clear h
    go_simp
  refine AllOps.cons (fun a y_ h=>?_) ?_
  · have e60:a.eval (.tmp 60)=(.pointer (some ⟨w.heap.size,1,none⟩):Value):=h.of 60 (by kernel_rfl)
    have c1:=cell_below h.below d1
    refine opOk_val (v:=.int .i64 op) (w':=y_) (wanted_none rfl) ?_ (fun t ht=>by cases ht; exact rfl) (Below.refl _ _)
    have ec:=evc a
    generalize a.eval=ev at *
    clear h
    go_simp
  refine AllOps.cons (fun a y_ h=>?_) ?_
  · have e6:a.eval (.tmp 6)=(.pointer (some ⟨w.heap.size+1,0,none⟩):Value):=h.old 6 (by kernel_rfl)
    refine opOk_val (v:=wayVal y) (w':=y_) (wanted_none rfl) ?_ (fun t ht=>by cases ht; exact rfl) (Below.refl _ _)
    exact load_way rfl e6 (WayAt.below HW.out h.below) hy
  refine AllOps.cons (fun a y_ h=>?_) ?_
  · have e5:a.eval (.tmp 5)=(.pointer (some ⟨w.heap.size,0,none⟩):Value):=h.old 5 (by kernel_rfl)
    refine opOk_val (v:=.pointer (some ⟨w.heap.size,3,none⟩)) (w':=y_) (wanted_none rfl) ?_ (fun t ht=>by cases ht; exact rfl) (Below.refl _ _)
    have ec:=evc a
    generalize a.eval=ev at *
    clear h
    go_simp
  refine AllOps.cons (fun a y_ h=>?_) ?_
  · have e63:a.eval (.tmp 63)=(.pointer (some ⟨w.heap.size,3,none⟩):Value):=h.of 63 (by kernel_rfl)
    have c3:=cell_below h.below d3
    refine opOk_val (v:=.slice (some ⟨b,off,none⟩) 3 ct) (w':=y_) (wanted_none rfl) ?_ (fun t ht=>by cases ht; exact rfl) (Below.refl _ _)
    have ec:=evc a
    generalize a.eval=ev at *
    clear h
    go_simp
  refine AllOps.cons (fun a y_ h=>?_) ?_
  · have e64:a.eval (.tmp 64)=(.slice (some ⟨b,off,none⟩) 3 ct:Value):=h.of 64 (by kernel_rfl)
    refine opOk_val (v:=.pointer (some ⟨b,off,none⟩)) (w':=y_) (wanted_none rfl) ?_ (fun t ht=>by cases ht; exact rfl) (Below.refl _ _)
    have ec:=evc a
    generalize a.eval=ev at *
    clear h
    go_simp
  refine AllOps.cons (fun a y_ h=>?_) ?_
  · have e65:a.eval (.tmp 65)=(.pointer (some ⟨b,off,none⟩):Value):=h.of 65 (by kernel_rfl)
    have c0:=cell_below h.below p0
    have c1:=cell_below h.below p1
    refine opOk_val (v:=ptermVal t0) (w':=y_) (wanted_none rfl) ?_ (fun t ht=>by cases ht; exact rfl) (Below.refl _ _)
    have ec:=evc a
    generalize a.eval=ev at *
    clear h
    go_simp
  refine AllOps.cons (fun a y_ h=>?_) ?_
  · have e62:a.eval (.tmp 62)=(wayVal y:Value):=h.of 62 (by kernel_rfl)
    have e66:a.eval (.tmp 66)=(ptermVal t0:Value):=h.of 66 (by kernel_rfl)
    refine opOk_call (f:=187) (args:=#[wayVal y,ptermVal t0]) (wanted_none rfl) ?_ ?_
    · have ec:=evc a
      have ef:=evf a
      generalize a.eval=ev at *
      clear h
      go_simp
    · refine Calls.mono (number_any y t0 y_ hy HT0.out) ?_
      rintro _ y2 ⟨rfl,hb2⟩
      exact ⟨_,rfl,fun t ht=>by cases ht; exact rfl,hb2⟩
  refine AllOps.cons (fun a y_ h=>?_) ?_
  · have e6:a.eval (.tmp 6)=(.pointer (some ⟨w.heap.size+1,0,none⟩):Value):=h.old 6 (by kernel_rfl)
    refine opOk_val (v:=wayVal y) (w':=y_) (wanted_none rfl) ?_ (fun t ht=>by cases ht; exact rfl) (Below.refl _ _)
    exact load_way rfl e6 (WayAt.below HW.out h.below) hy
  refine AllOps.cons (fun a y_ h=>?_) ?_
  · have e5:a.eval (.tmp 5)=(.pointer (some ⟨w.heap.size,0,none⟩):Value):=h.old 5 (by kernel_rfl)
    refine opOk_val (v:=.pointer (some ⟨w.heap.size,3,none⟩)) (w':=y_) (wanted_none rfl) ?_ (fun t ht=>by cases ht; exact rfl) (Below.refl _ _)
    have ec:=evc a
    generalize a.eval=ev at *
    clear h
    go_simp
  refine AllOps.cons (fun a y_ h=>?_) ?_
  · have e69:a.eval (.tmp 69)=(.pointer (some ⟨w.heap.size,3,none⟩):Value):=h.of 69 (by kernel_rfl)
    have c3:=cell_below h.below d3
    refine opOk_val (v:=.slice (some ⟨b,off,none⟩) 3 ct) (w':=y_) (wanted_none rfl) ?_ (fun t ht=>by cases ht; exact rfl) (Below.refl _ _)
    have ec:=evc a
    generalize a.eval=ev at *
    clear h
    go_simp
  refine AllOps.cons (fun a y_ h=>?_) ?_
  · have e70:a.eval (.tmp 70)=(.slice (some ⟨b,off,none⟩) 3 ct:Value):=h.of 70 (by kernel_rfl)
    refine opOk_val (v:=.pointer (some ⟨b,off+2,none⟩)) (w':=y_) (wanted_none rfl) ?_ (fun t ht=>by cases ht; exact rfl) (Below.refl _ _)
    have ec:=evc a
    generalize a.eval=ev at *
    clear h
    go_simp
  refine AllOps.cons (fun a y_ h=>?_) ?_
  · have e71:a.eval (.tmp 71)=(.pointer (some ⟨b,off+2,none⟩):Value):=h.of 71 (by kernel_rfl)
    have c0:=cell_below h.below p2
    have c1:=cell_below h.below p3
    refine opOk_val (v:=ptermVal t1) (w':=y_) (wanted_none rfl) ?_ (fun t ht=>by cases ht; exact rfl) (Below.refl _ _)
    have ec:=evc a
    generalize a.eval=ev at *
    clear h
    go_simp
  refine AllOps.cons (fun a y_ h=>?_) ?_
  · have e68:a.eval (.tmp 68)=(wayVal y:Value):=h.of 68 (by kernel_rfl)
    have e72:a.eval (.tmp 72)=(ptermVal t1:Value):=h.of 72 (by kernel_rfl)
    refine opOk_call (f:=187) (args:=#[wayVal y,ptermVal t1]) (wanted_none rfl) ?_ ?_
    · have ec:=evc a
      have ef:=evf a
      generalize a.eval=ev at *
      clear h
      go_simp
    · refine Calls.mono (number_any y t1 y_ hy HT1.out) ?_
      rintro _ y2 ⟨rfl,hb2⟩
      exact ⟨_,rfl,fun t ht=>by cases ht; exact rfl,hb2⟩
  refine AllOps.cons (fun a y_ h=>?_) ?_
  · have e61:a.eval (.tmp 61)=(.int .i64 op:Value):=h.of 61 (by kernel_rfl)
    have e67:a.eval (.tmp 67)=(.int .i64 (Ru.num y.nums t0):Value):=h.of 67 (by kernel_rfl)
    have e73:a.eval (.tmp 73)=(.int .i64 (Ru.num y.nums t1):Value):=h.of 73 (by kernel_rfl)
    refine opOk_call (f:=188) (args:=#[.int .i64 op,.int .i64 (Ru.num y.nums t0),.int .i64 (Ru.num y.nums t1)]) (wanted_none rfl) ?_ ?_
    · have ec:=evc a
      have ef:=evf a
      generalize a.eval=ev at *
      clear h
      go_simp
    · refine Calls.mono (reckoned_any op (Ru.num y.nums t0) (Ru.num y.nums t1) y_ HN0.out HN1.out) ?_
      rintro _ y2 ⟨rfl,rfl⟩
      exact ⟨_,rfl,fun t ht=>by cases ht; exact rfl,Below.refl _ _⟩
  refine AllOps.cons (fun a y_ h=>?_) ?_
  · have e74:a.eval (.tmp 74)=(.int .i64 (Ru.reck op (Ru.num y.nums t0) (Ru.num y.nums t1)):Value):=h.of 74 (by kernel_rfl)
    refine opOk_val (v:=.int .i64 (Ru.reck op (Ru.num y.nums t0) (Ru.num y.nums t1))) (w':=y_) (wanted_none rfl) ?_ (fun t ht=>by cases ht; exact rfl) (Below.refl _ _)
    have ec:=evc a
    generalize a.eval=ev at *
    clear h
    go_simp
  exact AllOps.nil
 case hendE =>
  rintro ⟨tm,df⟩ wE hbE hdE hsE hstE hTE
  have h9:tm.getD 9 undef=.int .i64 (Ru.reck op (Ru.num y.nums t0) (Ru.num y.nums t1)):=ends_at (T:=fun tQ vQ _=>vQ=hold8Tv y w.heap.size b off ct op t0 t1 tQ) (w:=wE) (a:=⟨tm,df⟩) (t:=9) hTE (by kernel_rfl)
  obtain rfl:df=[]:=hdE
  have hFE:=tmps_fold [60,61,62,63,64,65,66,67,68,69,70,71,72,73,74,9] tm _ hsE hstE
  clear hsE hstE hTE
  simp only [List.foldl_cons,List.foldl_nil,h9] at hFE
  clear h9
  generalize tm.getD 60 undef=x60 at hFE
  generalize tm.getD 61 undef=x61 at hFE
  generalize tm.getD 62 undef=x62 at hFE
  generalize tm.getD 63 undef=x63 at hFE
  generalize tm.getD 64 undef=x64 at hFE
  generalize tm.getD 65 undef=x65 at hFE
  generalize tm.getD 66 undef=x66 at hFE
  generalize tm.getD 67 undef=x67 at hFE
  generalize tm.getD 68 undef=x68 at hFE
  generalize tm.getD 69 undef=x69 at hFE
  generalize tm.getD 70 undef=x70 at hFE
  generalize tm.getD 71 undef=x71 at hFE
  generalize tm.getD 72 undef=x72 at hFE
  generalize tm.getD 73 undef=x73 at hFE
  generalize tm.getD 74 undef=x74 at hFE
  simp only [List.setIfInBounds_toArray,List.set_cons_zero,List.set_cons_succ] at hFE
  subst hFE
  have HI2:Hid _:=HTL.out.grow _ _ _ HI.out hbE
  have HK2:Hid _:=HK.out.trans (Kp.of_below hbE hroom.1)
  have HW2:Hid (WayAt wE (w.heap.size+1) y):=WayAt.below HW.out hbE
  have hroom2:=HTL.out.room _ _ HI2.out
  have HT2:Hid (∀ W,Below wE.heap.size wE W→PTermsV W (.slice (some ⟨b,off+4,none⟩) 1 (ct - 2)) [t2]):=fun W hW=>by
   refine ⟨_,_,rfl,by show 1≤ct - 2; omega,.inr ⟨b,off+4,rfl,fun i hi=>?_⟩⟩
   obtain rfl:i=0:=by simpa using hi
   exact ⟨by rw [Nat.zero_mul,Nat.add_zero]; exact cell_below hW (cell_below hbE p4),by rw [Nat.zero_mul,Nat.add_zero]; exact cell_below hW (cell_below hbE p5)⟩
  replace d3:=cell_below hbE d3
  clear d0 d1 p0 p1 p2 p3 p4 p5 HI HK HW hroom hbE
  generalize wE=w2 at *
  obtain ⟨m,hm⟩:∃ m,m=(Ru.reck op (Ru.num y.nums t0) (Ru.num y.nums t1)):=⟨_,rfl⟩
  rw [← hm] at HON HZW HOKm ⊢
  clear hm
  obtain ⟨z,hz⟩:∃ z,z=Ru.withO y [t2] [m]:=⟨_,rfl⟩
  obtain ⟨ok,hok0⟩:∃ ok,ok=(Ru.withW y [t2] [m]).isSome:=⟨_,rfl⟩
  have HZ:Hid ((.tuple #[wayVal (Ru.withO y [t2] [m]),.bool (Ru.withW y [t2] [m]).isSome]:Value)=.tuple #[wayVal z,.bool ok]):=by show _=_; rw [hz,hok0]
  have HOK:Hid ((ok=false→Ru.withW y [t2] [m]=none)∧(ok=true→Ru.withW y [t2] [m]=some z)):=by
   show (_→_)∧(_→_)
   rw [hok0,hz]
   unfold Ru.withO
   cases Ru.withW y [t2] [m] <;> simp
  rw [← hz] at HZW
  clear hz hok0 HOKm
  go_upto_region 9 with fail
  refine wp_region_tabR (Rq w2.heap.size) (fun _ _ _=>Rq.trans) (fun _=>⟨rfl,rfl,rfl,Nat.le_refl _,fun _ _=>rfl,fun _ _ _ h _=>h,fun _ y' h hy'=>⟨y',hy',h⟩⟩) (hold9T y z w.heap.size b off ct w2.heap.size m ok) 11 (hold9D z w2.heap.size) (by decide) (by kernel_rfl) (by kernel_rfl) (hold9T_mono y z w.heap.size b off ct w2.heap.size m ok) ?hopF ?hendF
  case hopF =>
   refine AllOpsI.cons (fun a y_ h=>?_) ?_
   · have e6:a.eval (.tmp 6)=(.pointer (some ⟨w.heap.size+1,0,none⟩):Value):=h.old 6 (by kernel_rfl)
     refine opOkR_val (v:=wayVal y) (w':=y_) (wanted_none rfl) ?_ (fun t ht=>by cases ht; exact rfl) (Rq.refl _ _) (fun h9=>absurd h9 (by decide)) (fun h9=>absurd h9 (by decide))
     exact load_way rfl e6 (WayAt.below HW2.out (h.below.to_below (Nat.le_refl _))) hy
   refine AllOpsI.cons (fun a y_ h=>?_) ?_
   · have e5:a.eval (.tmp 5)=(.pointer (some ⟨w.heap.size,0,none⟩):Value):=h.old 5 (by kernel_rfl)
     refine opOkR_val (v:=.pointer (some ⟨w.heap.size,3,none⟩)) (w':=y_) (wanted_none rfl) ?_ (fun t ht=>by cases ht; exact rfl) (Rq.refl _ _) (fun h9=>absurd h9 (by decide)) (fun h9=>absurd h9 (by decide))
     have ec:=evc a
     generalize a.eval=ev at *
     clear h
     go_simp
   refine AllOpsI.cons (fun a y_ h=>?_) ?_
   · have e77:a.eval (.tmp 77)=(.pointer (some ⟨w.heap.size,3,none⟩):Value):=h.of 77 (by kernel_rfl)
     have c3:=cell_below (h.below.to_below (Nat.le_refl _)) d3
     refine opOkR_val (v:=.slice (some ⟨b,off,none⟩) 3 ct) (w':=y_) (wanted_none rfl) ?_ (fun t ht=>by cases ht; exact rfl) (Rq.refl _ _) (fun h9=>absurd h9 (by decide)) (fun h9=>absurd h9 (by decide))
     have ec:=evc a
     generalize a.eval=ev at *
     clear h
     go_simp
   refine AllOpsI.cons (fun a y_ h=>?_) ?_
   · have e78:a.eval (.tmp 78)=(.slice (some ⟨b,off,none⟩) 3 ct:Value):=h.of 78 (by kernel_rfl)
     have hc2:¬ ct=2:=by omega
     refine opOkR_val (v:=.slice (some ⟨b,off+4,none⟩) 1 (ct - 2)) (w':=y_) (wanted_none rfl) ?_ (fun t ht=>by cases ht; exact rfl) (Rq.refl _ _) (fun h9=>absurd h9 (by decide)) (fun h9=>absurd h9 (by decide))
     have ec:=evc a
     generalize a.eval=ev at *
     clear h
     go_simp
   refine AllOpsI.cons (fun a y_ h=>?_) ?_
   · have e9:a.eval (.tmp 9)=(.int .i64 m:Value):=h.old 9 (by kernel_rfl)
     refine opOkR_val (v:=.int .i64 m) (w':=y_) (wanted_none rfl) ?_ (fun t ht=>by cases ht; exact rfl) (Rq.refl _ _) (fun h9=>absurd h9 (by decide)) (fun h9=>absurd h9 (by decide))
     have ec:=evc a
     generalize a.eval=ev at *
     clear h
     go_simp
   refine AllOpsI.cons (fun a y_ h=>?_) ?_
   · have e80:a.eval (.tmp 80)=(.int .i64 m:Value):=h.of 80 (by kernel_rfl)
     refine opOkR_val (v:=.slice (some ⟨y_.heap.size,0,none⟩) 1 1) (w':=y_.alloc (.cells #[.int .i64 m] 3)) (wanted_none rfl) ?_ (fun t ht=>by cases ht; exact ⟨_,rfl,heap_alloc_new y_ _⟩) (Rq.of_below ((Below.refl _ _).alloc (Nat.le_refl _) _) h.below.size) (fun h9=>absurd h9 (by decide)) (fun h9=>absurd h9 (by decide))
     have ec:=evc a
     generalize a.eval=ev at *
     clear h
     go_simp
   refine AllOpsI.cons (fun a y_ h=>?_) ?_
   · have e76:a.eval (.tmp 76)=(wayVal y:Value):=h.of 76 (by kernel_rfl)
     have e79:a.eval (.tmp 79)=(.slice (some ⟨b,off+4,none⟩) 1 (ct - 2):Value):=h.of 79 (by kernel_rfl)
     obtain ⟨b',e81,hb'⟩:∃ b',a.eval (.tmp 81)=.slice (some ⟨b',0,none⟩) 1 1∧y_.heap[b']?=some (.cells #[.int .i64 m] 3):=h.of 81 (by kernel_rfl)
     refine opOkR_call (f:=189) (args:=#[wayVal y,.slice (some ⟨b,off+4,none⟩) 1 (ct - 2),.slice (some ⟨b',0,none⟩) 1 1]) (wanted_none rfl) ?_ ?_
     · have ec:=evc a
       have ef:=evf a
       generalize a.eval=ev at *
       clear h
       go_simp
     · refine Calls.mono (with_any y [t2] [m] _ _ y_ hy (HT2.out y_ (h.below.to_below (Nat.le_refl _))) (one_ints hb') rfl (by simp) HTI2.out) ?_
       rintro _ y2 ⟨rfl,hb2⟩
       exact ⟨_,rfl,fun t ht=>by cases ht; exact HZ.out,Rq.of_below hb2 h.below.size,fun h9=>absurd h9 (by decide),fun h9=>absurd h9 (by decide)⟩
   refine AllOpsI.cons (fun a y_ h=>?_) ?_
   · have e82:a.eval (.tmp 82)=(.tuple #[wayVal z,.bool ok]:Value):=h.of 82 (by kernel_rfl)
     refine opOkR_val (v:=.tuple #[wayVal z,.bool ok]) (w':=y_) (wanted_none rfl) ?_ (fun t ht=>by cases ht; exact rfl) (Rq.refl _ _) (fun h9=>absurd h9 (by decide)) (fun h9=>absurd h9 (by decide))
     have ec:=evc a
     generalize a.eval=ev at *
     clear h
     go_simp
   refine AllOpsI.cons (fun a y_ h=>?_) ?_
   · have e75:a.eval (.tmp 75)=(.tuple #[wayVal z,.bool ok]:Value):=h.of 75 (by kernel_rfl)
     refine opOkR_val (v:=wayVal z) (w':=y_) (wanted_none rfl) ?_ (fun t ht=>by cases ht; exact rfl) (Rq.refl _ _) (fun h9=>absurd h9 (by decide)) (fun h9=>absurd h9 (by decide))
     have ec:=evc a
     generalize a.eval=ev at *
     clear h
     go_simp
   refine AllOpsI.cons (fun a y_ h=>?_) ?_
   · have e75:a.eval (.tmp 75)=(.tuple #[wayVal z,.bool ok]:Value):=h.of 75 (by kernel_rfl)
     refine opOkR_val (v:=.bool ok) (w':=y_) (wanted_none rfl) ?_ (fun t ht=>by cases ht; exact rfl) (Rq.refl _ _) (fun h9=>absurd h9 (by decide)) (fun _ _ hD=>hold9D_put (by decide) hD)
     have ec:=evc a
     generalize a.eval=ev at *
     clear h
     go_simp
   refine AllOpsI.cons (fun a y_ h=>?_) ?_
   · refine opOkR_val (v:=.pointer (some ⟨y_.heap.size,0,none⟩)) (w':=y_.alloc (.cells #[.int .i64 0,.int .i64 0,.int .i64 0,.int .i64 0,.int .i64 0,.int .i64 0,.int .i64 0,.int .i64 0,.bool false,.bool false,.bool false,.bool false,.bool false,.bool false,.bool false,.bool false] 138)) (wanted_none rfl) ?_ (fun t ht=>by cases ht; exact ⟨_,rfl,h.below.size,Ru.way0,⟨rfl,rfl⟩,heap_alloc_new y_ _⟩) (Rq.of_below ((Below.refl _ _).alloc (Nat.le_refl _) _) h.below.size) (fun h9=>absurd h9 (by decide)) (fun h9=>absurd h9 (by decide))
     have ec:=evc a
     generalize a.eval=ev at *
     clear h
     go_simp
   refine AllOpsI.cons (fun a y_ h=>?_) ?_
   · have e83:a.eval (.tmp 83)=(wayVal z:Value):=h.of 83 (by kernel_rfl)
     obtain ⟨b',e10,hn',y',hy',hW'⟩:∃ b',a.eval (.tmp 10)=.pointer (some ⟨b',0,none⟩)∧w2.heap.size≤b'∧∃ y',Ru.Wf 8 y'∧WayAt y_ b' y':=h.of 10 (by kernel_rfl)
     exact opOkR_void (w':=y_.setRow b' (wayArr z)) (wanted_none rfl) (store_way rfl e10 e83 hW' hy' HZW.out) rfl (Rq.store hW' hn' HZW.out) (fun _=>⟨b',hn',e10,way_set hW'⟩) (fun _ h9=>absurd rfl h9)
   refine AllOpsI.cons (fun a y_ h=>?_) ?_
   · have e84:a.eval (.tmp 84)=(.bool ok:Value):=h.of 84 (by kernel_rfl)
     refine opOkR_val (v:=.bool ok) (w':=y_) (wanted_none rfl) ?_ (fun t ht=>by cases ht; exact rfl) (Rq.refl _ _) (fun h9=>absurd h9 (by decide)) (fun _ _ hD=>hold9D_put (by decide) hD)
     have ec:=evc a
     generalize a.eval=ev at *
     clear h
     go_simp
   exact AllOpsI.nil
  case hendF =>
   rintro ⟨tm,df⟩ wE hRE hDE hdE hsE hstE hTE
   obtain ⟨ZB,hZn,h10,hZW⟩:=hDE
   have h10:tm.getD 10 undef=.pointer (some ⟨ZB,0,none⟩):=h10
   have h11:tm.getD 11 undef=.bool ok:=ends_at (T:=hold9T y z w.heap.size b off ct w2.heap.size m ok) (w:=wE) (a:=⟨tm,df⟩) (t:=11) hTE (by kernel_rfl)
   obtain rfl:df=[]:=hdE
   have hFE:=tmps_fold [76,77,78,79,80,81,82,75,83,84,10,11] tm _ hsE hstE
   clear hsE hstE hTE
   simp only [List.foldl_cons,List.foldl_nil,h10,h11] at hFE
   clear h10 h11
   generalize tm.getD 76 undef=z76 at hFE
   generalize tm.getD 77 undef=z77 at hFE
   generalize tm.getD 78 undef=z78 at hFE
   generalize tm.getD 79 undef=z79 at hFE
   generalize tm.getD 80 undef=z80 at hFE
   generalize tm.getD 81 undef=z81 at hFE
   generalize tm.getD 82 undef=z82 at hFE
   generalize tm.getD 75 undef=z75 at hFE
   generalize tm.getD 83 undef=z83 at hFE
   generalize tm.getD 84 undef=z84 at hFE
   simp only [List.setIfInBounds_toArray,List.set_cons_zero,List.set_cons_succ] at hFE
   subst hFE
   have hb3:Below w2.heap.size w2 wE:=hRE.to_below (Nat.le_refl _)
   have HI3:Hid _:=HTL.out.grow _ _ _ HI2.out hb3
   have HK3:Hid _:=HK2.out.trans (Kp.of_below hb3 hroom2.1)
   have HZ3:Hid (WayAt wE ZB z):=hZW
   have hZN:ZB≠NB:=by have:=hroom2.2; omega
   clear hRE hb3 hZW hZn
   cases hok:ok
   · have HE:Hid (Ru.run step s LL=(s,true)):=by show _=_; rw [HON.out,HOK.out.1 hok]; rfl
     go_wp2_with fail
     go_ret
     exact ⟨by rw [HE.out]; rfl,by rw [HE.out]; exact HI3.out,HK3.out⟩
   · have hw9:=HOK.out.2 hok
     have HNm:Hid _:=isNum_any m wE
     cases hnm:Sc.isNum m
     · have HE:Hid (Ru.run step s LL=(s,true)):=by show _=_; rw [HON.out,hw9]; show Ru.run step s (if Sc.isNum m=true then [z] else [])=_; rw [hnm]; rfl
       rw [hnm] at HNm
       clear hnm hw9
       go_wp2_with (go_at_call 109; refine Calls.mono HNm.out ?_; rintro _ wF ⟨rfl,hwF⟩; have hwF:=hwF.symm; subst hwF)
       go_ret
       exact ⟨by rw [HE.out]; rfl,by rw [HE.out]; exact HI3.out,HK3.out⟩
     · have HL1:Hid (LL=[z]):=by show _=_; rw [HON.out,hw9]; show (if Sc.isNum m=true then [z] else [])=_; rw [hnm]; rfl
       rw [HL1.out] at hLv
       have HLv2:Hid _:=hLv.1
       have HE:Hid (Ru.run step s LL=((step s z).1,(step s z).2)):=by
        show _=_
        rw [HL1.out,Ru.run_cons]
        cases hq:(step s z).2 <;> rfl
       rw [hnm] at HNm
       clear hnm hw9 hLv HL1
       go_wp2_with (first
        | (go_at_call 109; refine Calls.mono HNm.out ?_; rintro _ wF ⟨rfl,hwF⟩; have hwF:=hwF.symm; subst hwF)
        | (refine wpList_loadWay (by first | exact wanted_none rfl | exact wanted_some rfl rfl rfl rfl) _ rfl _ rfl z HZ3.out HZW.out ?_))
       refine Calls.mono (HTL.out.call s wE z HI3.out HLv2.out HZW.out) ?_
       rintro eR w4 ⟨he4,hI4,hK4⟩
       subst he4
       go_wp2_with fail
       go_ret
       exact ⟨by rw [HE.out]; rfl,by rw [HE.out]; exact hI4,HK3.out.trans hK4⟩
structure HoldIn (facts:List Rl.Fc) (l:Sc.Lit) (y:Ru.Way):Prop where
 li:Ru.LitIn 8 facts l
 tl:l.terms.length≤1000
 n0:l.kind=4→Sc.isNum (Ru.num y.nums (Sc.termD l.terms 0))=true
 n1:l.kind=4→Sc.isNum (Ru.num y.nums (Sc.termD l.terms 1))=true
theorem hold1_any {σ:Type} {step:σ→Ru.Way→σ × Bool} {live:σ→Ru.Way→Prop} {I:σ→World→Prop} {NB hh:Nat} {cb:Array Value} (facts:List Rl.Fc) (l:Sc.Lit) (y:Ru.Way) (vf vt:Value) (w0 w:World) (s:σ)
 (hB0:Below w0.heap.size w0 w) (hF:FactsV w0 vf facts) (hFl:facts.length≤1000000) (hT:PTermsV w0 vt l.terms) (hTI:Ru.TermsIn 8 l.terms) (hA:∀ f,f∈facts→f.pred=l.pred→l.terms.length=f.args.length) (hTl:l.terms.length≤1000) (hy:Ru.Wf 8 y) (hk:l.kind=1)
 (TL:Tell w0.heap.size NB hh cb step live I) (he:∀ args w,(callFunc hh args).run Tryz.prog w=.ok (.enter hh args) w) (hI:I s w) (hLv:Ru.Lv step live s (Ru.on facts l y)) :
 Calls Tryz.prog 145 #[vf,plitVal l vt,wayVal y,.func (.func hh) #[] cb] w fun e w'=>e=.returned (.bool (Ru.run step s (Ru.on facts l y)).2)∧I (Ru.run step s (Ru.on facts l y)).1 w'∧Kp w0.heap.size NB w w':=by
 rw [Ru.on_yes hk] at hLv ⊢
 obtain ⟨at_,ct,hvt,_⟩:=id hT
 subst hvt
 obtain ⟨kd,op,pd,ts⟩:=l
 dsimp only at *
 subst hk
 obtain ⟨h0,h1,hb⟩:=ru_two w (.cells #[.int .i64 1,.int .i64 op,.int .i64 pd,.slice at_ ts.length ct] 49) (.cells (wayArr y) 138)
 have hroom0:=TL.room s w hI
 have HW:Hid (WayAt ((w.alloc (.cells #[.int .i64 1,.int .i64 op,.int .i64 pd,.slice at_ ts.length ct] 49)).alloc (.cells (wayArr y) 138)) (w.heap.size+1) y):=h1
 have HK:Hid (Kp w0.heap.size NB w ((w.alloc (.cells #[.int .i64 1,.int .i64 op,.int .i64 pd,.slice at_ ts.length ct] 49)).alloc (.cells (wayArr y) 138))):=Kp.of_below hb hroom0.1
 have HC:Hid _:=holdYes_any facts ⟨1,op,pd,ts⟩ y vf (.slice at_ ts.length ct) w0 _ s (HK.out.below hB0) hF hFl hT hTI hA hTl hy TL he (TL.grow _ _ _ hI hb) hLv
 have d0:((w.alloc (.cells #[.int .i64 1,.int .i64 op,.int .i64 pd,.slice at_ ts.length ct] 49)).alloc (.cells (wayArr y) 138)).cell? ⟨w.heap.size,0,none⟩=some (.int .i64 1):=by rw [Lib.cell_of_heap h0]; rfl
 have d1:((w.alloc (.cells #[.int .i64 1,.int .i64 op,.int .i64 pd,.slice at_ ts.length ct] 49)).alloc (.cells (wayArr y) 138)).cell? ⟨w.heap.size,1,none⟩=some (.int .i64 op):=by rw [Lib.cell_of_heap h0]; rfl
 have d2:((w.alloc (.cells #[.int .i64 1,.int .i64 op,.int .i64 pd,.slice at_ ts.length ct] 49)).alloc (.cells (wayArr y) 138)).cell? ⟨w.heap.size,2,none⟩=some (.int .i64 pd):=by rw [Lib.cell_of_heap h0]; rfl
 have d3:((w.alloc (.cells #[.int .i64 1,.int .i64 op,.int .i64 pd,.slice at_ ts.length ct] 49)).alloc (.cells (wayArr y) 138)).cell? ⟨w.heap.size,3,none⟩=some (.slice at_ ts.length ct):=by rw [Lib.cell_of_heap h0]; rfl
 clear h0 h1 hb hI hB0 TL hF hT hTI hA hLv hroom0
 generalize List.filterMap (Ru.onF ⟨1,op,pd,ts⟩ y) facts=LL at *
 go_enter Tryz.func145,Tryz.ntmps145
 go_upto_region 3 with fail
 generalize (w.alloc (.cells #[.int .i64 1,.int .i64 op,.int .i64 pd,.slice at_ ts.length ct] 49)).alloc (.cells (wayArr y) 138)=w1 at *
 go_wp2_with (refine wpList_loadWay (wanted_none rfl) _ rfl _ rfl y HW.out hy ?_)
 refine Calls.mono HC.out ?_
 rintro e w4 ⟨he4,hI4,hK4⟩
 subst he4
 have HI4:Hid _:=hI4
 clear hI4 d0 d1 d2 d3 HC
 go_wp2_with fail
 go_ret
 exact ⟨rfl,HI4.out,HK.out.trans hK4⟩
theorem hold_any {σ:Type} {step:σ→Ru.Way→σ × Bool} {live:σ→Ru.Way→Prop} {I:σ→World→Prop} {NB hh:Nat} {cb:Array Value} (facts:List Rl.Fc) (l:Sc.Lit) (y:Ru.Way) (vf vt:Value) (w0 w:World) (s:σ)
 (hB0:Below w0.heap.size w0 w) (hF:FactsV w0 vf facts) (hFl:facts.length≤1000000) (hFF:∀ f,f∈facts→FFit f) (hT:PTermsV w0 vt l.terms) (hH:HoldIn facts l y) (hy:Ru.Wf 8 y)
 (TL:Tell w0.heap.size NB hh cb step live I) (he:∀ args w,(callFunc hh args).run Tryz.prog w=.ok (.enter hh args) w) (hI:I s w) (hLv:Ru.Lv step live s (Ru.on facts l y)) :
 Calls Tryz.prog 145 #[vf,plitVal l vt,wayVal y,.func (.func hh) #[] cb] w fun e w'=>e=.returned (.bool (Ru.run step s (Ru.on facts l y)).2)∧I (Ru.run step s (Ru.on facts l y)).1 w'∧Kp w0.heap.size NB w w':=by
 rcases hH.li.k with hk | hk | hk | hk
 · exact hold1_any facts l y vf vt w0 w s hB0 hF hFl hT hH.li.t (hH.li.a hk) hH.tl hy hk TL he hI hLv
 · exact hold2_any facts l y vf vt w0 w s hB0 hF hFl hFF hT hH.li.t hH.tl hy hk TL he hI hLv
 · exact hold3_any facts l y vf vt w0 w s hB0 hT hH.li.t (hH.li.k3 hk) hy hk TL he hI hLv
 · exact hold4_any facts l y vf vt w0 w s hB0 hT hH.li.t (hH.li.k4 hk) hy hk (hH.n0 hk) (hH.n1 hk) TL he hI hLv
theorem own_factsV {w w':World} {B:Nat} {v:Value} {q:List Fv} (h2:w'.ownsRow B 55 2 v q.length (q.map fcCells).flatten) (h3:∀ p,p∈q→FvOk w p) (hb:Below w.heap.size w w'):FactsV w' v (q.map (·.1)):=by
 rcases ownsRow_forms9 h2 with ⟨hv,h0⟩ | ⟨g,cap,hv⟩
 · have hq:q=[]:=List.eq_nil_of_length_eq_zero h0
   subst hq
   exact ⟨none,0,hv,⟨Nat.le_refl _,fun _=>rfl⟩,.inl rfl⟩
 · subst hv
   have hc:q.length≤cap:=by
    rcases h2.2 with ⟨hv,_⟩ | ⟨_,_,_,hv,_,_,hc1,_⟩
    · cases hv
    · injection hv with _ _ e3
      omega
   refine ⟨_,cap,by rw [List.length_map],⟨by rw [List.length_map]; exact hc,fun h=>by cases h⟩,.inr ⟨g,0,rfl,fun i hi=>?_⟩⟩
   rw [List.length_map] at hi
   have hq:q[i]?=some q[i]:=List.getElem?_eq_getElem hi
   have hd:Rl.factD (q.map (·.1)) i=q[i].1:=by simp [Rl.factD,hi]
   obtain ⟨c0,c1⟩:=FRow.cell h2 hq
   rw [Nat.zero_add,hd]
   exact ⟨c0,q[i].2,c1,intsV_below (h3 _ (List.getElem_mem hi)).1 hb⟩
structure Gap (q R:List Fv) (k:Nat):Prop where
 len:R.length=q.length+1
 lo:∀ j,j<k→R[j]?=q[j]?
 hi:∀ j,k<j→R[j]?=q[j - 1]?
theorem Gap.start (q:List Fv) (x:Fv):Gap q (q++[x]) q.length :=
 ⟨by simp,fun j hj=>List.getElem?_append_left hj,fun j hj=>by rw [List.getElem?_eq_none (by simp; omega),List.getElem?_eq_none (by omega)]⟩
theorem Gap.step {q R:List Fv} {k:Nat} {y:Fv} (h:Gap q R (k+1)) (hy:q[k]?=some y):Gap q (R.set (k+1) y) k:=by
 have hk:k<q.length:=by
  rcases Nat.lt_or_ge k q.length with h2 | h2
  · exact h2
  · rw [List.getElem?_eq_none h2] at hy; cases hy
 refine ⟨by rw [List.length_set]; exact h.len,fun j hj=>?_,fun j hj=>?_⟩
 · rw [List.getElem?_set,if_neg (by omega)]
   exact h.lo j (by omega)
 · rw [List.getElem?_set]
   by_cases hjk:k+1=j
   · rw [if_pos hjk,if_pos (by have:=h.len; omega),← hjk]
     exact hy.symm
   · rw [if_neg hjk]
     exact h.hi j (by omega)
theorem Gap.fin {q R:List Fv} {k:Nat} (h:Gap q R k) (hk:k≤q.length) (x:Fv):R.set k x=q.take k++x::q.drop k:=by
 apply List.ext_getElem?
 intro j
 rw [List.getElem?_set]
 by_cases hj:k=j
 · rw [if_pos hj,if_pos (by have:=h.len; omega),← hj,List.getElem?_append_right (by rw [List.length_take]; omega),List.length_take,Nat.min_eq_left hk,Nat.sub_self]
   rfl
 · rw [if_neg hj]
   by_cases hlt:j<k
   · rw [h.lo j hlt,List.getElem?_append_left (by rw [List.length_take]; omega),List.getElem?_take,if_pos hlt]
   · rw [h.hi j (by omega),List.getElem?_append_right (by rw [List.length_take]; omega),List.length_take,Nat.min_eq_left hk]
     obtain ⟨d,hd⟩:∃ d,j - k=d+1:=⟨j - k - 1,by omega⟩
     rw [hd,List.getElem?_cons_succ,List.getElem?_drop]
     congr 1
     omega
theorem isSet_skip {s l:List Rl.Fc} {f:Rl.Fc} (h:Rl.IsSet s l) (hf:f∈s):Rl.IsSet s (l++[f]) :=
 ⟨h.1,fun x=>by
  rw [List.mem_append,h.2]
  constructor
  · intro hx; exact .inl hx
  · rintro (hx | hx)
    · exact hx
    · rw [List.mem_singleton.mp hx]; exact (h.2 f).mp hf⟩
theorem isSet_put {s l:List Rl.Fc} {f:Rl.Fc} {k:Nat} (h:Rl.IsSet s l) (hf:f∉s) (hk:k≤s.length) (hd:∀ x,x∈s.drop k→Rl.ord x f > 0) (ht:k=0∨∃ x,s[k - 1]?=some x∧¬ Rl.ord x f > 0):Rl.IsSet (s.take k++f::s.drop k) (l++[f]) :=
 ⟨Rl.up_put h.1 hf hk hd ht,fun x=>by
  rw [Rl.mem_put,List.mem_append,h.2,List.mem_singleton]
  constructor
  · rintro (hx | hx)
    · exact .inr hx
    · exact .inl hx
  · rintro (hx | hx)
    · exact .inr hx
    · exact .inl hx⟩


theorem lCells_len (q:List Lv):(lCells q).length=q.length * 4:=by
 unfold lCells
 rw [flat_length 4 _ (fun c hc=>by obtain ⟨t,_,rfl⟩:=List.mem_map.mp hc; rfl),List.length_map]
theorem lCells_app (q r:List Lv):lCells (q++r)=lCells q++lCells r:=by unfold lCells; rw [List.map_append,List.flatten_append]
def QAt (w:World) (a:Addr) (q:List Lv):Prop:=∀ j u,(lCells q)[j]?=some u→w.cell? (a.add j)=some u
theorem cell_below' {w w':World} (hb:Below w.heap.size w w') {a:Addr} {v:Value} (h:w.cell? a=some v):w'.cell? a=some v:=(World.cell?_of_block (hb.block _ (World.block_lt_of_cell? w _ h))).trans h
theorem lCells_one {q:List Lv} (h:∀ p,p∈q→∃ ao n c,p.2=.slice ao n c):∀ u,u∈lCells q→u.oneCell'=true:=by
 intro u hu
 unfold lCells at hu
 obtain ⟨c,hc,hu⟩:=List.mem_flatten.mp hu
 obtain ⟨p,hp,rfl⟩:=List.mem_map.mp hc
 obtain ⟨ao,n,cc,e⟩:=h p hp
 unfold lvCells at hu
 simp only [List.mem_cons,List.not_mem_nil,or_false] at hu
 rcases hu with rfl | rfl | rfl | rfl
 · rfl
 · rfl
 · rfl
 · rw [e]; rfl
theorem growL_any (w:World) (n:Nat) (hn:n≤1048576) :
 Calls Tryz.prog 183 #[.slice none 0 0,.int .i64 n] w fun e w'=>∃ v',e=.returned v'∧w'.ownsRow w.heap.size 49 4 v' 0 []∧Below w.heap.size w w':=by
 obtain ⟨i0,hi,hz0,hz1,hz2⟩:=info_parts cl_info71
 by_cases h0:n=0
 · subst h0
   go_enter Tryz.func183,Tryz.ntmps183
   go_wp2_with fail
   go_ret
   exact ⟨_,rfl,World.ownsRow_nil _ _ _ _,Below.refl _ _⟩
 · have hp:0<n:=by omega
   have HR:Hid _:=Lib.run_append_nil_zeros w 38 3 38 49 i0 _ .i64 .i64 Tryz.underlying38 Tryz.underlying3 hi hz0 n hp (by rw [hz1]; decide) (by omega) (by rw [hz2]; omega)
   go_enter Tryz.func183,Tryz.ntmps183
   go_wp2_with (at_builtin; refine Lib.wpList_append_run _ rfl _ _ 38 3 rfl _ _ rfl rfl _ _ HR.out ?_)
   have HO:Hid (∀ cur:Array Value,cur.size=grownCap w n 0 49 * 4→(w.alloc (.cells cur 49)).drew.ownsRow w.heap.size 49 4 (.slice (some ⟨w.heap.size,0,none⟩) 0 (grownCap w n 0 49)) 0 []∧Below w.heap.size w (w.alloc (.cells cur 49)).drew):=by
    intro cur hc
    have h1:=World.ownsRow_made (base:=w.heap.size) (e:=49) (size:=4) w cur (grownCap w n 0 49) (Nat.le_refl _) (grownCap_le_maxLen _ _ _ _ (by unfold maxLen; omega)) hc
    have h2:Below w.heap.size w (w.alloc (.cells cur 49)):=(Below.refl _ _).alloc (Nat.le_refl _) _
    exact ⟨h1,h2.os,h2.tape,h2.output,h2.size,h2.block⟩
   have hge:=grownCap_ge w n 0 49
   go_ret
   refine ⟨_,rfl,HO.out _ ?_⟩
   simp [Builtin.zeroCells]
   omega
theorem concatL_any (q1 q2:List Lv) (b:Nat) (a1 a2:Addr) (c1 c2:Nat) (w:World) (hA:QAt w a1 q1) (hB:QAt w a2 q2) (h1:∀ p,p∈q1→∃ ao n c,p.2=.slice ao n c) (h2:∀ p,p∈q2→∃ ao n c,p.2=.slice ao n c)
 (hb0:w.cell? ⟨b,0,none⟩=some (.slice (some a1) q1.length c1)) (hb1:w.cell? ⟨b,1,none⟩=some (.slice (some a2) q2.length c2)) (hl:q1.length≤1000) (hm:q2.length≤1000) :
 Calls Tryz.prog 144 #[.slice (some ⟨b,0,none⟩) 2 2] w fun e w'=>∃ v',e=.returned v'∧w'.ownsRow w.heap.size 49 4 v' (q1.length+q2.length) (lCells (q1++q2))∧Below w.heap.size w w':=by
 obtain ⟨i0,hi,hz0,hz1,hz2⟩:=info_parts cl_info71
 have HA:Hid _:=hA
 have HB:Hid _:=hB
 have H1:Hid _:=lCells_one h1
 have H2:Hid _:=lCells_one h2
 clear hA hB h1 h2
 go_enter Tryz.func144,Tryz.ntmps144
 go_wp2_with fail
 go_loopw [3,11] (fun sz i wr=>w=wr∧((i=.int .i64 (0:Nat)∧sz=.int .i64 0)∨(i=.int .i64 (1:Nat)∧sz=.int .i64 (q1.length:Nat))∨(i=.int .i64 (2:Nat)∧sz=.int .i64 ((q1.length+q2.length:Nat):Int)))) (fun _ i _=>2 - (intOf i).toNat)
 case atStart=>exact ⟨rfl,.inl ⟨rfl,rfl⟩⟩
 case round =>
  obtain ⟨rfl,⟨rfl,rfl⟩ | ⟨rfl,rfl⟩ | ⟨rfl,rfl⟩⟩:=hrel
  · go_wp2_with fail
    go_roundw
    case rel=>exact ⟨by trivial,.inr (.inl ⟨by first | rfl | go_num,by first | rfl | go_num | simp⟩)⟩
    case measure=>simp [intOf]
  · go_wp2_with fail
    go_roundw
    case rel=>exact ⟨by trivial,.inr (.inr ⟨by first | rfl | go_num,by first | rfl | go_num | simp⟩)⟩
    case measure=>simp [intOf]
  · go_wp2_with fail
    refine Calls.mono (growL_any _ (q1.length+q2.length) (by omega)) ?_
    rintro e w1 ⟨v1,rfl,hown1,hbw1⟩
    obtain ⟨a3,c3,rfl⟩:=own_slice hown1
    have d0:=cell_below hbw1 hb0
    have d1:=cell_below hbw1 hb1
    go_wp2_with fail
    clear d0 d1
    go_loopw [6,27] (fun ns i wr=>(i=.int .i64 (0:Nat)∧wr.ownsRow w.heap.size 49 4 ns 0 []∧Below w.heap.size w wr)∨(i=.int .i64 (1:Nat)∧wr.ownsRow w.heap.size 49 4 ns q1.length (lCells q1)∧Below w.heap.size w wr)∨(i=.int .i64 (2:Nat)∧wr.ownsRow w.heap.size 49 4 ns (q1.length+q2.length) (lCells q1++lCells q2)∧Below w.heap.size w wr)) (fun _ i _=>2 - (intOf i).toNat)
    case atStart=>exact .inl ⟨rfl,hown1,hbw1⟩
    case round =>
     rcases hrel with ⟨rfl,hown,hbw⟩ | ⟨rfl,hown,hbw⟩ | ⟨rfl,hown,hbw⟩
     · have d0:=cell_below hbw hb0
       have d1:=cell_below hbw hb1
       obtain ⟨a4,c4,rfl⟩:=own_slice hown
       go_wp2_with (at_builtin; refine wpList_append_own _ rfl _ _ 38 rfl w.heap.size 49 i0 _ 4 48 Tryz.underlying38 hi hz0 hz1 hz2 rfl (by decide) _ _ _ rfl hown a1 q1.length c1 (lCells q1) rfl (lCells_len q1) ?c1 H1.out ?c3 ?c4 ?c5 ?_)
       case c1=>exact fun j u hj=>(cell_below' hbw (HA.out j u hj))
       case c3=>unfold maxLen; omega
       case c4=>omega
       case c5=>exact hbw.size
       intro v2 w2 hown2 hgrow2 _
       obtain ⟨a5,c5,rfl⟩:=own_slice hown2
       have hb5:Below w.heap.size w w2:=hbw.grown hgrow2 hbw.size (fun k hk=>(World.ownsRow.lt hown k hk).1)
       have h8:w2.ownsRow w.heap.size 49 4 (.slice a5 (0+q1.length) c5) q1.length (lCells q1):=by simpa using hown2
       have HO2:Hid _:=h8
       rw [Nat.zero_add] at h8
       have HO3:Hid _:=h8
       clear h8 hown2 hgrow2 hown d0 d1
       go_wp2_with fail
       go_roundw
       case rel=>exact .inr (.inl ⟨by first | rfl | go_num,by first | exact HO2.out | exact HO3.out,hb5⟩)
       case measure=>simp [intOf]
     · have d0:=cell_below hbw hb0
       have d1:=cell_below hbw hb1
       obtain ⟨a4,c4,rfl⟩:=own_slice hown
       go_wp2_with (at_builtin; refine wpList_append_own _ rfl _ _ 38 rfl w.heap.size 49 i0 _ 4 48 Tryz.underlying38 hi hz0 hz1 hz2 rfl (by decide) _ _ _ rfl hown a2 q2.length c2 (lCells q2) rfl (lCells_len q2) ?c1 H2.out ?c3 ?c4 ?c5 ?_)
       case c1=>exact fun j u hj=>(cell_below' hbw (HB.out j u hj))
       case c3=>unfold maxLen; omega
       case c4=>omega
       case c5=>exact hbw.size
       intro v2 w2 hown2 hgrow2 _
       obtain ⟨a5,c5,rfl⟩:=own_slice hown2
       have hb5:Below w.heap.size w w2:=hbw.grown hgrow2 hbw.size (fun k hk=>(World.ownsRow.lt hown k hk).1)
       have HO2:Hid _:=hown2
       clear hown2 hgrow2 hown d0 d1
       go_wp2_with fail
       go_roundw
       case rel=>exact .inr (.inr ⟨by first | rfl | go_num,HO2.out,hb5⟩)
       case measure=>simp [intOf]
     · obtain ⟨a4,c4,rfl⟩:=own_slice hown
       have HO2:Hid _:=hown
       clear hown
       go_wp2_with fail
       go_ret
       exact ⟨_,rfl,by rw [lCells_app]; exact HO2.out,hbw⟩
namespace Ru
def stepN (s:Nat) (_:Way):Nat × Bool:=(s+1,true)
def liveN (s:Nat) (_:Way):Prop:=s≤1000000
theorem lv_count:∀ (L:List Way) (s:Nat),s+L.length≤1000001→Lv stepN liveN s L
 | [],_,_=>trivial
 | x::L,s,h=>⟨by unfold liveN; simp only [List.length_cons] at h; omega,fun _=>lv_count L (s+1) (by simp only [List.length_cons] at h; omega)⟩
theorem run_count:∀ (L:List Way) (s:Nat),run stepN s L=(s+L.length,true)
 | [],_=>rfl
 | x::L,s=>by
  rw [run_cons]
  show (if true=true then run stepN (s+1) L else _)=_
  rw [if_pos rfl,run_count L (s+1),List.length_cons]
  congr 1
  omega
theorem on_length (facts:List Rl.Fc) (l:Sc.Lit) (y:Way):(on facts l y).length≤facts.length+1:=by
 unfold on
 split
 · have:=List.length_filterMap_le (fun f=>if f.pred=l.pred then withW y l.terms f.args else none) facts
   omega
 · split
   · split <;> simp
   · split
     · split <;> simp
     · split
       · simp
       · split <;> simp
theorem nextAux_drop (facts:List Rl.Fc) (y:Way) (body:List Sc.Lit) (k:Nat) (h:k<body.length) (a:Nat × Int):nextAux facts y (body.drop k) k a=nextAux facts y (body.drop (k+1)) (k+1) (nextStep facts y (Sc.litD body k) k a):=by
 have e:Sc.litD body k=body[k]:=by unfold Sc.litD; rw [List.getD_eq_getElem?_getD,List.getElem?_eq_getElem h]; rfl
 rw [List.drop_eq_getElem_cons h,e]
 rfl
end Ru
theorem next1_any (NB n:Nat) (x:Ru.Way) (w:World) (hN:w.heap[NB]?=some (.cells #[.int .i64 n] 3)) (hn:n≤1000000) :
 Calls Tryz.prog 182 #[wayVal x,.pointer (some ⟨NB,0,none⟩)] w fun e w'=>e=.returned (.bool true)∧w'.heap[NB]?=some (.cells #[.int .i64 ((n+1:Nat):Int)] 3)∧Kp NB NB w w':=by
 have bT:=(Below.refl w.heap.size w).alloc (Nat.le_refl _) (.cells (wayArr x) 138)
 have hN1:=(bT.block _ (heap_lt hN)).trans hN
 have c0:(w.alloc (.cells (wayArr x) 138)).cell? ⟨NB,0,none⟩=some (.int .i64 n):=by rw [Lib.cell_of_heap hN1]; rfl
 have f0:=Lib.frozen_of_heap hN1 0
 have HN:Hid _:=hN1
 have HK:Hid (Kp NB NB w (w.alloc (.cells (wayArr x) 138))):=Kp.of_below bT (Nat.le_of_lt (heap_lt hN))
 clear hN1 hN bT
 go_enter Tryz.func182,Tryz.ntmps182
 go_upto_region 1 with fail
 generalize w.alloc (.cells (wayArr x) 138)=w1 at *
 go_wp2_with fail
 go_ret
 refine ⟨rfl,by rw [Lib.heap_setCell_same HN.out]; rfl,HK.out.trans ⟨rfl,rfl,rfl,by simp,fun k hk=>heap_set_other (by omega),fun k c t hk hne _=>?_⟩⟩
 rw [heap_set_other hne]
 exact hk
theorem tellN (NB:Nat):Tell NB NB 182 #[.pointer (some ⟨NB,0,none⟩)] Ru.stepN Ru.liveN (fun n w=>w.heap[NB]?=some (.cells #[.int .i64 (n:Int)] 3)) :=
 ⟨fun s w x hI hl _=>next1_any NB s x w hI hl,fun _ _ _ hI hb=>(hb.block _ (heap_lt hI)).trans hI,fun _ _ hI=>⟨Nat.le_of_lt (heap_lt hI),heap_lt hI⟩⟩
structure BodyV (w0:World) (NB:Nat) (w:World) (v:Value) (q:List Lv):Prop where
 sl:∃ a cap,v=.slice a q.length cap∧q.length≤cap∧(q≠[]→∃ b off,a=some ⟨b,off,none⟩∧QAt w ⟨b,off,none⟩ q∧(b<w0.heap.size∨(b≠NB∧∃ c,w.heap[b]?=some (.cells c 49))))
 tm:∀ p,p∈q→PTermsV w0 p.2 p.1.terms
theorem QAt.lit {w:World} {b off:Nat} {q:List Lv} (h:QAt w ⟨b,off,none⟩ q) {k:Nat} (hk:k<q.length):w.cell? ⟨b,off+k * 4,none⟩=some (.int .i64 q[k].1.kind)∧w.cell? ⟨b,off+k * 4+1,none⟩=some (.int .i64 q[k].1.op)∧w.cell? ⟨b,off+k * 4+2,none⟩=some (.int .i64 q[k].1.pred)∧w.cell? ⟨b,off+k * 4+3,none⟩=some q[k].2:=by
 have hm:(q.map lvCells)[k]?=some (lvCells q[k]):=by rw [List.getElem?_map,List.getElem?_eq_getElem hk]; rfl
 have hl:∀ c,c∈q.map lvCells→c.length=4:=fun c hc=>by obtain ⟨t,_,rfl⟩:=List.mem_map.mp hc; rfl
 have each:∀ (i:Nat) (u:Value),(lvCells q[k])[i]?=some u→w.cell? ⟨b,off+(k * 4+i),none⟩=some u:=fun i u hu=>by
  have h1:=h (k * 4+i) u (flat_get 4 _ hl k _ i u hm hu)
  rw [Addr.add_lit] at h1
  exact h1
 exact ⟨each 0 _ rfl,each 1 _ rfl,each 2 _ rfl,each 3 _ rfl⟩
theorem litD_map {q:List Lv} {k:Nat} (h:k<q.length):Sc.litD (q.map (·.1)) k=q[k].1:=by
 unfold Sc.litD
 rw [List.getD_eq_getElem?_getD,List.getElem?_map,List.getElem?_eq_getElem h]
 rfl
theorem next_any (facts:List Rl.Fc) (q:List Lv) (y:Ru.Way) (vf vb:Value) (w0 w:World) (NB:Nat) (hB0:Below w0.heap.size w0 w) (hF:FactsV w0 vf facts) (hFl:facts.length≤1000) (hFF:∀ f,f∈facts→FFit f) (hQ:BodyV w0 NB w vb q) (hql:q.length≤1000) (hy:Ru.Wf 8 y)
 (hL:∀ p,p∈q→Ru.LitIn 8 facts p.1∧p.1.terms.length≤1000) (hH:∀ p,p∈q→Ru.ready y p.1=true→HoldIn facts p.1 y) :
 Calls Tryz.prog 143 #[vf,vb,wayVal y] w fun e w'=>e=.returned (.int .i64 (Ru.next facts (q.map (·.1)) y))∧Below w.heap.size w w':=by
 obtain ⟨⟨ab,cb,rfl,hcb,hqa⟩,htm⟩:=hQ
 have bW:=(Below.refl w.heap.size w).alloc (Nat.le_refl _) (.cells (wayArr y) 138)
 have HW:Hid (WayAt (w.alloc (.cells (wayArr y) 138)) w.heap.size y):=heap_alloc_new w _
 have HB1:Hid _:=bW
 have HB0:Hid _:=hB0
 have HF:Hid _:=hF
 have HFF:Hid _:=hFF
 have HQA:Hid _:=hqa
 have HTM:Hid _:=htm
 have HLI:Hid _:=hL
 have HHI:Hid _:=hH
 have he:∀ args w,(callFunc 182 args).run Tryz.prog w=.ok (.enter 182 args) w:=enters_of Tryz.func182 (by kernel_rfl) rfl
 have hmf:∀ (fn:Fn) (first cap:Array Value) (w:World),(Instr.makeFunc fn first cap).run Tryz.prog w=.ok (.func fn first cap) w:=fun _ _ _ _=>rfl
 clear hB0 hF hFF hqa htm hL hH bW
 go_enter Tryz.func143,Tryz.ntmps143
 go_wp2_with fail
 generalize w.alloc (.cells (wayArr y) 138)=w1 at *
 go_loopw [7,8,14] (fun vbest vfew i wr=>∃ (k:Nat) (a:Nat × Int),k≤q.length∧i=.int .i64 k∧vbest=.int .i64 (a.1:Nat)∧vfew=.int .i64 a.2∧a.1≤q.length∧-1≤a.2∧a.2≤2000∧Hid (Ru.next facts (q.map (·.1)) y=(Ru.nextAux facts y ((q.map (·.1)).drop k) k a).1)∧Hid (Below w.heap.size w wr)∧Hid (WayAt wr w.heap.size y)) (fun _ _ i _=>q.length - (intOf i).toNat)
 case atStart=>exact ⟨0,(0,-1),Nat.zero_le _,rfl,rfl,rfl,Nat.zero_le _,by decide,by decide,rfl,HB1.out,HW.out⟩
 case round =>
  clear HB1 HW
  obtain ⟨k,⟨best,few⟩,hk,rfl,rfl,rfl,ha1,ha2,ha3,HR,HB,HW⟩:=hrel
  dsimp only at *
  by_cases hlt:k<q.length
  · obtain ⟨b,off,rfl,hqat,_⟩:=HQA.out (fun e=>by rw [e] at hlt; exact absurd hlt (Nat.not_lt_zero _))
    obtain ⟨p0,p1,p2,p3⟩:=QAt.lit hqat hlt
    have HD:Hid _:=Ru.nextAux_drop facts y (q.map (·.1)) k (by rw [List.length_map]; exact hlt) (best,few)
    have hm:q[k]∈q:=List.getElem_mem hlt
    have HTk:Hid _:=HTM.out _ hm
    have HLk:Hid _:=HLI.out _ hm
    have HHk:Hid _:=HHI.out _ hm
    rw [litD_map hlt] at HD
    have q0:=cell_below HB.out p0
    have q1:=cell_below HB.out p1
    have q2:=cell_below HB.out p2
    have q3:=cell_below HB.out p3
    clear p0 p1 p2 p3 hm hqat
    generalize q[k]=p at *
    obtain ⟨⟨kd,op,pd,ts⟩,vt⟩:=p
    dsimp only at *
    obtain ⟨at_,ct,rfl,_⟩:=id HTk.out
    go_upto_region 5 with fail
    have bT:=(Below.refl wr.heap.size wr).alloc (Nat.le_refl _) (.cells #[.int .i64 kd,.int .i64 op,.int .i64 pd,.slice at_ ts.length ct] 49)
    have HTB:Hid _:=heap_alloc_new wr (.cells #[.int .i64 kd,.int .i64 op,.int .i64 pd,.slice at_ ts.length ct] 49)
    have HBq:Hid _:=HB.out.trans (bT.mono HB.out.size)
    have HWq:Hid (WayAt (wr.alloc (.cells #[.int .i64 kd,.int .i64 op,.int .i64 pd,.slice at_ ts.length ct] 49)) w.heap.size y):=WayAt.below HW.out bT
    clear q0 q1 q2 q3 bT HB HW
    generalize wr.alloc (.cells #[.int .i64 kd,.int .i64 op,.int .i64 pd,.slice at_ ts.length ct] 49)=wq at *
    generalize wr.heap.size=TB at *
    have l0:wq.cell? ⟨TB,0,none⟩=some (.int .i64 kd):=by rw [Lib.cell_of_heap HTB.out]; rfl
    have l1:wq.cell? ⟨TB,1,none⟩=some (.int .i64 op):=by rw [Lib.cell_of_heap HTB.out]; rfl
    have l2:wq.cell? ⟨TB,2,none⟩=some (.int .i64 pd):=by rw [Lib.cell_of_heap HTB.out]; rfl
    have l3:wq.cell? ⟨TB,3,none⟩=some (.slice at_ ts.length ct):=by rw [Lib.cell_of_heap HTB.out]; rfl
    have HB0q:Hid (Below w0.heap.size w0 wq):=HB0.out.trans (HBq.out.mono HB0.out.size)
    go_wp2_with (refine wpList_loadWay (wanted_none rfl) _ rfl _ rfl y HWq.out hy ?_)
    refine Calls.mono (ready_any ⟨kd,op,pd,ts⟩ _ y wq (ptermsV_below HTk.out HB0q.out) hy HLk.out.1.t HLk.out.1.k4 (by have:=HLk.out.2; dsimp only at this ⊢; omega)) ?_
    rintro _ w2 ⟨rfl,hb2⟩
    have HB2:Hid _:=HBq.out.trans (hb2.mono HBq.out.size)
    have HW2:Hid (WayAt w2 w.heap.size y):=WayAt.below HWq.out hb2
    have HTB2:Hid _:=(hb2.block _ (heap_lt HTB.out)).trans HTB.out
    have HB02:Hid (Below w0.heap.size w0 w2):=HB0q.out.trans (hb2.mono HB0q.out.size)
    clear hb2 l0 l1 l2 l3 HBq HWq HTB HB0q
    cases hrd:Ru.ready y ⟨kd,op,pd,ts⟩
    · have HN:Hid (Ru.nextStep facts y ⟨kd,op,pd,ts⟩ k (best,few)=(best,few)):=by show _=_; unfold Ru.nextStep; rw [hrd]; rfl
      clear hrd
      go_wp2_with fail
      go_roundw
      case rel=>exact ⟨k+1,(best,few),hlt,by go_num,rfl,rfl,ha1,ha2,ha3,by show _=_; rw [HR.out,HD.out,HN.out],HB2.out,HW2.out⟩
      case measure=>simp [intOf]; omega
    · have HHh:Hid _:=HHk.out hrd
      have HRD:Hid _:=hrd
      clear hrd
      go_upto_region 7 with fail
      have bN:=(Below.refl w2.heap.size w2).alloc (Nat.le_refl _) (.cells #[.int .i64 0] 3)
      have hNB:=heap_alloc_new w2 (.cells #[.int .i64 0] 3)
      have HC:Hid _:=hold_any (NB:=w2.heap.size) (hh:=182) (cb:=#[.pointer (some ⟨w2.heap.size,0,none⟩)]) facts ⟨kd,op,pd,ts⟩ y vf (.slice at_ ts.length ct) w2 (w2.alloc (.cells #[.int .i64 0] 3)) 0 bN (factsV_below HF.out HB02.out) (by omega) HFF.out (ptermsV_below HTk.out HB02.out) HHh.out hy (tellN w2.heap.size) he hNB (Ru.lv_count _ 0 (by have:=Ru.on_length facts ⟨kd,op,pd,ts⟩ y; omega))
      have HW3:Hid (WayAt (w2.alloc (.cells #[.int .i64 0] 3)) w.heap.size y):=WayAt.below HW2.out bN
      have HTB3:Hid _:=(bN.block _ (heap_lt HTB2.out)).trans HTB2.out
      have HB3:Hid _:=HB2.out.trans (bN.mono HB2.out.size)
      have HXW:Hid (w.heap.size<w2.heap.size):=heap_lt HW2.out
      have hol:=Ru.on_length facts ⟨kd,op,pd,ts⟩ y
      rw [Ru.run_count] at HC
      generalize hon:(Ru.on facts ⟨kd,op,pd,ts⟩ y).length=cnt at *
      have HON:Hid _:=hon
      clear bN hNB hon
      generalize w2.alloc (.cells #[.int .i64 0] 3)=w3 at *
      have l0:w3.cell? ⟨TB,0,none⟩=some (.int .i64 kd):=by rw [Lib.cell_of_heap HTB3.out]; rfl
      have l1:w3.cell? ⟨TB,1,none⟩=some (.int .i64 op):=by rw [Lib.cell_of_heap HTB3.out]; rfl
      have l2:w3.cell? ⟨TB,2,none⟩=some (.int .i64 pd):=by rw [Lib.cell_of_heap HTB3.out]; rfl
      have l3:w3.cell? ⟨TB,3,none⟩=some (.slice at_ ts.length ct):=by rw [Lib.cell_of_heap HTB3.out]; rfl
      go_wp2_with (refine wpList_loadWay (wanted_none rfl) _ rfl _ rfl y HW3.out hy ?_)
      refine Calls.mono HC.out ?_
      rintro _ w4 ⟨rfl,hI4,hK4⟩
      rw [Nat.zero_add] at hI4
      have HB4:Hid (Below w.heap.size w w4):=⟨hK4.os.trans HB3.out.os,hK4.tape.trans HB3.out.tape,hK4.output.trans HB3.out.output,Nat.le_trans HB3.out.size hK4.size,fun k hk=>(hK4.low k (by have:=HXW.out; omega)).trans (HB3.out.block k hk)⟩
      have HW4:Hid (WayAt w4 w.heap.size y):=(hK4.low _ HXW.out).trans HW3.out
      have n0:w4.cell? ⟨w2.heap.size,0,none⟩=some (.int .i64 cnt):=by rw [Lib.cell_of_heap hI4]; rfl
      clear l0 l1 l2 l3 hI4 hK4 HC HTB3 HB3 HW3 HB2 HW2 HTB2 HB02
      generalize w2.heap.size=NX at *
      by_cases hf:few<0∨(cnt:Int)<few
      · have HN:Hid (Ru.nextStep facts y ⟨kd,op,pd,ts⟩ k (best,few)=(k,(cnt:Int))):=by show _=_; unfold Ru.nextStep; rw [HRD.out,if_pos rfl,HON.out,if_pos hf]
        by_cases hf0:few<0
        · have g1:decide (few<0)=true:=decide_eq_true hf0
          clear hf hf0
          go_wp2_with fail
          go_quiet (fail)
          go_wp2_with fail
          go_roundw
          case rel=>exact ⟨k+1,(k,(cnt:Int)),hlt,by go_num,rfl,rfl,by dsimp only; omega,by dsimp only; omega,by dsimp only; omega,by show _=_; rw [HR.out,HD.out,HN.out],HB4.out.trans ((blw_drewN _ _).mono HB4.out.size),WayAt.below HW4.out (blw_drewN _ _)⟩
          case measure=>simp [intOf]; omega
        · have g1:decide (few<0)=false:=decide_eq_false hf0
          have g2:decide ((cnt:Int)<few)=true:=decide_eq_true (by omega)
          clear hf hf0
          go_wp2_with fail
          go_quiet (fail)
          go_wp2_with fail
          go_roundw
          case rel=>exact ⟨k+1,(k,(cnt:Int)),hlt,by go_num,rfl,rfl,by dsimp only; omega,by dsimp only; omega,by dsimp only; omega,by show _=_; rw [HR.out,HD.out,HN.out],HB4.out.trans ((blw_drewN _ _).mono HB4.out.size),WayAt.below HW4.out (blw_drewN _ _)⟩
          case measure=>simp [intOf]; omega
      · have HN:Hid (Ru.nextStep facts y ⟨kd,op,pd,ts⟩ k (best,few)=(best,few)):=by show _=_; unfold Ru.nextStep; rw [HRD.out,if_pos rfl,HON.out,if_neg hf]
        have g1:decide (few<0)=false:=decide_eq_false (by omega)
        have g2:decide ((cnt:Int)<few)=false:=decide_eq_false (by omega)
        clear hf
        go_wp2_with fail
        go_roundw
        case rel=>exact ⟨k+1,(best,few),hlt,by go_num,rfl,rfl,ha1,ha2,ha3,by show _=_; rw [HR.out,HD.out,HN.out],HB4.out,HW4.out⟩
        case measure=>simp [intOf]; omega
  · have hdd:decide (k<q.length)=false:=decide_eq_false hlt
    have HE:Hid (Ru.next facts (q.map (·.1)) y=best):=by show _=_; rw [HR.out,List.drop_of_length_le (by rw [List.length_map]; omega)]; rfl
    go_wp2_with fail
    go_ret
    exact ⟨by rw [HE.out]; rfl,HB.out⟩
namespace Ru
theorem lv_mem {σ:Type} {step:σ→Way→σ × Bool} {live:σ→Way→Prop} {P:Way→Prop}:∀ (L:List Way) (s:σ),Lv step live s L→(∀ x,x∈L→P x)→Lv step (fun s x=>live s x∧P x) s L
 | [],_,_,_=>trivial
 | x::L,_,h,hp=>⟨⟨h.1,hp x List.mem_cons_self⟩,fun hs=>lv_mem L _ (h.2 hs) (fun z hz=>hp z (List.mem_cons_of_mem _ hz))⟩
theorem run_one {σ:Type} (step:σ→Way→σ × Bool) (s:σ) (x:Way):run step s [x]=step s x:=by
 rw [run_cons]
 show (if (step s x).2=true then ((step s x).1,true) else ((step s x).1,false))=_
 cases h:step s x with
 | mk a b=>cases b <;> rfl
def LitNum (l:Sc.Lit):Prop:=∀ t,t∈l.terms→t.var<0→Sc.isNum t.n=true
theorem known_num {m:Nat} {y:Way} {t:Sc.Term} (hg:Good m y) (hc:t.var<0→Sc.isNum t.n=true) (hk:Sc.known y.known t=true):Sc.isNum (num y.nums t)=true:=by
 unfold num
 by_cases h:t.var<0
 · rw [if_pos h]; exact hc h
 · rw [if_neg h]
   refine hg.nm _ ?_
   unfold Sc.known at hk
   rw [Bool.or_eq_true] at hk
   rcases hk with hk | hk
   · exact absurd (by simpa using hk) h
   · exact hk
end Ru
theorem holdIn_of {facts:List Rl.Fc} {l:Sc.Lit} {y:Ru.Way} {m:Nat} (hg:Ru.Good m y) (hm:m≤8) (hl:Ru.LitIn m facts l) (ht:l.terms.length≤1000) (hc:Ru.LitNum l) (hr:Ru.ready y l=true):HoldIn facts l y:=by
 have hk:l.kind=4→(Sc.known y.known (Sc.termD l.terms 0) && Sc.known y.known (Sc.termD l.terms 1))=true:=fun h=>by
  unfold Ru.ready at hr
  rw [if_neg (by omega),if_pos h] at hr
  exact hr
 refine ⟨hl.mono hm,ht,fun h=>?_,fun h=>?_⟩
 · have h3:=hl.k4 h
   exact Ru.known_num hg (hc _ (Ru.termD_mem (by omega))) (by have:=hk h; rw [Bool.and_eq_true] at this; exact this.1)
 · have h3:=hl.k4 h
   exact Ru.known_num hg (hc _ (Ru.termD_mem (by omega))) (by have:=hk h; rw [Bool.and_eq_true] at this; exact this.2)
theorem QAt.block {w w':World} {b off:Nat} {q:List Lv} (h:QAt w ⟨b,off,none⟩ q) (hb:w'.heap[b]?=w.heap[b]?):QAt w' ⟨b,off,none⟩ q:=by
 intro j u hj
 have h1:=h j u hj
 rw [Addr.add_lit] at h1 ⊢
 exact (World.cell?_of_block hb).trans h1
theorem QAt.take {w:World} {b off:Nat} {q:List Lv} (h:QAt w ⟨b,off,none⟩ q) (i:Nat):QAt w ⟨b,off,none⟩ (q.take i):=by
 intro j u hj
 refine h j u ?_
 have e:lCells q=lCells (q.take i)++lCells (q.drop i):=by rw [← lCells_app,List.take_append_drop]
 rw [e,List.getElem?_append_left (List.getElem?_eq_some_iff.mp hj).1]
 exact hj
theorem QAt.drop {w:World} {b off:Nat} {q:List Lv} (h:QAt w ⟨b,off,none⟩ q) (i:Nat) (hi:i≤q.length):QAt w ⟨b,off+i * 4,none⟩ (q.drop i):=by
 intro j u hj
 have e:lCells q=lCells (q.take i)++lCells (q.drop i):=by rw [← lCells_app,List.take_append_drop]
 have hl:(lCells (q.take i)).length=i * 4:=by rw [lCells_len,List.length_take,Nat.min_eq_left hi]
 have h1:=h (i * 4+j) u (by rw [e,List.getElem?_append_right (by omega),hl,Nat.add_sub_cancel_left]; exact hj)
 rw [Addr.add_lit] at h1 ⊢
 rw [Nat.add_assoc]
 exact h1
theorem BodyV.kp {w0:World} {NB:Nat} {w w':World} {v:Value} {q:List Lv} (h:BodyV w0 NB w v q) (hK:Kp w0.heap.size NB w w'):BodyV w0 NB w' v q:=by
 obtain ⟨⟨a,cap,e,hc,hq⟩,ht⟩:=h
 refine ⟨⟨a,cap,e,hc,fun hne=>?_⟩,ht⟩
 obtain ⟨b,off,ea,hQ,hb⟩:=hq hne
 rcases hb with hb | ⟨hb,c,hcs⟩
 · exact ⟨b,off,ea,hQ.block (hK.low b hb),.inl hb⟩
 · have hk:=hK.keep b c 49 hcs hb (by decide)
   exact ⟨b,off,ea,hQ.block (hk.trans hcs.symm),.inr ⟨hb,c,hk⟩⟩
theorem bodyV_own {w0 w:World} {NB X co:Nat} {ao:Option Addr} {r:List Lv} (h:w.ownsRow X 49 4 (.slice ao r.length co) r.length (lCells r)) (hNB:NB<X) (ht:∀ p,p∈r→PTermsV w0 p.2 p.1.terms):BodyV w0 NB w (.slice ao r.length co) r:=by
 refine ⟨⟨ao,co,rfl,?_,fun hne=>?_⟩,ht⟩
 · rcases h.2 with ⟨h1,h2⟩ | ⟨g,cap,cur,h1,h2,h3,h4,_⟩
   · rw [h2]; exact Nat.zero_le _
   · injection h1 with e1 e2 e3
     rw [e3]; exact h4
 · rcases id h.2 with ⟨h1,h2⟩ | ⟨g,cap,cur,h1,h2,h3,h4,_⟩
   · exact absurd (List.length_eq_zero_iff.mp h2) hne
   · injection h1 with e1 e2 e3
     subst e1
     exact ⟨g,0,rfl,h.cells rfl,.inr ⟨by omega,cur,h3⟩⟩
structure EachI {σ:Type} (I:σ→World→Prop) (w0:World) (NB X OB:Nat) (vf vo:Value) (hh:Nat) (cb:Array Value) (r:List Lv) (s:σ) (w:World):Prop where
 i:I s w
 f:w.heap[X]?=some (.cells #[vf] 27)
 o:w.heap[OB]?=some (.cells #[vo] 38)
 t:w.heap[X+2]?=some (.cells #[.func (.func hh) #[] cb] 139)
 b:BodyV w0 NB w vo r
 l:Below w0.heap.size w0 w
theorem EachI.kp {σ:Type} {I:σ→World→Prop} {w0:World} {NB X OB:Nat} {vf vo:Value} {hh:Nat} {cb:Array Value} {r:List Lv} {s s':σ} {w w':World} (h:EachI I w0 NB X OB vf vo hh cb r s w) (hX:NB<X) (hO:NB<OB) (hi:I s' w') (hK:Kp w0.heap.size NB w w'):EachI I w0 NB X OB vf vo hh cb r s' w' :=
 ⟨hi,hK.keep _ _ _ h.f (by omega) (by decide),hK.keep _ _ _ h.o (by omega) (by decide),hK.keep _ _ _ h.t (by omega) (by decide),h.b.kp hK,hK.below h.l⟩
theorem each1_any {σ:Type} {step:σ→Ru.Way→σ × Bool} {live:σ→Ru.Way→Prop} {I:σ→World→Prop} {NB hh X OB:Nat} {cb:Array Value} {facts:List Rl.Fc} {ru:Sc.Rule} {r:List Lv} {n cf co:Nat} {af ao:Option Addr} {w0:World}
 (TL:Tell w0.heap.size NB hh cb step live I)
 (IH:∀ (y:Ru.Way) (w:World) (s:σ),Below w0.heap.size w0 w→BodyV w0 NB w (.slice ao r.length co) r→Ru.Good ru.vars.toNat y→Ru.Left ru y.known (r.map (·.1))→I s w→Ru.Lv step live s (Ru.eachN facts n (r.map (·.1)) y)→Calls Tryz.prog 98 #[.slice af facts.length cf,.slice ao r.length co,wayVal y,.func (.func hh) #[] cb] w fun e w'=>e=.returned (.bool (Ru.run step s (Ru.eachN facts n (r.map (·.1)) y)).2)∧I (Ru.run step s (Ru.eachN facts n (r.map (·.1)) y)).1 w'∧Kp w0.heap.size NB w w')
 (hX:NB<X) (hO:NB<OB) (s:σ) (w:World) (x:Ru.Way) (hE:EachI I w0 NB X OB (.slice af facts.length cf) (.slice ao r.length co) hh cb r s w) (hlv:Ru.Lv step live s (Ru.eachN facts n (r.map (·.1)) x)) (hg:Ru.Good ru.vars.toNat x) (hl:Ru.Left ru x.known (r.map (·.1))) :
 Calls Tryz.prog 146 (#[wayVal x]++#[.pointer (some ⟨X,0,none⟩),.pointer (some ⟨OB,0,none⟩),.pointer (some ⟨X+2,0,none⟩)]) w fun e w'=>e=.returned (.bool (Ru.run step s (Ru.eachN facts n (r.map (·.1)) x)).2)∧EachI I w0 NB X OB (.slice af facts.length cf) (.slice ao r.length co) hh cb r (Ru.run step s (Ru.eachN facts n (r.map (·.1)) x)).1 w'∧Kp w0.heap.size NB w w':=by
 show Calls Tryz.prog 146 #[wayVal x,.pointer (some ⟨X,0,none⟩),.pointer (some ⟨OB,0,none⟩),.pointer (some ⟨X+2,0,none⟩)] w _
 have bT:=(Below.refl w.heap.size w).alloc (Nat.le_refl _) (.cells (wayArr x) 138)
 have HK:Hid (Kp w0.heap.size NB w (w.alloc (.cells (wayArr x) 138))):=Kp.of_below bT (TL.room _ _ hE.i).1
 have HE:Hid (EachI I w0 NB X OB (.slice af facts.length cf) (.slice ao r.length co) hh cb r s (w.alloc (.cells (wayArr x) 138))):=EachI.kp hE hX hO (TL.grow _ _ _ hE.i bT) HK.out
 have HW:Hid (WayAt (w.alloc (.cells (wayArr x) 138)) w.heap.size x):=heap_alloc_new w _
 have HC:Hid _:=IH x _ s HE.out.l HE.out.b hg hl HE.out.i hlv
 have hy:=hg.wf
 have c0:(w.alloc (.cells (wayArr x) 138)).cell? ⟨X,0,none⟩=some (.slice af facts.length cf):=by rw [Lib.cell_of_heap HE.out.f]; rfl
 have c1:(w.alloc (.cells (wayArr x) 138)).cell? ⟨OB,0,none⟩=some (.slice ao r.length co):=by rw [Lib.cell_of_heap HE.out.o]; rfl
 have c2:(w.alloc (.cells (wayArr x) 138)).cell? ⟨X+2,0,none⟩=some (.func (.func hh) #[] cb):=by rw [Lib.cell_of_heap HE.out.t]; rfl
 clear bT TL IH hE hlv hg hl
 generalize Ru.run step s (Ru.eachN facts n (r.map (·.1)) x)=R at *
 go_enter Tryz.func146,Tryz.ntmps146
 go_upto_region 1 with fail
 generalize w.alloc (.cells (wayArr x) 138)=w1 at *
 go_wp2_with (refine wpList_loadWay (wanted_none rfl) _ rfl _ rfl x HW.out hy ?_)
 refine Calls.mono HC.out ?_
 rintro e w4 ⟨he4,hI4,hK4⟩
 subst he4
 have HI4:Hid _:=hI4
 clear hI4 c0 c1 c2 HC
 go_wp2_with fail
 go_ret
 exact ⟨rfl,EachI.kp HE.out hX hO HI4.out hK4,HK.out.trans hK4⟩
theorem eachTell {σ:Type} {step:σ→Ru.Way→σ × Bool} {live:σ→Ru.Way→Prop} {I:σ→World→Prop} {NB hh X OB:Nat} {cb:Array Value} {facts:List Rl.Fc} {ru:Sc.Rule} {r:List Lv} {n cf co:Nat} {af ao:Option Addr} {w0:World}
 (TL:Tell w0.heap.size NB hh cb step live I)
 (IH:∀ (y:Ru.Way) (w:World) (s:σ),Below w0.heap.size w0 w→BodyV w0 NB w (.slice ao r.length co) r→Ru.Good ru.vars.toNat y→Ru.Left ru y.known (r.map (·.1))→I s w→Ru.Lv step live s (Ru.eachN facts n (r.map (·.1)) y)→Calls Tryz.prog 98 #[.slice af facts.length cf,.slice ao r.length co,wayVal y,.func (.func hh) #[] cb] w fun e w'=>e=.returned (.bool (Ru.run step s (Ru.eachN facts n (r.map (·.1)) y)).2)∧I (Ru.run step s (Ru.eachN facts n (r.map (·.1)) y)).1 w'∧Kp w0.heap.size NB w w')
 (hX:NB<X) (hO:NB<OB):Tell w0.heap.size NB 146 #[.pointer (some ⟨X,0,none⟩),.pointer (some ⟨OB,0,none⟩),.pointer (some ⟨X+2,0,none⟩)] (fun s x=>Ru.run step s (Ru.eachN facts n (r.map (·.1)) x)) (fun s x=>Ru.Lv step live s (Ru.eachN facts n (r.map (·.1)) x)∧Ru.Good ru.vars.toNat x∧Ru.Left ru x.known (r.map (·.1))) (EachI I w0 NB X OB (.slice af facts.length cf) (.slice ao r.length co) hh cb r) :=
 ⟨fun s w x hE hl _=>each1_any TL IH hX hO s w x hE hl.1 hl.2.1 hl.2.2,fun _ _ _ hE hb=>EachI.kp hE hX hO (TL.grow _ _ _ hE.i hb) (Kp.of_below hb (TL.room _ _ hE.i).1),fun _ _ hE=>TL.room _ _ hE.i⟩
end Go.Proofs.YthenjegmigeieaaGreat
