/- Own texts, one behind the other (part 4). -/
import Derived.Test.YthenjegmigeieaaBundleC
import Derived.Test.YthenjegmigeieaaRows
import Derived.Defers
import Derived.Recover
import Derived.RegionTactic
import Derived.ChangeAlike
import Derived.Shelf.SlSortCmp.NoneTotal
import Derived.Deep.Slices
import Derived.Orders
/- Package scope: names; the rules of a program. -/
namespace Go.Proofs.Ythenjegmigeieaa
open Go.RowKit

theorem name_check (s : List UInt8) : (Tr.check [⟨0, s, [], 0, []⟩] == 0) = Tr.isName s := by
  cases h : Tr.isName s <;> simp [Tr.check, Tr.many, Tr.ruleMany, Tr.litsMany, Tr.ruleOk, Tr.termsOk, Tr.foldOk, Tr.litsOk, h]

set_option maxRecDepth 100000 in
set_option maxHeartbeats 400000 in
theorem scName_any (s : List UInt8) (w : World) : Calls Try.prog 35 #[.string ⟨s.toArray⟩] w fun e w' => e = .returned (.bool (Tr.isName s)) ∧ Below w.heap.size w w' := by
  rw [← name_check]
  go_enter Try.func35, Try.ntmps35
  go_wp2_with fail
  have hV : RulesV (w.alloc (.cells #[.int .i64 0, .string ⟨s.toArray⟩, .slice none 0 0, .int .i64 0, .slice none 0 0] 85)) (.slice (some ⟨w.heap.size, 0, none⟩) 1 1) [⟨0, s, [], 0, []⟩] := by
    have hh := heap_alloc_new w (.cells #[.int .i64 0, .string ⟨s.toArray⟩, .slice none 0 0, .int .i64 0, .slice none 0 0] 85)
    refine ⟨some ⟨w.heap.size, 0, none⟩, 1, rfl, .inr ⟨w.heap.size, 0, rfl, fun i hi => ?_⟩⟩
    obtain rfl : i = 0 := by simpa using hi
    refine ⟨?_, ?_, ⟨_, ?_, ⟨none, 0, rfl, .inl rfl⟩⟩, ?_, _, ?_, ⟨none, 0, rfl, .inl rfl⟩⟩ <;> (rw [Lib.cell_of_heap hh]; rfl)
  refine Calls.mono (Check_any _ _ _ hV) ?_
  rintro e w1 ⟨rfl, hb1⟩
  have hb0 : Below w.heap.size w (w.alloc (.cells #[.int .i64 0, .string ⟨s.toArray⟩, .slice none 0 0, .int .i64 0, .slice none 0 0] 85)) := (Below.refl _ _).alloc (Nat.le_refl _) _
  go_wp2_with fail
  go_ret
  exact ⟨rfl, hb0.trans (hb1.mono hb0.size)⟩

/-- Two boxes that stand. -/
structure RB (w : World) (o1 o2 : Obj) (wr : World) : Prop where
  bel : Below w.heap.size w wr
  b1 : wr.heap[w.heap.size]? = some o1
  b2 : wr.heap[w.heap.size + 1]? = some o2
theorem RB.below {w wr w2 : World} {o1 o2 : Obj} (h : RB w o1 o2 wr) (hb : Below wr.heap.size wr w2) : RB w o1 o2 w2 :=
  ⟨h.bel.trans (hb.mono h.bel.size), (hb.block _ (heap_lt h.b1)).trans h.b1, (hb.block _ (heap_lt h.b2)).trans h.b2⟩
theorem RB.start (w : World) (o1 o2 : Obj) : RB w o1 o2 ((w.alloc o1).alloc o2) := ⟨below_two w _ _, (two_blocks (Below.refl _ _)).1, (two_blocks (Below.refl _ _)).2⟩
theorem RB.drew {w wr : World} {o1 o2 : Obj} (h : RB w o1 o2 wr) : RB w o1 o2 wr.drew := ⟨h.bel.drew, h.b1, h.b2⟩
theorem RB.drewN {w wr : World} {o1 o2 : Obj} (h : RB w o1 o2 wr) (n : Nat) : RB w o1 o2 (wr.drewN n) := ⟨below_drewN h.bel n, h.b1, h.b2⟩

theorem first_zero {α : Type} {f : α → Int} : ∀ {l : List α}, Sc.first f l = 0 → ∀ x, x ∈ l → f x = 0 := by
  intro l
  induction l with
  | nil => exact fun _ x hx => absurd hx (by simp)
  | cons a r ih =>
    intro h x hx
    rw [Sc.first] at h
    split at h
    · rename_i h0
      rcases List.mem_cons.mp hx with rfl | hx
      · exact h0
      · exact ih h x hx
    · rename_i h0
      exact absurd h h0
theorem litD_mem {l : List Sc.Lit} {i : Nat} (h : i < l.length) : Sc.litD l i ∈ l := by
  unfold Sc.litD
  rw [List.getD_eq_getElem?_getD, List.getElem?_eq_getElem h]
  exact List.getElem_mem h
theorem thn_both {a b : Int} (h : Sc.thn a b = 0) : a = 0 ∧ b = 0 := by
  unfold Sc.thn at h
  split at h
  · exact ⟨by assumption, h⟩
  · rename_i h0
    exact absurd h h0
theorem lit_good {ar : List Int} {vars : Int} {x : Sc.Lit} (h : Sc.litAll ar vars x = 0) (h0 : 0 ≤ vars) (hF : LitFit x) : LitGood vars.toNat x := by
  obtain ⟨h1, h2⟩ := thn_both h
  refine ⟨fun h4 => ?_, fun t ht => ?_, hF⟩
  · rw [Sc.litErr, if_neg (by rw [h4]; decide), if_neg (by rw [h4]; decide), if_pos h4] at h1
    split at h1
    · split at h1
      · exact absurd h1 (by decide)
      · rename_i hn
        exact Classical.byContradiction fun hne => hn (.inr hne)
    · exact absurd h1 (by decide)
  · have := first_zero h2 t ht
    unfold Sc.termErr Tr.between at this
    split at this
    · rename_i hb
      simp at hb
      omega
    · exact absurd this (by decide)

set_option maxRecDepth 100000 in
set_option maxHeartbeats 4000000 in
theorem checkRule_any (ar : List Int) (va vn vr : Value) (r : Sc.Rule) (vt vb : Value) (w : World) (hA : IntsV w va ar) (hT : PTermsV w vt r.terms) (hL : PLitsV w vb r.body) (hF : RuleFit r) :
    Calls Try.prog 37 #[progVal va vn vr, pruleVal r vt vb] w fun e w' => e = finE (Sc.ruleErr ar r) ∧ Below w.heap.size w w' := by
  obtain ⟨ao, cap, rfl, hA⟩ := hA
  obtain ⟨pred, ts, fold, body, vars⟩ := r
  have HT : Hid (PTermsV w vt ts) := hT
  have HL : Hid (PLitsV w vb body) := hL
  have HA : Hid (IntsV w (.slice ao ar.length cap) ar) := ⟨ao, cap, rfl, hA⟩
  have HFT : Hid (ts.length ≤ 9223372036854775807) := hF.1
  have HFB : Hid (∀ i, i < body.length → LitFit (Sc.litD body i)) := hF.2.2
  obtain ⟨at_, ct, rfl, _, _⟩ := hT
  obtain ⟨ab, cb, rfl, hLA⟩ := hL
  have hLA : PLitsAt w ab body := hLA
  simp only at HT HL
  clear hF
  have hR := RB.start w (.cells #[.slice ao ar.length cap, vn, vr] 26) (.cells #[.int .i64 pred, .slice at_ ts.length ct, .int .i64 fold, .slice ab body.length cb, .int .i64 vars] 48)
  have HE0 : Hid (Sc.ruleErr ar ⟨pred, ts, fold, body, vars⟩ = if Sc.isPred ar pred then
    Sc.thn (if (ts.length : Int) ≠ Sc.intD ar pred.toNat then 1 else 0) (
    Sc.thn (if Tr.between vars 0 8 then 0 else 3) (
    Sc.thn (Sc.termsErr vars ts) (
    Sc.thn (if Tr.between fold 0 4 then 0 else 7) (
    Sc.thn (if fold ≠ 0 ∧ (ts.length = 0 ∨ body.length = 0) then 1 else 0) (
    Sc.thn (if 4 < body.length then 2 else 0) (
    Sc.thn (Sc.first (Sc.litAll ar vars) body) (if Sc.safe ⟨pred, ts, fold, body, vars⟩ then 0 else 4)))))))
  else 5) := rfl
  cases g1 : Sc.isPred ar pred
  · have HV : Hid (Sc.ruleErr ar ⟨pred, ts, fold, body, vars⟩ = 5) := by show _ = _; rw [HE0.out, g1]; rfl
    clear HE0 hLA HT HL HA HFT HFB
    go_enter Try.func37, Try.ntmps37
    go_wp2_with fail
    refine (isPred_any ar ao cap vn vr pred _).mono ?_
    rintro e w2 ⟨he, hb2⟩
    rw [g1] at he
    subst he
    have hR := hR.below hb2
    go_wp2_with fail
    refine (refuse_yes 5 _).mono ?_
    rintro e w1 ⟨rfl, hb1⟩
    go_wp2_with fail
    exact ⟨rfl, by rw [HV.out]; rfl, hR.bel.trans (hb1.mono hR.bel.size)⟩
  · obtain ⟨k, rfl, hk⟩ := nat_of g1
    obtain ⟨b, off, rfl, hc⟩ := ints_at hA k hk
    have HC : Hid (∀ y, Below w.heap.size w y → y.cell? ⟨b, off + k, none⟩ = some (.int .i64 (Sc.intD ar k))) := fun y hy => cell_below hy hc
    clear hc hA
    rw [g1, if_pos rfl, Int.toNat_natCast] at HE0
    go_enter Try.func37, Try.ntmps37
    go_wp2_with fail
    refine (isPred_any ar _ cap vn vr k _).mono ?_
    rintro e w2 ⟨he, hb2⟩
    rw [g1] at he
    subst he
    have hR := hR.below hb2
    have hq := HC.out _ hR.bel
    clear hb2 HC
    go_wp2_with fail
    refine (refuse_no 5 _).mono ?_
    rintro e w1 ⟨rfl, rfl⟩
    have c1 : w1.cell? ⟨w.heap.size, 0, none⟩ = some (.slice (some ⟨b, off, none⟩) ar.length cap) := by rw [Lib.cell_of_heap hR.b1]; rfl
    have d0 : w1.cell? ⟨w.heap.size + 1, 0, none⟩ = some (.int .i64 k) := by rw [Lib.cell_of_heap hR.b2]; rfl
    have d1 : w1.cell? ⟨w.heap.size + 1, 1, none⟩ = some (.slice at_ ts.length ct) := by rw [Lib.cell_of_heap hR.b2]; rfl
    have d2 : w1.cell? ⟨w.heap.size + 1, 2, none⟩ = some (.int .i64 fold) := by rw [Lib.cell_of_heap hR.b2]; rfl
    have d3 : w1.cell? ⟨w.heap.size + 1, 3, none⟩ = some (.slice ab body.length cb) := by rw [Lib.cell_of_heap hR.b2]; rfl
    have d4 : w1.cell? ⟨w.heap.size + 1, 4, none⟩ = some (.int .i64 vars) := by rw [Lib.cell_of_heap hR.b2]; rfl
    go_upto_region 2 with fail
    cases g2 : ((ts.length : Int) != Sc.intD ar k)
    · have h2 : (ts.length : Int) = Sc.intD ar k := by simpa using g2
      rw [if_neg (by simp [h2]), Sc.thn_zero] at HE0
      go_region_held3 (fun y => y.cell? ⟨w.heap.size, 0, none⟩ = some (.slice (some ⟨b, off, none⟩) ar.length cap) ∧ y.cell? ⟨w.heap.size + 1, 0, none⟩ = some (.int .i64 k) ∧ y.cell? ⟨w.heap.size + 1, 1, none⟩ = some (.slice at_ ts.length ct) ∧ y.cell? ⟨b, off + k, none⟩ = some (.int .i64 (Sc.intD ar k))) (go_keep) ((go_at_call 34; refine Calls.mono (refuse_no 1 _) ?_; rintro e y ⟨rfl, rfl⟩))
      have hR := hR.drew
      clear c1 d0 d1 d2 d3 d4 h2 hq
      generalize w1.drew = wd at *
      have c1 : wd.cell? ⟨w.heap.size, 0, none⟩ = some (.slice (some ⟨b, off, none⟩) ar.length cap) := by rw [Lib.cell_of_heap hR.b1]; rfl
      have d0 : wd.cell? ⟨w.heap.size + 1, 0, none⟩ = some (.int .i64 k) := by rw [Lib.cell_of_heap hR.b2]; rfl
      have d1 : wd.cell? ⟨w.heap.size + 1, 1, none⟩ = some (.slice at_ ts.length ct) := by rw [Lib.cell_of_heap hR.b2]; rfl
      have d2 : wd.cell? ⟨w.heap.size + 1, 2, none⟩ = some (.int .i64 fold) := by rw [Lib.cell_of_heap hR.b2]; rfl
      have d3 : wd.cell? ⟨w.heap.size + 1, 3, none⟩ = some (.slice ab body.length cb) := by rw [Lib.cell_of_heap hR.b2]; rfl
      have d4 : wd.cell? ⟨w.heap.size + 1, 4, none⟩ = some (.int .i64 vars) := by rw [Lib.cell_of_heap hR.b2]; rfl
      by_cases h3 : vars < 0
      · have HV : Hid (Sc.ruleErr ar ⟨k, ts, fold, body, vars⟩ = 3) := by show _ = _; rw [HE0.out, if_neg (by simp [Tr.between]; omega)]; rfl
        have g3 : decide (vars < 0) = true := decide_eq_true h3
        clear HE0
        go_wp2_with fail
        refine (refuse_yes 3 _).mono ?_
        rintro e w1 ⟨rfl, hb1⟩
        go_wp2_with fail
        exact ⟨rfl, by rw [HV.out]; rfl, hR.bel.trans (hb1.mono hR.bel.size)⟩
      have g3 : decide (vars < 0) = false := decide_eq_false h3
      by_cases h3b : 8 < vars
      · have HV : Hid (Sc.ruleErr ar ⟨k, ts, fold, body, vars⟩ = 3) := by show _ = _; rw [HE0.out, if_neg (by simp [Tr.between]; omega)]; rfl
        have g3b : decide (8 < vars) = true := decide_eq_true h3b
        clear HE0
        go_wp2_with fail
        refine (refuse_yes 3 _).mono ?_
        rintro e w1 ⟨rfl, hb1⟩
        go_wp2_with fail
        exact ⟨rfl, by rw [HV.out]; rfl, hR.bel.trans (hb1.mono hR.bel.size)⟩
      have g3b : decide (8 < vars) = false := decide_eq_false h3b
      rw [if_pos (show Tr.between vars 0 8 = true by simp [Tr.between]; omega), Sc.thn_zero] at HE0
      go_wp2_with fail
      refine (refuse_no 3 _).mono ?_
      rintro e w1 ⟨rfl, rfl⟩
      go_wp2_with fail
      refine Calls.mono (checkTerms_any ts vars _ _ HFT.out (ptermsV_below HT.out hR.bel)) ?_
      rintro e w3 ⟨he, hb3⟩
      by_cases h4 : Sc.termsErr vars ts = 0
      rotate_left
      · have HV : Hid (Sc.ruleErr ar ⟨k, ts, fold, body, vars⟩ = Sc.termsErr vars ts) := by show _ = _; rw [HE0.out, Sc.thn_ne _ h4]
        rw [finE_ne h4] at he
        subst he
        clear HE0
        go_wp2_with fail
        exact ⟨rfl, by rw [HV.out, finE_ne h4], hR.bel.trans (hb3.mono hR.bel.size)⟩
      rw [h4, finE_zero] at he
      subst he
      rw [h4, Sc.thn_zero] at HE0
      have hR := hR.below hb3
      clear c1 d0 d1 d2 d3 d4 hb3 h4 HFT
      have c1 : w3.cell? ⟨w.heap.size, 0, none⟩ = some (.slice (some ⟨b, off, none⟩) ar.length cap) := by rw [Lib.cell_of_heap hR.b1]; rfl
      have d0 : w3.cell? ⟨w.heap.size + 1, 0, none⟩ = some (.int .i64 k) := by rw [Lib.cell_of_heap hR.b2]; rfl
      have d1 : w3.cell? ⟨w.heap.size + 1, 1, none⟩ = some (.slice at_ ts.length ct) := by rw [Lib.cell_of_heap hR.b2]; rfl
      have d2 : w3.cell? ⟨w.heap.size + 1, 2, none⟩ = some (.int .i64 fold) := by rw [Lib.cell_of_heap hR.b2]; rfl
      have d3 : w3.cell? ⟨w.heap.size + 1, 3, none⟩ = some (.slice ab body.length cb) := by rw [Lib.cell_of_heap hR.b2]; rfl
      have d4 : w3.cell? ⟨w.heap.size + 1, 4, none⟩ = some (.int .i64 vars) := by rw [Lib.cell_of_heap hR.b2]; rfl
      by_cases h5 : fold < 0
      · have HV : Hid (Sc.ruleErr ar ⟨k, ts, fold, body, vars⟩ = 7) := by show _ = _; rw [HE0.out, if_neg (by simp [Tr.between]; omega)]; rfl
        have g5 : decide (fold < 0) = true := decide_eq_true h5
        clear HE0
        go_wp2_with fail
        refine (refuse_yes 7 _).mono ?_
        rintro e w1 ⟨rfl, hb1⟩
        go_wp2_with fail
        exact ⟨rfl, by rw [HV.out]; rfl, hR.bel.trans (hb1.mono hR.bel.size)⟩
      have g5 : decide (fold < 0) = false := decide_eq_false h5
      by_cases h5b : 4 < fold
      · have HV : Hid (Sc.ruleErr ar ⟨k, ts, fold, body, vars⟩ = 7) := by show _ = _; rw [HE0.out, if_neg (by simp [Tr.between]; omega)]; rfl
        have g5b : decide (4 < fold) = true := decide_eq_true h5b
        clear HE0
        go_wp2_with fail
        refine (refuse_yes 7 _).mono ?_
        rintro e w1 ⟨rfl, hb1⟩
        go_wp2_with fail
        exact ⟨rfl, by rw [HV.out]; rfl, hR.bel.trans (hb1.mono hR.bel.size)⟩
      have g5b : decide (4 < fold) = false := decide_eq_false h5b
      rw [if_pos (show Tr.between fold 0 4 = true by simp [Tr.between]; omega), Sc.thn_zero] at HE0
      go_wp2_with fail
      refine (refuse_no 7 _).mono ?_
      rintro e w1 ⟨rfl, rfl⟩
      go_upto_region 6 with fail
      by_cases h6 : fold ≠ 0 ∧ (ts.length = 0 ∨ body.length = 0)
      · have HV : Hid (Sc.ruleErr ar ⟨k, ts, fold, body, vars⟩ = 1) := by show _ = _; rw [HE0.out, if_pos h6]; rfl
        clear HE0
        have g6 : (fold != 0) = true := by simpa using h6.1
        by_cases h7 : ts.length = 0
        · have g7 : ((ts.length : Int) == 0) = true := by simp [h7]
          clear h6 h7
          go_wp2_with fail
          refine (refuse_yes 1 _).mono ?_
          rintro e w1 ⟨rfl, hb1⟩
          go_wp2_with fail
          exact ⟨rfl, by rw [HV.out]; rfl, hR.bel.trans (hb1.mono hR.bel.size)⟩
        · have g7 : ((ts.length : Int) == 0) = false := by simp; exact fun e => h7 (by rw [e]; rfl)
          have h8 : body.length = 0 := h6.2.resolve_left h7
          have g8 : ((body.length : Int) == 0) = true := by simp [h8]
          clear h6 h7 h8
          go_wp2_with fail
          refine (refuse_yes 1 _).mono ?_
          rintro e w1 ⟨rfl, hb1⟩
          go_wp2_with fail
          exact ⟨rfl, by rw [HV.out]; rfl, hR.bel.trans (hb1.mono hR.bel.size)⟩
      rw [if_neg h6, Sc.thn_zero] at HE0
      go_cut [] (fun wx => wx = w1)
      case first =>
        cases g6 : (fold != 0)
        · clear h6
          go_wp2_with fail
          refine (refuse_no 1 _).mono ?_
          rintro e w5 ⟨rfl, rfl⟩
          go_wp2_with fail
          go_meet
          rfl
        · have h9 : ¬ (ts.length = 0 ∨ body.length = 0) := fun h => h6 ⟨by simpa using g6, h⟩
          have g7 : ((ts.length : Int) == 0) = false := by simp; exact fun e => h9 (.inl (by rw [e]; rfl))
          have g8 : ((body.length : Int) == 0) = false := by simp; exact fun e => h9 (.inr (by rw [e]; rfl))
          clear h6 h9
          go_wp2_with fail
          refine (refuse_no 1 _).mono ?_
          rintro e w5 ⟨rfl, rfl⟩
          go_wp2_with fail
          go_meet
          rfl
      case rest =>
        subst hcut
        clear h6
        by_cases h8 : 4 < body.length
        · have HV : Hid (Sc.ruleErr ar ⟨k, ts, fold, body, vars⟩ = 2) := by show _ = _; rw [HE0.out, if_pos h8]; rfl
          have g8 : decide (4 < body.length) = true := decide_eq_true h8
          have g8' : decide ((4 : Int) < (body.length : Int)) = true := decide_eq_true (by omega)
          clear HE0
          go_wp2_with fail
          refine (refuse_yes 2 _).mono ?_
          rintro e w1 ⟨rfl, hb1⟩
          go_wp2_with fail
          exact ⟨rfl, by rw [HV.out]; rfl, hR.bel.trans (hb1.mono hR.bel.size)⟩
        have g8 : decide (4 < body.length) = false := decide_eq_false h8
        have g8' : decide ((4 : Int) < (body.length : Int)) = false := decide_eq_false (by omega)
        rw [if_neg h8, Sc.thn_zero] at HE0
        go_wp2_with fail
        refine (refuse_no 2 _).mono ?_
        rintro e w1 ⟨rfl, rfl⟩
        go_wp2_with fail
        clear c1 d0 d1 d2 d3 d4
        go_loopw [70] (fun i wr => ∃ j : Nat, j ≤ body.length ∧ i = .int .i64 j ∧ RB w (.cells #[.slice (some ⟨b, off, none⟩) ar.length cap, vn, vr] 26) (.cells #[.int .i64 k, .slice at_ ts.length ct, .int .i64 fold, .slice ab body.length cb, .int .i64 vars] 48) wr ∧ Sc.first (Sc.litAll ar vars) body = Sc.first (Sc.litAll ar vars) (body.drop j)) (fun i _ => body.length - (intOf i).toNat)
        case atStart => exact ⟨0, Nat.zero_le _, rfl, hR, rfl⟩
        case round =>
          clear hR
          obtain ⟨j, hj, rfl, hR, hfj⟩ := hrel
          have HFJ : Hid _ := hfj
          clear hfj
          have c1 : wr.cell? ⟨w.heap.size, 0, none⟩ = some (.slice (some ⟨b, off, none⟩) ar.length cap) := by rw [Lib.cell_of_heap hR.b1]; rfl
          have d0 : wr.cell? ⟨w.heap.size + 1, 0, none⟩ = some (.int .i64 k) := by rw [Lib.cell_of_heap hR.b2]; rfl
          have d1 : wr.cell? ⟨w.heap.size + 1, 1, none⟩ = some (.slice at_ ts.length ct) := by rw [Lib.cell_of_heap hR.b2]; rfl
          have d2 : wr.cell? ⟨w.heap.size + 1, 2, none⟩ = some (.int .i64 fold) := by rw [Lib.cell_of_heap hR.b2]; rfl
          have d3 : wr.cell? ⟨w.heap.size + 1, 3, none⟩ = some (.slice ab body.length cb) := by rw [Lib.cell_of_heap hR.b2]; rfl
          have d4 : wr.cell? ⟨w.heap.size + 1, 4, none⟩ = some (.int .i64 vars) := by rw [Lib.cell_of_heap hR.b2]; rfl
          have c2 : wr.cell? ⟨w.heap.size, 1, none⟩ = some vn := by rw [Lib.cell_of_heap hR.b1]; rfl
          have c3 : wr.cell? ⟨w.heap.size, 2, none⟩ = some vr := by rw [Lib.cell_of_heap hR.b1]; rfl
          by_cases hjl : j < body.length
          · obtain ⟨b3, off3, rfl, p0, p1, p2, v, p3, hTv⟩ := plits_at hLA j hjl
            have HTV : Hid (PTermsV w v (Sc.litD body j).terms) := hTv
            obtain ⟨av, cv, rfl, _, _⟩ := hTv
            have q0 := cell_below hR.bel p0
            have q1 := cell_below hR.bel p1
            have q2 := cell_below hR.bel p2
            have q3 := cell_below hR.bel p3
            have HFD : Hid (Sc.first (Sc.litAll ar vars) body = Sc.thn (Sc.litAll ar vars (Sc.litD body j)) (Sc.first (Sc.litAll ar vars) (body.drop (j + 1)))) := HFJ.out.trans (Sc.first_drop _ _ _ j hjl)
            have HFI : Hid (LitFit (Sc.litD body j)) := HFB.out j hjl
            have hb1 : Below wr.heap.size wr (wr.alloc (.cells #[.int .i64 (Sc.litD body j).kind, .int .i64 (Sc.litD body j).op, .int .i64 (Sc.litD body j).pred, .slice av (Sc.litD body j).terms.length cv] 52)) := (Below.refl _ _).alloc (Nat.le_refl _) _
            have hlb := heap_alloc_new wr (.cells #[.int .i64 (Sc.litD body j).kind, .int .i64 (Sc.litD body j).op, .int .i64 (Sc.litD body j).pred, .slice av (Sc.litD body j).terms.length cv] 52)
            have hR1 := hR.below hb1
            clear p0 p1 p2 p3 hb1 HFJ hLA HL
            generalize hx : Sc.litD body j = x at *
            clear hx c1 c2 c3
            have c1 : (wr.alloc (.cells #[.int .i64 x.kind, .int .i64 x.op, .int .i64 x.pred, .slice av x.terms.length cv] 52)).cell? ⟨w.heap.size, 0, none⟩ = some (.slice (some ⟨b, off, none⟩) ar.length cap) := by rw [Lib.cell_of_heap hR1.b1]; rfl
            have c2 : (wr.alloc (.cells #[.int .i64 x.kind, .int .i64 x.op, .int .i64 x.pred, .slice av x.terms.length cv] 52)).cell? ⟨w.heap.size, 1, none⟩ = some vn := by rw [Lib.cell_of_heap hR1.b1]; rfl
            have c3 : (wr.alloc (.cells #[.int .i64 x.kind, .int .i64 x.op, .int .i64 x.pred, .slice av x.terms.length cv] 52)).cell? ⟨w.heap.size, 2, none⟩ = some vr := by rw [Lib.cell_of_heap hR1.b1]; rfl
            go_wp2_with fail
            refine Calls.mono (checkLit_any ar _ vn vr x _ _ (intsV_below HA.out hR1.bel) ⟨_, _, rfl⟩) ?_
            rintro e w2 ⟨he, hb2⟩
            by_cases h9 : Sc.litErr ar x = 0
            rotate_left
            · have HV : Hid (Sc.ruleErr ar ⟨k, ts, fold, body, vars⟩ = Sc.litErr ar x) := by show _ = _; rw [HE0.out, HFD.out, Sc.litAll, Sc.thn_ne _ h9, Sc.thn_ne _ h9, Sc.thn_ne _ h9]
              rw [finE_ne h9] at he
              subst he
              clear HE0 HFD
              go_wp2_with fail
              exact ⟨rfl, by rw [HV.out, finE_ne h9], hR1.bel.trans (hb2.mono hR1.bel.size)⟩
            rw [h9, finE_zero] at he
            subst he
            have hR2 := hR1.below hb2
            have hlb2 := (hb2.block _ (heap_lt hlb)).trans hlb
            have l3 : w2.cell? ⟨wr.heap.size, 3, none⟩ = some (.slice av x.terms.length cv) := by rw [Lib.cell_of_heap hlb2]; rfl
            have d4' : w2.cell? ⟨w.heap.size + 1, 4, none⟩ = some (.int .i64 vars) := by rw [Lib.cell_of_heap hR2.b2]; rfl
            clear hlb hlb2 hb2 hR1 q0 q1 q2 q3 c1 d0 d1 d2 d3 d4 c2 c3
            go_wp2_with fail
            refine Calls.mono (checkTerms_any x.terms vars _ _ HFI.out (ptermsV_below HTV.out hR2.bel)) ?_
            rintro e w3 ⟨he, hb3⟩
            by_cases h10 : Sc.termsErr vars x.terms = 0
            rotate_left
            · have HV : Hid (Sc.ruleErr ar ⟨k, ts, fold, body, vars⟩ = Sc.termsErr vars x.terms) := by show _ = _; rw [HE0.out, HFD.out, Sc.litAll, h9, Sc.thn_zero, Sc.thn_ne _ h10, Sc.thn_ne _ h10]
              rw [finE_ne h10] at he
              subst he
              clear HE0 HFD
              go_wp2_with fail
              exact ⟨rfl, by rw [HV.out, finE_ne h10], hR2.bel.trans (hb3.mono hR2.bel.size)⟩
            rw [h10, finE_zero] at he
            subst he
            have hR3 := hR2.below hb3
            have HV : Hid (Sc.first (Sc.litAll ar vars) body = Sc.first (Sc.litAll ar vars) (body.drop (j + 1))) := by show _ = _; rw [HFD.out, Sc.litAll, h9, Sc.thn_zero, h10, Sc.thn_zero]
            clear HFD HTV HFI hb3 h9 h10 l3 d4' hR2
            go_wp2_with fail
            go_roundw
            case rel => exact ⟨j + 1, by omega, by go_num, hR3, HV.out⟩
            case measure => simp [intOf]; omega
          · have hz : Sc.first (Sc.litAll ar vars) body = 0 := by rw [HFJ.out, List.drop_of_length_le (by omega)]; rfl
            have hgood : RuleGood ⟨k, ts, fold, body, vars⟩ := ⟨by show 0 ≤ vars; omega, by show vars ≤ 8; omega, by show body.length ≤ 4; omega, fun i hi => lit_good (first_zero hz _ (litD_mem hi)) (by show 0 ≤ vars; omega) (HFB.out i hi)⟩
            rw [hz, Sc.thn_zero] at HE0
            clear HFJ hz hLA
            go_wp2_with fail
            refine Calls.mono (isSafe_any ⟨k, ts, fold, body, vars⟩ _ _ _ (plitsV_below HL.out hR.bel) hgood) ?_
            rintro e w2 ⟨he, hb2⟩
            have hR := hR.below hb2
            cases h11 : Sc.safe ⟨k, ts, fold, body, vars⟩
            · rw [h11] at he HE0
              subst he
              have HV : Hid (Sc.ruleErr ar ⟨k, ts, fold, body, vars⟩ = 4) := by show _ = _; rw [HE0.out]; rfl
              clear HE0 hgood h11
              go_wp2_with fail
              refine (refuse_yes 4 _).mono ?_
              rintro e w1 ⟨rfl, hb1⟩
              go_wp2_with fail
              exact ⟨rfl, by rw [HV.out]; rfl, hR.bel.trans (hb1.mono hR.bel.size)⟩
            · rw [h11] at he HE0
              subst he
              have HV : Hid (Sc.ruleErr ar ⟨k, ts, fold, body, vars⟩ = 0) := by show _ = _; rw [HE0.out]; rfl
              clear HE0 hgood h11
              go_wp2_with fail
              refine (refuse_no 4 _).mono ?_
              rintro e w1 ⟨rfl, rfl⟩
              go_wp2_with fail
              exact ⟨rfl, .tuple #[], by simp [results, Try.results37], by rw [HV.out]; rfl, hR.bel⟩
    · have h2 : ¬ (ts.length : Int) = Sc.intD ar k := by simpa using g2
      have HV : Hid (Sc.ruleErr ar ⟨k, ts, fold, body, vars⟩ = 1) := by show _ = _; rw [HE0.out, if_pos h2]; rfl
      have hb02 := hR.bel
      clear HE0 h2
      refine wp_region_held_drew (S := (fun y => y.cell? ⟨w.heap.size, 0, none⟩ = some (.slice (some ⟨b, off, none⟩) ar.length cap) ∧ y.cell? ⟨w.heap.size + 1, 0, none⟩ = some (.int .i64 k) ∧ y.cell? ⟨w.heap.size + 1, 1, none⟩ = some (.slice at_ ts.length ct) ∧ y.cell? ⟨b, off + k, none⟩ = some (.int .i64 (Sc.intD ar k)))) (by kernel_rfl) (by go_keep) (fun hHeld => ?_)
      refine wpAnyH_take (i := 0) (v := ?v0x0) rfl (by kernel_rfl) (by kernel_rfl) (by kernel_rfl) (fun _ _ _ h => h) (Or.inl ⟨by rfl, ?hy0x0⟩) (by assumption) ?_
      case hy0x0 =>
        intro w hSw
        (try dsimp only at hSw)
        go_simp
        try with_reducible rfl
      try simp only [Act.put, List.setIfInBounds_toArray]
      refine wpAnyH_take (i := 1) (v := ?v1x1) rfl (by kernel_rfl) (by kernel_rfl) (by kernel_rfl) (fun _ _ _ h => h) (Or.inl ⟨by rfl, ?hy1x1⟩) (by assumption) ?_
      case hy1x1 =>
        intro w hSw
        (try dsimp only at hSw)
        go_simp
        try with_reducible rfl
      try simp only [Act.put]
      refine wpAnyH_take (i := 2) (v := ?v2x2) rfl (by kernel_rfl) (by kernel_rfl) (by kernel_rfl) (fun _ _ _ h => h) (Or.inl ⟨by rfl, ?hy2x2⟩) (by assumption) ?_
      case hy2x2 =>
        intro w hSw
        (try dsimp only at hSw)
        go_simp
        try with_reducible rfl
      try simp only [Act.put]
      refine wpAnyH_take (i := 3) (v := ?v3x3) rfl (by kernel_rfl) (by kernel_rfl) (by kernel_rfl) (fun _ _ _ h => h) (Or.inl ⟨by rfl, ?hy3x3⟩) (by assumption) ?_
      case hy3x3 =>
        intro w hSw
        (try dsimp only at hSw)
        go_simp
        try with_reducible rfl
      try simp only [Act.put]
      refine wpAnyH_take (i := 4) (v := ?v4x4) rfl (by kernel_rfl) (by kernel_rfl) (by kernel_rfl) (fun _ _ _ h => h) (Or.inl ⟨by rfl, ?hy4x4⟩) (by assumption) ?_
      case hy4x4 =>
        intro w hSw
        (try dsimp only at hSw)
        go_simp
        try with_reducible rfl
      try simp only [Act.put]
      refine wpAnyH_take (i := 5) (v := ?v5x5) rfl (by kernel_rfl) (by kernel_rfl) (by kernel_rfl) (fun _ _ _ h => h) (Or.inl ⟨by rfl, ?hy5x5⟩) (by assumption) ?_
      case hy5x5 =>
        intro w hSw
        (try dsimp only at hSw)
        go_simp
        try with_reducible rfl
      try simp only [Act.put]
      refine wpAnyH_take (i := 6) (v := ?v6x6) rfl (by kernel_rfl) (by kernel_rfl) (by kernel_rfl) (fun _ _ _ h => h) (Or.inl ⟨by rfl, ?hy6x6⟩) (by assumption) ?_
      case hy6x6 =>
        intro w hSw
        (try dsimp only at hSw)
        go_simp
        try with_reducible rfl
      try simp only [Act.put]
      refine wpAnyH_take (i := 7) (v := ?v7x7) rfl (by kernel_rfl) (by kernel_rfl) (by kernel_rfl) (fun _ _ _ h => h) (Or.inl ⟨by rfl, ?hy7x7⟩) (by assumption) ?_
      case hy7x7 =>
        intro w hSw
        (try dsimp only at hSw)
        go_simp
        try with_reducible rfl
      try simp only [Act.put]
      refine wpAnyH_take (i := 8) (v := ?v8x8) rfl (by kernel_rfl) (by kernel_rfl) (by kernel_rfl) (fun _ _ _ h => h) (Or.inl ⟨by rfl, ?hy8x8⟩) (by assumption) ?_
      case hy8x8 =>
        intro w hSw
        (try dsimp only at hSw)
        go_simp
        try with_reducible rfl
      try simp only [Act.put]
      refine wpAnyH_take (i := 9) (v := ?v9x9) rfl (by kernel_rfl) (by kernel_rfl) (by kernel_rfl) (fun _ _ _ h => h) (Or.inl ⟨by rfl, ?hy9x9⟩) (by assumption) ?_
      case hy9x9 =>
        intro w hSw
        (try dsimp only at hSw)
        go_simp
        try with_reducible rfl
      try simp only [Act.put]
      refine wpAnyH_ready (rs := [10]) (by kernel_rfl) (by simp) ?_
      refine AllReadyH.cons rfl (fun K hK => ?_) AllReadyH.nil
      go_simp
      go_at_call 34
      refine Calls.mono (refuse_yes 1 _) ?_
      rintro e y2 ⟨rfl, hb4⟩
      exact ⟨rfl, by rw [HV.out]; rfl, hb02.drew.trans (hb4.mono hb02.size)⟩


end Go.Proofs.Ythenjegmigeieaa

/- Package scope: a program, whole. -/
namespace Go.Proofs.Ythenjegmigeieaa
open Go.RowKit

/-- What stands while check goes on. -/
structure CB (w : World) (o : Obj) (M : Nat) (ns : List (List UInt8)) (wr : World) : Prop where
  bel : Below w.heap.size w wr
  box : wr.heap[w.heap.size]? = some o
  num : NumAt wr M ns
  lt : w.heap.size < M
theorem CB.below {w wr w2 : World} {o : Obj} {M : Nat} {ns : List (List UInt8)} (h : CB w o M ns wr) (hb : Below wr.heap.size wr w2) : CB w o M ns w2 :=
  ⟨h.bel.trans (hb.mono h.bel.size), (hb.block _ (heap_lt h.box)).trans h.box, h.num.below hb, h.lt⟩
theorem CB.of {w wr w2 : World} {o : Obj} {M : Nat} {ns ns' : List (List UInt8)} (h : CB w o M ns wr) (hg : wr.grownBy w2 (some M)) (hn : NumAt w2 M ns') : CB w o M ns' w2 := by
  have hlt := h.lt
  have hs := h.bel.size
  exact ⟨⟨hg.os.trans h.bel.os, hg.tape.trans h.bel.tape, hg.output.trans h.bel.output, Nat.le_trans hs hg.size, fun k hk => (hg.block k (Nat.lt_of_lt_of_le hk hs) (fun e => by injection e; omega)).trans (h.bel.block k hk)⟩,
    (hg.block _ (heap_lt h.box) (fun e => by injection e; omega)).trans h.box, hn, hlt⟩
theorem CB.start (w : World) (o : Obj) : CB w o (w.heap.size + 1) [] ((w.alloc o).alloc (.map #[] 0)) := by
  have h := two_blocks (w := w) (o1 := o) (o2 := .map #[] 0) (Below.refl _ _)
  have hn := numAt_made (w.alloc o)
  rw [show (w.alloc o).heap.size = w.heap.size + 1 by simp] at hn
  exact ⟨below_two w _ _, h.1, hn, by omega⟩
theorem strs_at {w : World} {ao : Option Addr} {l : List (List UInt8)} (h : StrsAt w ao l) (n : Nat) (hn : n < l.length) : ∃ b off, ao = some ⟨b, off, none⟩ ∧ w.cell? ⟨b, off + n, none⟩ = some (.string ⟨(Sc.strD l n).toArray⟩) := by
  rcases h with h | ⟨b, off, ha, hc⟩
  · rw [h] at hn; exact absurd hn (by simp)
  · exact ⟨b, off, ha, hc n hn⟩
theorem prules_at {w : World} {ao : Option Addr} {l : List Sc.Rule} (h : PRulesAt w ao l) (n : Nat) (hn : n < l.length) : ∃ b off, ao = some ⟨b, off, none⟩ ∧ PRuleIn w b (off + n * 5) (Sc.ruleD l n) := by
  rcases h with h | ⟨b, off, ha, hc⟩
  · rw [h] at hn; exact absurd hn (by simp)
  · exact ⟨b, off, ha, hc n hn⟩
theorem pred_drop (ar : List Int) (ns : List (List UInt8)) (j : Nat) (h : j < ns.length) : Sc.first (Sc.predErr ar ns) ((List.range ns.length).drop j) = Sc.thn (Sc.predErr ar ns j) (Sc.first (Sc.predErr ar ns) ((List.range ns.length).drop (j + 1))) := by
  rw [Sc.first_drop _ 0 _ j (by simpa using h)]
  congr 2
  simp [h]
theorem take_step (ns : List (List UInt8)) (j : Nat) (h : j < ns.length) : ns.take j ++ [Sc.strD ns j] = ns.take (j + 1) := by
  rw [List.take_succ_eq_append_getElem h]
  simp [Sc.strD, List.getD_eq_getElem?_getD, h]
theorem idx_lt {x : List UInt8} {l : List (List UInt8)} (h : l.contains x = true) : l.idxOf x < l.length := List.idxOf_lt_length_iff.mpr (by simpa using h)

set_option maxRecDepth 100000 in
set_option maxHeartbeats 4000000 in
theorem scCheck_any (p : Sc.Prog) (va vn vr : Value) (w : World) (hP : ProgV w va vn vr p) (hF : ProgFit p) :
    Calls Try.prog 25 #[progVal va vn vr] w fun e w' => e = finE (Sc.check p) ∧ Below w.heap.size w w' := by
  obtain ⟨ar, ns, rs⟩ := p
  obtain ⟨hA, hN, hL⟩ := hP
  have HA : Hid (IntsV w va ar) := hA
  obtain ⟨ao, cap, rfl, hA⟩ := hA
  obtain ⟨an, cn, rfl, hN⟩ := hN
  obtain ⟨al, cl, rfl, hL⟩ := hL
  have hA : IntsAt w ao ar := hA
  have hN : StrsAt w an ns := hN
  have hL : PRulesAt w al rs := hL
  have HFR : Hid (∀ i, i < rs.length → RuleFit (Sc.ruleD rs i)) := hF.rs
  clear hF
  have hmm := @run_makeMap Try.prog
  have hb0 : Below w.heap.size w (w.alloc (.cells #[.slice ao ar.length cap, .slice an ns.length cn, .slice al rs.length cl] 26)) := (Below.refl _ _).alloc (Nat.le_refl _) _
  have HE0 : Hid (Sc.check ⟨ar, ns, rs⟩ = if 10 < ar.length ∨ 12 < rs.length then 2 else if ¬ ns.length = ar.length then 1 else Sc.thn (Sc.first (Sc.predErr ar ns) (List.range ns.length)) (Sc.first (Sc.ruleErr ar) rs)) := rfl
  by_cases h1 : 10 < ar.length
  · have HV : Hid (Sc.check ⟨ar, ns, rs⟩ = 2) := by show _ = _; rw [HE0.out, if_pos (.inl h1)]
    have g1 : decide (10 < ar.length) = true := decide_eq_true h1
    have g1' : decide ((10 : Int) < (ar.length : Int)) = true := decide_eq_true (by omega)
    clear HE0 hA hN hL
    go_enter Try.func25, Try.ntmps25
    go_wp2_with fail
    refine (refuse_yes 2 _).mono ?_
    rintro e w1 ⟨rfl, hb1⟩
    go_wp2_with fail
    exact ⟨rfl, by rw [HV.out]; rfl, hb0.trans (hb1.mono hb0.size)⟩
  have g1 : decide (10 < ar.length) = false := decide_eq_false h1
  have g1' : decide ((10 : Int) < (ar.length : Int)) = false := decide_eq_false (by omega)
  by_cases h2 : 12 < rs.length
  · have HV : Hid (Sc.check ⟨ar, ns, rs⟩ = 2) := by show _ = _; rw [HE0.out, if_pos (.inr h2)]
    have g2 : decide (12 < rs.length) = true := decide_eq_true h2
    have g2' : decide ((12 : Int) < (rs.length : Int)) = true := decide_eq_true (by omega)
    clear HE0 hA hN hL
    go_enter Try.func25, Try.ntmps25
    go_wp2_with fail
    refine (refuse_yes 2 _).mono ?_
    rintro e w1 ⟨rfl, hb1⟩
    go_wp2_with fail
    exact ⟨rfl, by rw [HV.out]; rfl, hb0.trans (hb1.mono hb0.size)⟩
  have g2 : decide (12 < rs.length) = false := decide_eq_false h2
  have g2' : decide ((12 : Int) < (rs.length : Int)) = false := decide_eq_false (by omega)
  rw [if_neg (fun h => h.elim h1 h2)] at HE0
  by_cases h3 : ns.length = ar.length
  rotate_left
  · have HV : Hid (Sc.check ⟨ar, ns, rs⟩ = 1) := by show _ = _; rw [HE0.out, if_pos h3]
    have g3 : ((ns.length : Int) != (ar.length : Int)) = true := by simp; omega
    have g3' : (ns.length != ar.length) = true := by simp; omega
    clear HE0 hA hN hL
    go_enter Try.func25, Try.ntmps25
    go_wp2_with fail
    refine (refuse_no 2 _).mono ?_
    rintro e w1 ⟨rfl, rfl⟩
    go_wp2_with fail
    refine (refuse_yes 1 _).mono ?_
    rintro e w1 ⟨rfl, hb1⟩
    go_wp2_with fail
    exact ⟨rfl, by rw [HV.out]; rfl, hb0.trans (hb1.mono hb0.size)⟩
  rw [if_neg (fun h => h h3)] at HE0
  have H3 : Hid (ns.length = ar.length) := h3
  have g3 : ((ns.length : Int) != (ar.length : Int)) = false := by simp; omega
  have g3' : (ns.length != ar.length) = false := by simp; omega
  have hst := CB.start w (.cells #[.slice ao ar.length cap, .slice an ns.length cn, .slice al rs.length cl] 26)
  have H10 : Hid (ns.length ≤ 10) := by show _ ≤ _; omega
  clear h3
  go_enter Try.func25, Try.ntmps25
  go_wp2_with fail
  refine (refuse_no 2 _).mono ?_
  rintro e w1 ⟨rfl, rfl⟩
  go_wp2_with fail
  refine (refuse_no 1 _).mono ?_
  rintro e w1 ⟨rfl, rfl⟩
  go_wp2_with fail
  generalize w.heap.size + 1 = M at *
  go_loopw [30] (fun i wr => ∃ j : Nat, j ≤ ns.length ∧ i = .int .i64 j ∧ CB w (.cells #[.slice ao ar.length cap, .slice an ns.length cn, .slice al rs.length cl] 26) M (ns.take j) wr ∧ Sc.first (Sc.predErr ar ns) (List.range ns.length) = Sc.first (Sc.predErr ar ns) ((List.range ns.length).drop j)) (fun i _ => ns.length - (intOf i).toNat)
  case atStart => exact ⟨0, Nat.zero_le _, rfl, hst, rfl⟩
  case round =>
    clear hst
    obtain ⟨j, hj, rfl, hR, hfj⟩ := hrel
    have HFJ : Hid _ := hfj
    clear hfj
    have c0 : wr.cell? ⟨w.heap.size, 0, none⟩ = some (.slice ao ar.length cap) := by rw [Lib.cell_of_heap hR.box]; rfl
    by_cases hjl : j < ns.length
    · obtain ⟨b, off, rfl, p0⟩ := strs_at hN j hjl
      have hja : j < ar.length := by rw [← H3.out]; exact hjl
      obtain ⟨b2, off2, rfl, p1⟩ := ints_at hA j hja
      have q0 := cell_below hR.bel p0
      have q1 := cell_below hR.bel p1
      have HFD : Hid (Sc.first (Sc.predErr ar ns) (List.range ns.length) = Sc.thn (Sc.predErr ar ns j) (Sc.first (Sc.predErr ar ns) ((List.range ns.length).drop (j + 1)))) := HFJ.out.trans (pred_drop ar ns j hjl)
      have HPE : Hid (Sc.predErr ar ns j = Sc.thn (if Tr.between (Sc.intD ar j) 0 3 then 0 else 3) (Sc.thn (if Tr.isName (Sc.strD ns j) then 0 else 1) (if (ns.take j).contains (Sc.strD ns j) then 6 else 0))) := rfl
      have HTS : Hid (ns.take j ++ [Sc.strD ns j] = ns.take (j + 1)) := take_step ns j hjl
      clear p0 p1 hA hN hL HFJ
      generalize Sc.intD ar j = a at *
      generalize Sc.strD ns j = s at *
      by_cases h4 : a < 0
      · have HV : Hid (Sc.check ⟨ar, ns, rs⟩ = 3) := by show _ = _; rw [HE0.out, HFD.out, HPE.out, if_neg (by simp [Tr.between]; omega)]; rfl
        have g4 : decide (a < 0) = true := decide_eq_true h4
        clear HE0 HFD HPE
        go_wp2_with fail
        refine (refuse_yes 3 _).mono ?_
        rintro e w1 ⟨rfl, hb1⟩
        go_wp2_with fail
        exact ⟨rfl, by rw [HV.out]; rfl, hR.bel.trans (hb1.mono hR.bel.size)⟩
      have g4 : decide (a < 0) = false := decide_eq_false h4
      by_cases h4b : 3 < a
      · have HV : Hid (Sc.check ⟨ar, ns, rs⟩ = 3) := by show _ = _; rw [HE0.out, HFD.out, HPE.out, if_neg (by simp [Tr.between]; omega)]; rfl
        have g4b : decide (3 < a) = true := decide_eq_true h4b
        clear HE0 HFD HPE
        go_wp2_with fail
        refine (refuse_yes 3 _).mono ?_
        rintro e w1 ⟨rfl, hb1⟩
        go_wp2_with fail
        exact ⟨rfl, by rw [HV.out]; rfl, hR.bel.trans (hb1.mono hR.bel.size)⟩
      have g4b : decide (3 < a) = false := decide_eq_false h4b
      rw [if_pos (show Tr.between a 0 3 = true by simp [Tr.between]; omega), Sc.thn_zero] at HPE
      go_wp2_with fail
      refine (refuse_no 3 _).mono ?_
      rintro e w1 ⟨rfl, rfl⟩
      go_wp2_with fail
      refine Calls.mono (scName_any s _) ?_
      rintro e w2 ⟨he, hb2⟩
      have hR2 := hR.below hb2
      cases h5 : Tr.isName s
      · rw [h5] at he
        subst he
        have HV : Hid (Sc.check ⟨ar, ns, rs⟩ = 1) := by show _ = _; rw [HE0.out, HFD.out, HPE.out, h5]; rfl
        clear HE0 HFD HPE
        go_wp2_with fail
        refine (refuse_yes 1 _).mono ?_
        rintro e w1 ⟨rfl, hb1⟩
        go_wp2_with fail
        exact ⟨rfl, by rw [HV.out]; rfl, hR2.bel.trans (hb1.mono hR2.bel.size)⟩
      rw [h5] at he
      subst he
      have h12 : s.length ≤ 5000 := by
        have : Tk.isTok 1 s = true := by
          unfold Tr.isName at h5
          simp at h5
          exact h5.1
        have := Tk.isTok_len _ _ this
        omega
      rw [h5, if_pos rfl, Sc.thn_zero] at HPE
      clear hR hb2 q0 q1 c0 h5
      go_wp2_with fail
      refine (refuse_no 1 _).mono ?_
      rintro e w1 ⟨rfl, rfl⟩
      go_wp2_with fail
      refine Calls.mono (of_any M (ns.take j) s _ hR2.num h12 (by have := H10.out; rw [List.length_take]; omega)) ?_
      rintro e w3 ⟨rfl, hn3, hg3⟩
      have hlt : (ns.take j).length = j := by rw [List.length_take]; omega
      cases h6 : (ns.take j).contains s
      · rw [h6, if_neg (by simp), HTS.out] at hn3
        have hR3 := hR2.of hg3 hn3
        have hix : (ns.take j).idxOf s = j := by rw [idx_none (by simpa using h6), hlt]
        rw [hix]
        have g6 : ((j : Int) != (j : Int)) = false := by simp
        have HV : Hid (Sc.first (Sc.predErr ar ns) (List.range ns.length) = Sc.first (Sc.predErr ar ns) ((List.range ns.length).drop (j + 1))) := by show _ = _; rw [HFD.out, HPE.out, h6]; rfl
        clear HFD HPE hn3 hg3 hR2 hix h6 hlt HTS
        go_wp2_with fail
        refine (refuse_no 6 _).mono ?_
        rintro e w1 ⟨rfl, rfl⟩
        go_wp2_with fail
        go_roundw
        case rel => exact ⟨j + 1, by omega, by go_num, hR3, HV.out⟩
        case measure => simp [intOf]; omega
      · rw [h6, if_pos rfl] at hn3
        have hR3 := hR2.of hg3 hn3
        have hix := idx_lt h6
        rw [hlt] at hix
        have g6 : (((ns.take j).idxOf s : Int) != (j : Int)) = true := by simp; omega
        have HV : Hid (Sc.check ⟨ar, ns, rs⟩ = 6) := by show _ = _; rw [HE0.out, HFD.out, HPE.out, h6]; rfl
        clear HFD HPE hn3 hg3 hR2 h6 HE0 HTS
        generalize (ns.take j).idxOf s = ix at *
        have g6' : (ix != j) = true := by simp; omega
        go_wp2_with fail
        refine (refuse_yes 6 _).mono ?_
        rintro e w1 ⟨rfl, hb1⟩
        go_wp2_with fail
        exact ⟨rfl, by rw [HV.out]; rfl, hR3.bel.trans (hb1.mono hR3.bel.size)⟩
    · have hz : Sc.first (Sc.predErr ar ns) (List.range ns.length) = 0 := by rw [HFJ.out, List.drop_of_length_le (by simp; omega)]; rfl
      rw [hz, Sc.thn_zero] at HE0
      generalize hj0 : j = j0 at *
      clear hj0
      have c2 : wr.cell? ⟨w.heap.size, 2, none⟩ = some (.slice al rs.length cl) := by rw [Lib.cell_of_heap hR.box]; rfl
      clear HFJ hz hA hN
      go_wp2_with fail
      go_loopw [64] (fun i wr => ∃ j : Nat, j ≤ rs.length ∧ i = .int .i64 j ∧ CB w (.cells #[.slice ao ar.length cap, .slice an ns.length cn, .slice al rs.length cl] 26) M (ns.take j0) wr ∧ Sc.first (Sc.ruleErr ar) rs = Sc.first (Sc.ruleErr ar) (rs.drop j)) (fun i _ => rs.length - (intOf i).toNat)
      case atStart => exact ⟨0, Nat.zero_le _, rfl, hR, rfl⟩
      case round =>
        clear hR c0 c2
        obtain ⟨j, hj, rfl, hR, hfj⟩ := hrel
        have HFJ : Hid _ := hfj
        clear hfj
        by_cases hjl : j < rs.length
        · obtain ⟨b, off, rfl, p0, ⟨vt, p1, hT⟩, p2, ⟨vb, p3, hB⟩, p4⟩ := prules_at hL j hjl
          have HT : Hid (PTermsV w vt (Sc.ruleD rs j).terms) := hT
          have HB : Hid (PLitsV w vb (Sc.ruleD rs j).body) := hB
          obtain ⟨at_, ct, rfl, _, _⟩ := hT
          obtain ⟨ab, cb, rfl, _⟩ := hB
          have q0 := cell_below hR.bel p0
          have q1 := cell_below hR.bel p1
          have q2 := cell_below hR.bel p2
          have q3 := cell_below hR.bel p3
          have q4 := cell_below hR.bel p4
          have HFD : Hid (Sc.first (Sc.ruleErr ar) rs = Sc.thn (Sc.ruleErr ar (Sc.ruleD rs j)) (Sc.first (Sc.ruleErr ar) (rs.drop (j + 1)))) := HFJ.out.trans (Sc.first_drop _ _ _ j hjl)
          have HFI : Hid (RuleFit (Sc.ruleD rs j)) := HFR.out j hjl
          have hb1 : Below wr.heap.size wr (wr.alloc (.cells #[.int .i64 (Sc.ruleD rs j).pred, .slice at_ (Sc.ruleD rs j).terms.length ct, .int .i64 (Sc.ruleD rs j).fold, .slice ab (Sc.ruleD rs j).body.length cb, .int .i64 (Sc.ruleD rs j).vars] 48)) := (Below.refl _ _).alloc (Nat.le_refl _) _
          have hR1 := hR.below hb1
          clear p0 p1 p2 p3 p4 HFJ hL hb1
          generalize hx : Sc.ruleD rs j = x at *
          clear hx
          have c0 : (wr.alloc (.cells #[.int .i64 x.pred, .slice at_ x.terms.length ct, .int .i64 x.fold, .slice ab x.body.length cb, .int .i64 x.vars] 48)).cell? ⟨w.heap.size, 0, none⟩ = some (.slice ao ar.length cap) := by rw [Lib.cell_of_heap hR1.box]; rfl
          have c1 : (wr.alloc (.cells #[.int .i64 x.pred, .slice at_ x.terms.length ct, .int .i64 x.fold, .slice ab x.body.length cb, .int .i64 x.vars] 48)).cell? ⟨w.heap.size, 1, none⟩ = some (.slice an ns.length cn) := by rw [Lib.cell_of_heap hR1.box]; rfl
          have c2 : (wr.alloc (.cells #[.int .i64 x.pred, .slice at_ x.terms.length ct, .int .i64 x.fold, .slice ab x.body.length cb, .int .i64 x.vars] 48)).cell? ⟨w.heap.size, 2, none⟩ = some (.slice (some ⟨b, off, none⟩) rs.length cl) := by rw [Lib.cell_of_heap hR1.box]; rfl
          go_wp2_with fail
          refine Calls.mono (checkRule_any ar _ _ _ x _ _ _ (intsV_below HA.out hR1.bel) (ptermsV_below HT.out hR1.bel) (plitsV_below HB.out hR1.bel) HFI.out) ?_
          rintro e w2 ⟨he, hb2⟩
          by_cases h9 : Sc.ruleErr ar x = 0
          rotate_left
          · have HV : Hid (Sc.check ⟨ar, ns, rs⟩ = Sc.ruleErr ar x) := by show _ = _; rw [HE0.out, HFD.out, Sc.thn_ne _ h9]
            rw [finE_ne h9] at he
            subst he
            clear HE0 HFD
            go_wp2_with fail
            exact ⟨rfl, by rw [HV.out, finE_ne h9], hR1.bel.trans (hb2.mono hR1.bel.size)⟩
          rw [h9, finE_zero] at he
          subst he
          have hR2 := hR1.below hb2
          have HV : Hid (Sc.first (Sc.ruleErr ar) rs = Sc.first (Sc.ruleErr ar) (rs.drop (j + 1))) := by show _ = _; rw [HFD.out, h9, Sc.thn_zero]
          clear HFD HT HB HFI hb2 h9 hR1 q0 q1 q2 q3 q4 c0 c1 c2
          go_wp2_with fail
          go_roundw
          case rel => exact ⟨j + 1, by omega, by go_num, hR2, HV.out⟩
          case measure => simp [intOf]; omega
        · have HV : Hid (Sc.check ⟨ar, ns, rs⟩ = 0) := by show _ = _; rw [HE0.out, HFJ.out, List.drop_of_length_le (by omega)]; rfl
          clear HE0 hL
          go_wp2_with fail
          exact ⟨rfl, .tuple #[], by simp [results, Try.results25], by rw [HV.out]; rfl, hR.bel⟩

end Go.Proofs.Ythenjegmigeieaa

/- Package scope: what is caught. -/
namespace Go.Proofs.Ythenjegmigeieaa
open Go.RowKit

set_option maxRecDepth 100000 in
set_option maxHeartbeats 400000 in
theorem catchS_idle (pf : Addr) (w : World) :
    CallsD Try.prog 33 #[.pointer (some pf)] .returning w fun e u' w' => e = .returned (.tuple #[]) ∧ u' = .returning ∧ w' = w := by
  refine callsD_of_wpS Try.func33 rfl fun c₀ cs hu => ?_
  apply wpS_seq
  apply wpS_region
  simp [wpOpsS, go_sem, recoverD, hu, Try.ntmps33, Exit.thenS]
  refine wpS_of_wp ?_
  go_wp2
  refine ⟨rfl, .returning, ?_, .tuple #[], ?_, rfl, rfl, rfl⟩
  · rw [← hu]
  · simp [results, Try.results33]

set_option maxRecDepth 100000 in
set_option maxHeartbeats 400000 in
theorem catchS_panicking (bf : Nat) (g0 g1 : Value) (a c : Int) (older : List PanicEntry) (w : World)
    (hg0 : w.cell? ⟨bf, 0, none⟩ = some g0) (hg1 : w.cell? ⟨bf, 1, none⟩ = some g1) (fg0 : w.frozen? ⟨bf, 0, none⟩ = false) (fg1 : w.frozen? ⟨bf, 1, none⟩ = false) :
    CallsD Try.prog 33 #[.pointer (some ⟨bf, 0, none⟩)] (.panicking ({ v := .iface 60 (.agg #[.int .i64 a, .int .i64 c]), recovered := false } :: older)) w fun e u' w' =>
      e = .returned (.tuple #[]) ∧ u' = .panicking ({ v := .iface 60 (.agg #[.int .i64 a, .int .i64 c]), recovered := true } :: older) ∧
      w'.cell? ⟨bf, 0, none⟩ = some (.int .i64 a) ∧ w'.cell? ⟨bf, 1, none⟩ = some (.int .i64 c) ∧ w.grownBy w' (some bf) ∧ w'.heap.size = w.heap.size := by
  have hta : ∀ w : World, (Instr.typeAssert (.iface 60 (.agg #[.int .i64 a, .int .i64 c])) 20 60 false).run Try.prog w = .ok (.agg #[.int .i64 a, .int .i64 c]) w := fun _ => by kernel_rfl
  refine callsD_of_wpS Try.func33 rfl fun c₀ cs hu => ?_
  apply wpS_seq
  apply wpS_region
  simp [wpOpsS, go_sem, recoverD, hu, Try.ntmps33, Exit.thenS]
  refine wpS_of_wp ?_
  go_wp2
  refine ⟨rfl, _, rfl, .tuple #[], ?_, rfl, rfl, ?_, ?_, ?_, ?_⟩
  · simp [results, Try.results33]
  · simp [go_sem, hg0]
  · simp [go_sem, hg1]
  · exact grownBy_trans (grownBy_set _ _) (grownBy_set _ _)
  · simp

theorem enters24 : Enters 24 := enters_of Try.func24 (by kernel_rfl) rfl
/-- How what is caught ends. -/
def endE (a c : Int) : Ending := if c = 0 then goneOn else gaveF a c

/-- caught: the fault with which something gave up. -/
def CaughtEnd (a c : Int) (row : Option Nat) (Z : World → Prop) (w : World) (e : Ending) (w' : World) : Prop :=
  e = .returned (.agg #[.int .i64 (if c = 0 then 0 else a), .int .i64 c]) ∧ w.grownBy w' row ∧ Z w'

theorem grow_trans {w u v : World} {row : Option Nat} (o : Obj) (hu : (w.alloc o).grownBy u row) (hv : u.grownBy v (some w.heap.size)) : w.grownBy v row := by
  have hs : (w.alloc o).heap.size = w.heap.size + 1 := by simp
  refine ⟨hv.os.trans hu.os, hv.tape.trans hu.tape, hv.output.trans hu.output, Nat.le_trans (by rw [← Nat.succ_le_succ_iff]; have := hu.size; omega) hv.size, fun k hk hne => ?_⟩
  have h1 := hu.block k (by omega) hne
  have h2 := hv.block k (by have := hu.size; omega) (fun e => by injection e; omega)
  rw [h2, h1]
  exact ((Below.refl _ _).alloc (Nat.le_refl _) o).block k hk

set_option maxRecDepth 100000 in
set_option maxHeartbeats 1000000 in
theorem caught_any (G : Nat) (caps : Array Value) (row : Option Nat) (a c : Int) (Z : World → Prop) (w : World) (hE : Enters G) (hrow : ∀ k, row = some k → k < w.heap.size)
    (hZ : ∀ u v : World, Z u → v.heap.size = u.heap.size → (∀ k, ¬ k = w.heap.size → v.heap[k]? = u.heap[k]?) → Z v)
    (hdo : Calls Try.prog G caps (w.alloc (.cells #[.int .i64 0, .int .i64 0] 60)) fun e w' => e = endE a c ∧ (w.alloc (.cells #[.int .i64 0, .int .i64 0] 60)).grownBy w' row ∧ Z w') :
    Calls Try.prog 23 #[.func (.func G) #[] caps] w (CaughtEnd a c row Z w) := by
  have hmf : ∀ (fn : Fn) (first cap : Array Value) (w : World), (Instr.makeFunc fn first cap).run Try.prog w = .ok (.func fn first cap) w := fun _ _ _ _ => rfl
  have he := hE
  unfold Enters at he
  have hBx := heap_alloc_new w (.cells #[.int .i64 0, .int .i64 0] 60)
  go_enter_defers Try.func23, Try.ntmps23
  go_wp2_with fail
  refine Calls.mono hdo ?_
  rintro e w1 ⟨rfl, hg, hz⟩
  have hB1 := (hg.block _ (heap_lt hBx) (fun e => Nat.lt_irrefl _ (hrow _ e.symm))).trans hBx
  have g0 : w1.cell? ⟨w.heap.size, 0, none⟩ = some (.int .i64 0) := by rw [Lib.cell_of_heap hB1]; rfl
  have g1 : w1.cell? ⟨w.heap.size, 1, none⟩ = some (.int .i64 0) := by rw [Lib.cell_of_heap hB1]; rfl
  have f0 : w1.frozen? ⟨w.heap.size, 0, none⟩ = false := Lib.frozen_of_heap hB1 0
  have f1 : w1.frozen? ⟨w.heap.size, 1, none⟩ = false := Lib.frozen_of_heap hB1 1
  clear hdo hBx hB1 he hmf
  unfold endE
  by_cases hc : c = 0
  · subst hc
    rw [if_pos rfl]
    go_wp2_with fail
    refine leaves_cons (f := 33) (args := #[.pointer (some ⟨w.heap.size, 0, none⟩)]) (by simp) (by simp [go_sem]) ?_
    refine (catchS_idle _ _).mono ?_
    rintro e u' w2 ⟨rfl, rfl, rfl⟩
    refine ⟨.agg #[.int .i64 0, .int .i64 0], by simp [results, Try.results23, go_sem, g0, g1], rfl, ?_, ?_⟩
    · exact grow_trans _ hg (grownBy_trans (grownBy_set _ _) (grownBy_set _ _))
    · exact hZ _ _ hz (by simp) (fun k hk => by rw [Below.heap_setCell _ _ _ _ hk, Below.heap_setCell _ _ _ _ hk])
  · rw [if_neg hc]
    go_wp2_with fail
    refine leaves_cons (f := 33) (args := #[.pointer (some ⟨w.heap.size, 0, none⟩)]) (by simp) (by simp [go_sem]) ?_
    refine (catchS_panicking w.heap.size _ _ a c [] w1 g0 g1 f0 f1).mono ?_
    rintro e u' w2 ⟨rfl, rfl, k1, k2, hg2, hs2⟩
    refine ⟨.agg #[.int .i64 a, .int .i64 c], by simp [results, Try.results23, go_sem, k1, k2], by rw [if_neg hc], ?_, ?_⟩
    · exact grow_trans _ hg hg2
    · refine hZ _ _ hz hs2 (fun k hk => ?_)
      rcases Nat.lt_or_ge k w1.heap.size with h | h
      · exact hg2.block k h (fun e => by injection e with e; exact hk e)
      · rw [Array.getElem?_eq_none h, Array.getElem?_eq_none (by omega)]

theorem below_of_grown {w w' : World} (h : w.grownBy w' none) : Below w.heap.size w w' := ⟨h.os, h.tape, h.output, h.size, fun k hk => h.block k hk (fun e => by cases e)⟩
theorem fldF (a b : Value) (w : World) : (Instr.field 60 (.agg #[a, b]) 1).run Try.prog w = .ok b w := by kernel_rfl
theorem fldF0 (a b : Value) (w : World) : (Instr.field 60 (.agg #[a, b]) 0).run Try.prog w = .ok a w := by kernel_rfl

set_option maxRecDepth 100000 in
set_option maxHeartbeats 400000 in
theorem check1_any (p : Sc.Prog) (va vn vr : Value) (X : Nat) (w : World) (hX : w.heap[X]? = some (.cells #[va, vn, vr] 26)) (hP : ProgV w va vn vr p) (hF : ProgFit p) :
    Calls Try.prog 24 #[.pointer (some ⟨X, 0, none⟩)] w fun e w' => e = finE (Sc.check p) ∧ Below w.heap.size w w' := by
  have c0 : w.cell? ⟨X, 0, none⟩ = some va := by rw [Lib.cell_of_heap hX]; rfl
  have c1 : w.cell? ⟨X, 1, none⟩ = some vn := by rw [Lib.cell_of_heap hX]; rfl
  have c2 : w.cell? ⟨X, 2, none⟩ = some vr := by rw [Lib.cell_of_heap hX]; rfl
  go_enter Try.func24, Try.ntmps24
  go_wp2_with fail
  refine Calls.mono (scCheck_any p va vn vr _ hP hF) ?_
  rintro e w1 ⟨rfl, hb⟩
  by_cases h : Sc.check p = 0
  · rw [h, finE_zero]
    go_wp2_with fail
    exact ⟨rfl, .tuple #[], by simp [results, Try.results24], by rw [h]; rfl, hb⟩
  · rw [finE_ne h]
    go_wp2_with fail
    exact ⟨rfl, (finE_ne h).symm, hb⟩

set_option maxRecDepth 100000 in
set_option maxHeartbeats 400000 in
theorem ScCheck_any (p : Sc.Prog) (va vn vr : Value) (w : World) (hP : ProgV w va vn vr p) (hF : ProgFit p) :
    Calls Try.prog 13 #[progVal va vn vr] w fun e w' => e = .returned (.int .i64 (Sc.check p)) ∧ Below w.heap.size w w' := by
  obtain ⟨a0, n0, rfl, _⟩ := id hP.ar
  obtain ⟨a1, n1, rfl, _⟩ := id hP.nm
  obtain ⟨a2, n2, rfl, _⟩ := id hP.rl
  have hmf : ∀ (fn : Fn) (first cap : Array Value) (w : World), (Instr.makeFunc fn first cap).run Try.prog w = .ok (.func fn first cap) w := fun _ _ _ _ => rfl
  have hb0 : ∀ (u : World) (o : Obj), Below u.heap.size u (u.alloc o) := fun u o => (Below.refl _ _).alloc (Nat.le_refl _) o
  have hX := heap_alloc_new w (.cells #[.slice a0 p.arity.length n0, .slice a1 p.names.length n1, .slice a2 p.rules.length n2] 26)
  have hP1 := hP.below (hb0 w (.cells #[.slice a0 p.arity.length n0, .slice a1 p.names.length n1, .slice a2 p.rules.length n2] 26))
  have HB := hb0 w (.cells #[.slice a0 p.arity.length n0, .slice a1 p.names.length n1, .slice a2 p.rules.length n2] 26)
  go_enter Try.func13, Try.ntmps13
  go_wp2_with fail
  generalize w.alloc (.cells #[.slice a0 p.arity.length n0, .slice a1 p.names.length n1, .slice a2 p.rules.length n2] 26) = w1 at *
  refine Calls.mono (caught_any 24 _ none 0 (Sc.check p) (fun _ => True) w1 enters24 (fun _ e => by cases e) (fun _ _ _ _ _ => trivial) ?_) ?_
  · refine Calls.mono (check1_any p _ _ _ w.heap.size _ (((hb0 w1 _).block _ (heap_lt hX)).trans hX) (hP1.below (hb0 w1 _)) hF) ?_
    rintro e w2 ⟨rfl, hb⟩
    exact ⟨rfl, grownBy_of_below hb _, trivial⟩
  · rintro e w2 ⟨rfl, hg, _⟩
    have hbb := HB.trans ((below_of_grown hg).mono HB.size)
    go_wp2_with fail
    simp only [fldF]
    go_wp2_with fail
    go_ret
    exact ⟨rfl, hbb⟩

end Go.Proofs.Ythenjegmigeieaa

/- Package strata: raise. -/
namespace Go.Proofs.Ythenjegmigeieaa
open Go.RowKit Go.Shelf

attribute [local go_sem] Oper.semAt_some

namespace St
/-- A rule whose head, and all that it hangs on, are there. -/
structure RuleIn (n : Nat) (r : Sc.Rule) : Prop where
  h0 : 0 ≤ r.pred
  h1 : r.pred < (n : Int)
  hb : Bound n r.body
  hl : r.body.length ≤ 4
def edgesOf (l : List Sc.Rule) : List Fx.Edge := l.flatMap ruleE
theorem edgesOf_snoc (l : List Sc.Rule) (r : Sc.Rule) : edgesOf (l ++ [r]) = edgesOf l ++ ruleE r := by unfold edgesOf; rw [List.flatMap_append]; simp
theorem ruleE_length (r : Sc.Rule) : (ruleE r).length ≤ r.body.length := by unfold ruleE; rw [List.length_map]; exact List.length_filter_le _ _
theorem ruleE_one {r : Sc.Rule} : ∀ e, e ∈ ruleE r → e.2.2 ≤ 1 := fun e he => by
  unfold ruleE at he
  obtain ⟨x, _, rfl⟩ := List.mem_map.mp he
  rcases strict01 r x with h | h <;> simp [h]
end St

/-- Where raise stands: the row of levels, the two boxes; all else is as it was. -/
structure RSt (w : World) (LB n cap : Nat) (W : World) (cur : List Int) (fl : Bool) : Prop where
  gr : w.grownBy W (some LB)
  row : W.heap[LB]? = some (.cells (intRow cur) 3)
  box : W.heap[w.heap.size]? = some (.cells #[.slice (some ⟨LB, 0, none⟩) n cap] 22)
  flag : W.heap[w.heap.size + 1]? = some (.cells #[.bool fl] 4)

theorem box_cell {W : World} {b : Nat} {v : Value} {t : TypeId} (h : W.heap[b]? = some (.cells #[v] t)) : W.cell? ⟨b, 0, none⟩ = some v := by rw [Lib.cell_of_heap h]; rfl
/-- The boxes of one rule, laid. -/
structure RMem (wr W2 : World) (rb : Obj) : Prop where
  bel : Below wr.heap.size wr W2
  qb : W2.heap[wr.heap.size]? = some rb
  rb : W2.heap[wr.heap.size + 1]? = some rb
  sz : W2.heap.size = wr.heap.size + 2
theorem raise_mem (wr W2 : World) (rb : Obj) (h2 : W2 = (wr.alloc rb).alloc rb) : RMem wr W2 rb := by
  subst h2
  have b1 := (Below.refl wr.heap.size wr).alloc (Nat.le_refl _) rb
  have p1 := heap_alloc_new wr rb
  have s1 : (wr.alloc rb).heap.size = wr.heap.size + 1 := by simp
  generalize wr.alloc rb = x1 at *
  have b2 := (Below.refl x1.heap.size x1).alloc (Nat.le_refl _) rb
  have p2 := heap_alloc_new x1 rb
  refine ⟨b1.trans (b2.mono b1.size), (b2.block _ (by omega)).trans p1, by rw [← s1]; exact p2, by simp [s1]⟩

/-- What a pair says. -/
def edgeOf {n : Nat} (h : Nat) (p : HP n) : Fx.Edge := (h, p.1.1.toNat, p.1.2)
/-- Between two rounds of the loop over what a rule hangs on. -/
structure RIn (w wr W2 : World) (LB n cap : Nat) (rb : Obj) (ds : List Deferred) (l : List Int) (E : List Fx.Edge) (h : Nat) {np : Nat} (pre : List (HP np)) (W : World) : Prop where
  st : RSt w LB n cap W (Fx.round (E ++ pre.map (edgeOf h)) l) (decide (Fx.round (E ++ pre.map (edgeOf h)) l ≠ l))
  qb : W.heap[wr.heap.size]? = some rb
  mks : MarksL (w.heap.size + 2) W ds
  sz : W2.heap.size ≤ W.heap.size
theorem RIn_start {w wr W2 : World} {LB n cap : Nat} {rb : Obj} {ds : List Deferred} {l : List Int} {E : List Fx.Edge} {h np : Nat} (hS : RSt w LB n cap wr (Fx.round E l) (decide (Fx.round E l ≠ l))) (hM : MarksL (w.heap.size + 2) wr ds) (hW : RMem wr W2 rb) : RIn w wr W2 LB n cap rb ds l E h ([] : List (HP np)) W2 := by
  have h1 := Nat.lt_of_lt_of_le (Array.getElem?_eq_some_iff.mp hS.flag).1 (Nat.le_refl _)
  refine ⟨?_, hW.qb, hM.keep fun D _ _ hD => (hW.bel.block D (Array.getElem?_eq_some_iff.mp hD).1).trans hD, Nat.le_refl _⟩
  rw [List.map_nil, List.append_nil]
  refine ⟨⟨hW.bel.os.trans hS.gr.os, hW.bel.tape.trans hS.gr.tape, hW.bel.output.trans hS.gr.output, Nat.le_trans hS.gr.size hW.bel.size, fun j hj hn => (hW.bel.block j (Nat.lt_of_lt_of_le hj hS.gr.size)).trans (hS.gr.block j hj hn)⟩, (hW.bel.block _ (Array.getElem?_eq_some_iff.mp hS.row).1).trans hS.row, (hW.bel.block _ (Array.getElem?_eq_some_iff.mp hS.box).1).trans hS.box, (hW.bel.block _ h1).trans hS.flag⟩
theorem RIn_own {w wr W2 : World} {LB n cap : Nat} {rb : Obj} {ds : List Deferred} {l : List Int} {np : Nat} {c0 : List Int} {f0 : Bool} (hS : RSt w LB n cap wr c0 f0) (hM : MarksL (w.heap.size + 2) wr ds) (hW : RMem wr W2 rb) (E : List Fx.Edge) (h : Nat) :
    OwnFrom W2.heap.size (fun (pre : List (HP np)) W => RIn w wr W2 LB n cap rb ds l E h pre W) := by
  intro pre A B row hI hg hr
  have hsz := hW.sz
  have hgs := hS.gr.size
  have hfl := (Array.getElem?_eq_some_iff.mp hS.flag).1
  have hrw := (Array.getElem?_eq_some_iff.mp hS.row).1
  have keep : ∀ j, j < W2.heap.size → B.heap[j]? = A.heap[j]? := fun j hj => hg.block j (Nat.lt_of_lt_of_le hj hI.sz) (fun e => by have := (hr j e.symm).1; omega)
  refine ⟨⟨⟨hg.os.trans hI.st.gr.os, hg.tape.trans hI.st.gr.tape, hg.output.trans hI.st.gr.output, Nat.le_trans hI.st.gr.size hg.size, fun j hj hn => (keep j (by omega)).trans (hI.st.gr.block j hj hn)⟩, (keep _ (by omega)).trans hI.st.row, (keep _ (by omega)).trans hI.st.box, (keep _ (by omega)).trans hI.st.flag⟩, (keep _ (by omega)).trans hI.qb, hI.mks.keep fun D _ hm hD => ?_, Nat.le_trans hI.sz hg.size⟩
  have := (Array.getElem?_eq_some_iff.mp (hM.mem D hm)).1
  exact (keep D (by omega)).trans hD

theorem round_pre {np : Nat} (E : List Fx.Edge) (h : Nat) (pre : List (HP np)) (x : HP np) : E ++ (pre ++ [x]).map (edgeOf h) = (E ++ pre.map (edgeOf h)) ++ [edgeOf h x] := by rw [List.map_append, List.append_assoc]; rfl
section
variable {w wr W2 W : World} {LB n cap : Nat} {rb : Obj} {ds : List Deferred} {l : List Int} {E : List Fx.Edge} {h np : Nat} {pre : List (HP np)}
theorem RIn_no (hI : RIn w wr W2 LB n cap rb ds l E h pre W) (x : HP np) (hh : h < l.length) (hno : ¬ (Fx.round (E ++ pre.map (edgeOf h)) l).getD h 0 < (Fx.round (E ++ pre.map (edgeOf h)) l).getD x.1.1.toNat 0 + x.1.2) : RIn w wr W2 LB n cap rb ds l E h (pre ++ [x]) W := by
  refine ⟨?_, hI.qb, hI.mks, hI.sz⟩
  rw [round_pre, Fx.rose_snoc _ _ _ hh, Fx.round_snoc]
  have h1 : Fx.step (Fx.round (E ++ pre.map (edgeOf h)) l) (edgeOf h x) = Fx.round (E ++ pre.map (edgeOf h)) l := by unfold Fx.step; exact if_neg hno
  have h2 : decide ((Fx.round (E ++ pre.map (edgeOf h)) l).getD (edgeOf h x).1 0 < (Fx.round (E ++ pre.map (edgeOf h)) l).getD (edgeOf h x).2.1 0 + (edgeOf h x).2.2) = false := decide_eq_false hno
  rw [h1, h2, Bool.or_false]
  exact hI.st
theorem RIn_yes (hI : RIn w wr W2 LB n cap rb ds l E h pre W) (x : HP np) (hh : h < l.length) (hLw : LB < w.heap.size) (hwr : w.heap.size + 2 ≤ wr.heap.size) (hyes : (Fx.round (E ++ pre.map (edgeOf h)) l).getD h 0 < (Fx.round (E ++ pre.map (edgeOf h)) l).getD x.1.1.toNat 0 + x.1.2) :
    RIn w wr W2 LB n cap rb ds l E h (pre ++ [x]) ((W.setCell ⟨LB, h, none⟩ (.int .i64 ((Fx.round (E ++ pre.map (edgeOf h)) l).getD x.1.1.toNat 0 + x.1.2))).setCell ⟨w.heap.size + 1, 0, none⟩ (.bool true)) := by
  have other : ∀ j, ¬ j = LB → ¬ j = w.heap.size + 1 → ((W.setCell ⟨LB, h, none⟩ (.int .i64 ((Fx.round (E ++ pre.map (edgeOf h)) l).getD x.1.1.toNat 0 + x.1.2))).setCell ⟨w.heap.size + 1, 0, none⟩ (.bool true)).heap[j]? = W.heap[j]? := fun j h1 h2 => by rw [heap_set_other h2, heap_set_other h1]
  have h2 : decide ((Fx.round (E ++ pre.map (edgeOf h)) l).getD (edgeOf h x).1 0 < (Fx.round (E ++ pre.map (edgeOf h)) l).getD (edgeOf h x).2.1 0 + (edgeOf h x).2.2) = true := decide_eq_true hyes
  have h1 : Fx.step (Fx.round (E ++ pre.map (edgeOf h)) l) (edgeOf h x) = (Fx.round (E ++ pre.map (edgeOf h)) l).set h ((Fx.round (E ++ pre.map (edgeOf h)) l).getD x.1.1.toNat 0 + x.1.2) := by unfold Fx.step; exact if_pos hyes
  refine ⟨?_, (other _ (by omega) (by omega)).trans hI.qb, hI.mks.keep fun D hD hm hd => (other D (by omega) (by omega)).trans hd, ?_⟩
  · rw [round_pre, Fx.rose_snoc _ _ _ hh, Fx.round_snoc, h1, h2, Bool.or_true]
    refine ⟨⟨hI.st.gr.os, hI.st.gr.tape, hI.st.gr.output, ?_, fun j hj hn => ?_⟩, ?_, (other _ (by omega) (by omega)).trans hI.st.box, ?_⟩
    · have := hI.st.gr.size; simpa using this
    · have hjl : ¬ j = LB := fun e => hn (by rw [e])
      exact (other j hjl (by omega)).trans (hI.st.gr.block j hj hn)
    · rw [heap_set_other (by omega)]
      exact intRow_set hI.st.row _ _
    · have hf : (W.setCell ⟨LB, h, none⟩ (.int .i64 ((Fx.round (E ++ pre.map (edgeOf h)) l).getD x.1.1.toNat 0 + x.1.2))).heap[w.heap.size + 1]? = some (.cells #[.bool _] 4) := (heap_set_other (by omega)).trans hI.st.flag
      rw [Lib.heap_setCell_same hf]
      rfl
  · have := hI.sz; simpa using this
end
theorem edgesOf_length : ∀ (l : List Sc.Rule), (∀ r, r ∈ l → r.body.length ≤ 4) → (St.edgesOf l).length ≤ 4 * l.length
  | [], _ => Nat.zero_le _
  | r :: l, h => by
    have ih := edgesOf_length l (fun x hx => h x (List.mem_cons_of_mem _ hx))
    have h1 := h r List.mem_cons_self
    have h2 := St.ruleE_length r
    unfold St.edgesOf at ih ⊢
    rw [List.flatMap_cons, List.length_append, List.length_cons]
    omega
theorem edgesOf_one (l : List Sc.Rule) : ∀ e, e ∈ St.edgesOf l → e.2.2 ≤ 1 := fun e he => by
  obtain ⟨r, _, h⟩ := List.mem_flatMap.mp he
  exact St.ruleE_one e h

set_option maxRecDepth 100000 in
set_option maxHeartbeats 4000000 in
theorem raise_any (wp w : World) (rules : List Sc.Rule) (vr : Value) (l : List Int) (LB cap : Nat) (K : Int) (hV : PRulesV wp vr rules) (hB : Below wp.heap.size wp w) (hLB : wp.heap.size ≤ LB) (hrow : w.heap[LB]? = some (.cells (intRow l) 3))
    (hR : ∀ r, r ∈ rules → St.RuleIn l.length r) (hn : rules.length ≤ 12) (hk0 : ∀ i : Nat, 0 ≤ l.getD i 0) (hk1 : ∀ i : Nat, l.getD i 0 ≤ K) (hK : K ≤ 1000000) :
    Calls Try.prog 14 #[.slice (some ⟨LB, 0, none⟩) l.length cap, vr] w fun e w' => e = .returned (.bool (decide (Fx.round (St.edgesOf rules) l ≠ l))) ∧ w'.heap[LB]? = some (.cells (intRow (Fx.round (St.edgesOf rules) l)) 3) ∧ w.grownBy w' (some LB) := by
  obtain ⟨ar, cr, rfl, hA⟩ := hV
  have HA : Hid (PRulesAt wp ar rules) := hA
  have hLw : LB < w.heap.size := (Array.getElem?_eq_some_iff.mp hrow).1
  refine (callsIn_wide (n := 3)).1 ?_
  refine callsIn_of_wp_marks Try.func14 rfl trivial ?_ rfl
  simp only [Try.ntmps14, List.size_toArray, List.length_cons, List.length_nil, Nat.reduceAdd, Nat.reduceSub, Array.replicate_succ, Array.replicate_zero, List.push_toArray, List.append_toArray, List.nil_append, List.cons_append]
  have hSt : RSt w LB l.length cap ((w.alloc (.cells #[.slice (some ⟨LB, 0, none⟩) l.length cap] 22)).alloc (.cells #[.bool false] 4)) l false := by
    have b1 := (Below.refl w.heap.size w).alloc (Nat.le_refl _) (.cells #[.slice (some ⟨LB, 0, none⟩) l.length cap] 22)
    have p1 := heap_alloc_new w (.cells #[.slice (some ⟨LB, 0, none⟩) l.length cap] 22)
    have s1 : (w.alloc (.cells #[.slice (some ⟨LB, 0, none⟩) l.length cap] 22)).heap.size = w.heap.size + 1 := by simp
    generalize w.alloc (.cells #[.slice (some ⟨LB, 0, none⟩) l.length cap] 22) = x1 at *
    have b2 := (Below.refl x1.heap.size x1).alloc (Nat.le_refl _) (.cells #[.bool false] 4)
    have p2 := heap_alloc_new x1 (.cells #[.bool false] 4)
    have b12 := b1.trans (b2.mono b1.size)
    refine ⟨⟨b12.os, b12.tape, b12.output, b12.size, fun j hj _ => b12.block j hj⟩, (b12.block _ hLw).trans hrow, (b2.block _ (by omega)).trans p1, ?_⟩
    rw [s1] at p2
    exact p2
  have HST : Hid _ := hSt
  have HRR : Hid _ := hR
  have HROW : Hid _ := hrow
  have HK0 : Hid ((∀ i : Nat, 0 ≤ l.getD i 0) ∧ ∀ i : Nat, l.getD i 0 ≤ K) := ⟨hk0, hk1⟩
  clear hSt hR hrow hA hk0 hk1
  gi_wp2
  refine wpIn_loop (fun a wr => ∃ (k : Nat) (ds : List Deferred) (x7 x8 x9 x10 x14 x15 x16 x17 x18 x19 x20 x21 x22 x23 x24 x25 x26 x27 x28 x29 x30 x31 x32 x33 x34 x35 x36 x37 x38 x39 : Value), k ≤ rules.length ∧ a = { tmps := #[.slice (some ⟨LB, 0, none⟩) l.length cap, .slice ar rules.length cr, .pointer (some ⟨w.heap.size, 0, none⟩), undef, .bool false, .pointer (some ⟨w.heap.size + 1, 0, none⟩), undef, x7, x8, x9, x10, .slice ar rules.length cr, .int .i64 rules.length, .int .i64 k, x14, x15, x16, x17, x18, x19, x20, x21, x22, x23, x24, x25, x26, x27, x28, x29, x30, x31, x32, x33, x34, x35, x36, x37, x38, x39, undef], defers := ds } ∧ RSt w LB l.length cap wr (Fx.round (St.edgesOf (rules.take k)) l) (decide (Fx.round (St.edgesOf (rules.take k)) l ≠ l)) ∧ MarksL (w.heap.size + 2) wr ds) (fun a _ => rules.length - (intOf (a.tmps.getD 13 undef)).toNat) ?h0 ?round
  case h0 => exact ⟨0, [], _, _, _, _, _, _, _, _, _, _, _, _, _, _, _, _, _, _, _, _, _, _, _, _, _, _, _, _, _, _, Nat.zero_le _, rfl, by simpa [St.edgesOf, Fx.round] using HST.out, trivial⟩
  case round =>
    clear HST
    rintro a wr ⟨k, ds, x7, x8, x9, x10, x14, x15, x16, x17, x18, x19, x20, x21, x22, x23, x24, x25, x26, x27, x28, x29, x30, x31, x32, x33, x34, x35, x36, x37, x38, x39, hk, rfl, hS, hM⟩
    have hBw : Below wp.heap.size wp wr := ⟨hS.gr.os.trans hB.os, hS.gr.tape.trans hB.tape, hS.gr.output.trans hB.output, Nat.le_trans hB.size hS.gr.size, fun j hj => (hS.gr.block j (Nat.lt_of_lt_of_le hj hB.size) (fun e => by injection e with e; omega)).trans (hB.block j hj)⟩
    have HS : Hid _ := hS
    have HM : Hid _ := hM
    have HBW : Hid _ := hBw
    clear hS hM
    by_cases hlt : k < rules.length
    · obtain ⟨b, off, rfl, p0, ⟨vt, p1, hT⟩, p2, ⟨vb, p3, hLL⟩, p4⟩ := prules_at HA.out k hlt
      obtain ⟨at_, ct, rfl, _⟩ := hT
      obtain ⟨ab, cb, rfl, hLL⟩ := hLL
      have HLL : Hid _ := hLL
      have HRI : Hid (St.RuleIn l.length (Sc.ruleD rules k)) := HRR.out _ (by unfold Sc.ruleD; rw [List.getD_eq_getElem?_getD, List.getElem?_eq_getElem hlt]; exact List.getElem_mem hlt)
      have HTK : Hid (rules.take (k + 1) = rules.take k ++ [Sc.ruleD rules k]) := by
        show _ = _
        rw [List.take_add_one]
        congr 1
        unfold Sc.ruleD
        rw [List.getD_eq_getElem?_getD, List.getElem?_eq_getElem hlt]
        rfl
      have q0 := cell_below hBw p0
      have q1 := cell_below hBw p1
      have q2 := cell_below hBw p2
      have q3 := cell_below hBw p3
      have q4 := cell_below hBw p4
      clear p0 p1 p2 p3 p4 hLL hBw
      generalize Sc.ruleD rules k = r at *
      gi_wp2
      refine ⟨trivial, ?_⟩
      refine (hangs_in Fence.wide _ trivial rfl r _ _ _ _ _).mono ?_
      rintro e w' ⟨rfl, rfl⟩
      gi_wp2
      clear q0 q1 q2 q3 q4
      obtain ⟨W2, hW2⟩ : ∃ W2, W2 = ((wr.alloc (.cells #[.int .i64 r.pred, .slice at_ r.terms.length ct, .int .i64 r.fold, .slice ab r.body.length cb, .int .i64 r.vars] 48)).alloc (.cells #[.int .i64 r.pred, .slice at_ r.terms.length ct, .int .i64 r.fold, .slice ab r.body.length cb, .int .i64 r.vars] 48)) := ⟨_, rfl⟩
      have HW := raise_mem wr W2 (.cells #[.int .i64 r.pred, .slice at_ r.terms.length ct, .int .i64 r.fold, .slice ab r.body.length cb, .int .i64 r.vars] 48) hW2
      rw [← hW2]
      clear hW2
      have HW : Hid _ := HW
      have hRp := HRI.out.h0
      have hRq := HRI.out.h1
      obtain ⟨pr, hpr⟩ : ∃ pr : Nat, Hid (r.pred = pr) := ⟨r.pred.toNat, show _ = _ by omega⟩
      clear hRp hRq
      refine wpIn_rangeFunc_ownG (n := 3) rfl (by omega) (gf := 38) (lb := #[.pointer (some ⟨wr.heap.size + 1, 0, none⟩)]) ?hg trivial (enters_of Try.func38 (by kernel_rfl) rfl)
        (hangs_stops Fence.wide 2 trivial rfl (by omega) (wr.heap.size + 1) wp l.length r _ ab cb HLL.out (Nat.le_trans HRI.out.hl (by decide)) HRI.out.hb W2 (HBW.out.trans (HW.out.bel.mono HBW.out.size)) HW.out.rb) (fun h k => HK.trans h k)
        (fun W j o o' hl h h1 h2 => HK.put (Nat.le_trans HBW.out.size HW.out.bel.size) W j o o' hl h h1 h2) (Below.refl _ _) (fun _ => rfl)
        (fun pre W => RIn w wr W2 LB l.length cap (.cells #[.int .i64 r.pred, .slice at_ r.terms.length ct, .int .i64 r.fold, .slice ab r.body.length cb, .int .i64 r.vars] 48) ds l (St.edgesOf (rules.take k)) pr pre W) (fun _ _ _ => False) (RIn_own HS.out HM.out HW.out _ _) (fun _ _ _ _ _ h _ _ => h) (RIn_start HS.out HM.out HW.out)
        (fun x => { tmps := #[.slice (some ⟨LB, 0, none⟩) l.length cap, .slice (some ⟨b, off, none⟩) rules.length cr, .pointer (some ⟨w.heap.size, 0, none⟩), undef, .bool false, .pointer (some ⟨w.heap.size + 1, 0, none⟩), undef, .pointer (some ⟨wr.heap.size, 0, none⟩), .int .i64 x.1.1, .int .i64 x.1.2, x10, .slice (some ⟨b, off, none⟩) rules.length cr, .int .i64 rules.length, .int .i64 k, .bool true, .pointer (some ⟨b, off + k * 5, none⟩), .agg #[.int .i64 r.pred, .slice at_ r.terms.length ct, .int .i64 r.fold, .slice ab r.body.length cb, .int .i64 r.vars], .agg #[.int .i64 r.pred, .slice at_ r.terms.length ct, .int .i64 r.fold, .slice ab r.body.length cb, .int .i64 r.vars], .func (.func 38) #[] #[.pointer (some ⟨wr.heap.size + 1, 0, none⟩)], .int .i64 x.1.1, .int .i64 x.1.2, x21, x22, x23, x24, x25, x26, x27, x28, x29, x30, x31, x32, x33, x34, x35, x36, x37, x38, x39, undef], defers := [] }) ?assign ?body ?done ?stop
      case hg => rfl
      case assign =>
        intro l x W K hK
        gi_wp2
        exact hK
      case stop =>
        rintro D c pre W _ _ h _
        exact h.elim
      case done =>
        rintro D ys W hD rfl hI hK
        have hsz := HW.out.sz
        have HE : Hid (Fx.round (St.edgesOf (rules.take (k + 1))) l = Fx.round (St.edgesOf (rules.take k) ++ (St.pairs l.length r r.body).map (edgeOf pr)) l) := by
          show _ = _
          have hpt : r.pred.toNat = pr := by have := hpr.out; omega
          rw [← hpt]
          rw [HTK.out, St.edgesOf_snoc]
          congr 2
          exact (St.pairs_edges HRI.out.hb).symm
        gi_wp2
        refine ⟨⟨k + 1, _, _, _, _, _, _, _, _, _, _, _, _, _, _, _, _, _, _, _, _, _, _, _, _, _, _, _, _, _, _, _, hlt, rfl, ?_, ?_⟩, ?_⟩
        · rw [HE.out]
          exact hI.st
        · refine ⟨⟨D, ?_, rfl, hK, fun d' hd' e => ?_⟩, hI.mks⟩
          · have := (Array.getElem?_eq_some_iff.mp HS.out.flag).1
            omega
          · subst e
            have := (Array.getElem?_eq_some_iff.mp (HM.out.mem D hd')).1
            omega
        · simp [intOf]
          omega
      case body =>
        rintro l0 pre ⟨⟨pq, m⟩, h0, h1, hm⟩ W hI hpl
        dsimp only at h0 h1 hm
        obtain ⟨q, hq⟩ : ∃ q : Nat, pq = q := ⟨pq.toNat, by omega⟩
        subst hq
        have hpn : pr < l.length := by have := HRI.out.h1; have := hpr.out; omega
        have hq1 : q < l.length := by omega
        have HI : Hid _ := hI
        have hwz := (Array.getElem?_eq_some_iff.mp HS.out.flag).1
        have hgz := HBW.out.size
        have c0 : W.cell? ⟨w.heap.size, 0, none⟩ = some (.slice (some ⟨LB, 0, none⟩) l.length cap) := by rw [Lib.cell_of_heap hI.st.box]; rfl
        have c1 : W.cell? ⟨wr.heap.size, 0, none⟩ = some (.int .i64 pr) := by rw [Lib.cell_of_heap hI.qb, ← hpr.out]; rfl
        have hcl : (Fx.round (St.edgesOf (rules.take k) ++ pre.map (edgeOf pr)) l).length = l.length := Fx.round_length _ _
        have c2 := intRow_cell hI.st.row (i := q) (by omega)
        have c3 := intRow_cell hI.st.row (i := pr) (by omega)
        have f3 := Lib.frozen_of_heap hI.st.row pr
        have HFL : Hid _ := fun (v : Value) => (heap_set_other (w := W) (b := LB) (c := w.heap.size + 1) (i := pr) (v := v) (by omega)).trans hI.st.flag
        have hlo : ∀ i : Nat, 0 ≤ (Fx.round (St.edgesOf (rules.take k) ++ pre.map (edgeOf pr)) l).getD i 0 := fun i => Int.le_trans (HK0.out.1 i) ((Fx.round_le _ l).2 i)
        have hel : (St.edgesOf (rules.take k)).length ≤ 4 * rules.length := Nat.le_trans (edgesOf_length _ (fun r hr => (HRR.out r (List.mem_of_mem_take hr)).hl)) (by rw [List.length_take]; omega)
        have hhi : ∀ i : Nat, (Fx.round (St.edgesOf (rules.take k) ++ pre.map (edgeOf pr)) l).getD i 0 ≤ K + (4 * 12 + 4) := fun i => by
          have h9 := Fx.round_bound (St.edgesOf (rules.take k) ++ pre.map (edgeOf pr)) (l := l) (K := K) HK0.out.2 (fun e he => by
            rcases List.mem_append.mp he with h | h
            · exact edgesOf_one _ e h
            · obtain ⟨y, _, rfl⟩ := List.mem_map.mp h
              show y.1.2 ≤ 1
              rcases y.2.2.2 with h | h <;> omega) i
          rw [List.length_append, List.length_map] at h9
          have := HRI.out.hl
          omega
        have hlq := hlo q
        have hhq := hhi q
        have HYES : Hid (∀ A Bv : Int, A = (Fx.round (St.edgesOf (rules.take k) ++ pre.map (edgeOf pr)) l).getD q 0 → Bv = (Fx.round (St.edgesOf (rules.take k) ++ pre.map (edgeOf pr)) l).getD pr 0 → Bv < A + m → RIn w wr W2 LB l.length cap (.cells #[.int .i64 r.pred, .slice at_ r.terms.length ct, .int .i64 r.fold, .slice ab r.body.length cb, .int .i64 r.vars] 48) ds l (St.edgesOf (rules.take k)) pr (pre ++ [⟨((q : Int), m), h0, h1, hm⟩]) ((W.setCell ⟨LB, pr, none⟩ (.int .i64 (A + m))).setCell ⟨w.heap.size + 1, 0, none⟩ (.bool true))) := fun A Bv hA hB hy => by
          subst hA hB
          exact RIn_yes HI.out ⟨((q : Int), m), h0, h1, hm⟩ hpn hLw (by omega) hy
        have HNO : Hid (∀ A Bv : Int, A = (Fx.round (St.edgesOf (rules.take k) ++ pre.map (edgeOf pr)) l).getD q 0 → Bv = (Fx.round (St.edgesOf (rules.take k) ++ pre.map (edgeOf pr)) l).getD pr 0 → ¬ Bv < A + m → RIn w wr W2 LB l.length cap (.cells #[.int .i64 r.pred, .slice at_ r.terms.length ct, .int .i64 r.fold, .slice ab r.body.length cb, .int .i64 r.vars] 48) ds l (St.edgesOf (rules.take k)) pr (pre ++ [⟨((q : Int), m), h0, h1, hm⟩]) W) := fun A Bv hA hB hy => by
          subst hA hB
          exact RIn_no HI.out ⟨((q : Int), m), h0, h1, hm⟩ hpn hy
        obtain ⟨A, hA⟩ : ∃ A : Int, A = (Fx.round (St.edgesOf (rules.take k) ++ pre.map (edgeOf pr)) l).getD q 0 := ⟨_, rfl⟩
        obtain ⟨Bv, hBv⟩ : ∃ Bv : Int, Bv = (Fx.round (St.edgesOf (rules.take k) ++ pre.map (edgeOf pr)) l).getD pr 0 := ⟨_, rfl⟩
        replace HYES : Hid _ := HYES.out A Bv hA hBv
        replace HNO : Hid _ := HNO.out A Bv hA hBv
        rw [← hA] at c2 hlq hhq
        rw [← hBv] at c3
        have hm0 : 0 ≤ m := by omega
        have hm1 : m ≤ 1 := by omega
        have HKL : Hid (wp.heap.size ≤ LB ∧ LB < w.heap.size ∧ w.heap.size + 2 ≤ wr.heap.size) := ⟨hLB, hLw, by omega⟩
        have hwp : wp.heap.size ≤ w.heap.size := by omega
        clear hI hlo hhi hel hcl hA hBv hwz hgz
        by_cases hy : Bv < A + m
        · have hyd : decide (Bv < A + m) = true := decide_eq_true hy
          replace HYES : Hid _ := HYES.out hy
          have c6 := box_cell (HFL.out (.int .i64 (A + m)))
          have f6 := Lib.frozen_of_heap (HFL.out (.int .i64 (A + m))) 0
          clear HNO hy
          gi_wp2
          refine ⟨((KeepsOthers.setCell _ _ _).trans (KeepsOthers.setCell _ _ _)).from _, ⟨((Below.refl _ W).setCell (p := ⟨LB, pr, none⟩) HKL.out.1 _).setCell (p := ⟨w.heap.size + 1, 0, none⟩) (Nat.le_succ_of_le hwp) _, fun o _ hR => ?_⟩, HYES.out⟩
          have h9 := HKL.out
          rw [heap_set_other (by omega), heap_set_other (by omega)]
          exact hR
        · have hyd : decide (Bv < A + m) = false := decide_eq_false hy
          replace HNO : Hid _ := HNO.out hy
          clear HYES hy
          gi_wp2
          exact ⟨KeepsFrom.refl _ _, HK.refl _ _ _, HNO.out⟩
    · obtain rfl : k = rules.length := by omega
      have c5 : wr.cell? ⟨w.heap.size + 1, 0, none⟩ = some (.bool (decide (Fx.round (St.edgesOf (rules.take rules.length)) l ≠ l))) := by rw [Lib.cell_of_heap HS.out.flag]; rfl
      rw [List.take_length] at *
      obtain ⟨fb, hfb⟩ : ∃ fb, fb = decide (Fx.round (St.edgesOf rules) l ≠ l) := ⟨_, rfl⟩
      rw [← hfb] at c5
      have HFB : Hid _ := hfb
      clear hfb
      gi_wp2
      have hrw := (Array.getElem?_eq_some_iff.mp HROW.out).1
      refine marks_leave (B := w.heap.size + 2) (v := .bool fb) (fun w => results_tmp (t := 4) rfl _ _ w) ds wr HM.out (fun w' hb => ⟨by rw [HFB.out], ?_, ?_⟩)
      · exact (hb.block LB (by omega)).trans HS.out.row
      · exact ⟨hb.os.trans HS.out.gr.os, hb.tape.trans HS.out.gr.tape, hb.output.trans HS.out.gr.output, Nat.le_trans HS.out.gr.size hb.size, fun j hj hn => (hb.block j (by omega)).trans (HS.out.gr.block j hj hn)⟩

end Go.Proofs.Ythenjegmigeieaa

/- Package strata: Levels. -/
namespace Go.Proofs.Ythenjegmigeieaa
open Go.RowKit

namespace St
theorem thn_zero_iff {a b : Int} (h : Sc.thn a b = 0) : a = 0 ∧ b = 0 := by
  unfold Sc.thn at h
  split at h
  · exact ⟨by assumption, h⟩
  · exact absurd h (by assumption)
/-- What passes Check: so few rules, each with a head and with all that it hangs on. -/
theorem check_in {p : Sc.Prog} (h : Sc.check p = 0) : p.arity.length ≤ 10 ∧ p.rules.length ≤ 12 ∧ ∀ r, r ∈ p.rules → RuleIn p.arity.length r := by
  unfold Sc.check at h
  split at h
  · omega
  · rename_i h1
    split at h
    · omega
    · refine ⟨by omega, by omega, fun r hr => ?_⟩
      have h2 := first_zero (thn_zero_iff h).2 r hr
      unfold Sc.ruleErr at h2
      split at h2
      · rename_i hp
        obtain ⟨_, h2⟩ := thn_zero_iff h2
        obtain ⟨_, h2⟩ := thn_zero_iff h2
        obtain ⟨_, h2⟩ := thn_zero_iff h2
        obtain ⟨_, h2⟩ := thn_zero_iff h2
        obtain ⟨_, h2⟩ := thn_zero_iff h2
        obtain ⟨h4, h2⟩ := thn_zero_iff h2
        obtain ⟨h5, _⟩ := thn_zero_iff h2
        have hpp : 0 ≤ r.pred ∧ r.pred ≤ (p.arity.length : Int) - 1 := by
          unfold Sc.isPred Tr.between at hp
          simpa using hp
        refine ⟨hpp.1, by omega, fun x hx hk => ?_, ?_⟩
        · have h6 := first_zero h5 x hx
          obtain ⟨h6, _⟩ := thn_zero_iff h6
          unfold Sc.litErr at h6
          rw [if_pos (of_decide_eq_true hk)] at h6
          split at h6
          · omega
          · split at h6
            · rename_i h7
              unfold Sc.isPred Tr.between at h7
              have h8 : 0 ≤ x.pred ∧ x.pred ≤ (p.arity.length : Int) - 1 := by simpa using h7
              omega
            · omega
        · by_cases h9 : 4 < r.body.length
          · rw [if_pos h9] at h4; omega
          · omega
      · omega
theorem edges_in {p : Sc.Prog} (h : ∀ r, r ∈ p.rules → RuleIn p.arity.length r) : Fx.In (edges p) p.arity.length := fun e he => by
  obtain ⟨r, hr, h2⟩ := List.mem_flatMap.mp he
  unfold ruleE at h2
  obtain ⟨x, _, rfl⟩ := List.mem_map.mp h2
  have := (h r hr).h0
  have := (h r hr).h1
  show r.pred.toNat < p.arity.length
  omega
theorem back_in {p : Sc.Prog} (h : ∀ r, r ∈ p.rules → RuleIn p.arity.length r) : Fx.In (back p) p.arity.length := fun e he => by
  obtain ⟨r, hr, h2⟩ := List.mem_flatMap.mp he
  unfold ruleN at h2
  obtain ⟨x, hx, rfl⟩ := List.mem_map.mp h2
  have h3 := (h r hr).hb x (List.mem_filter.mp hx).1 (List.mem_filter.mp hx).2
  show x.pred.toNat < p.arity.length
  omega
/-- What Levels answers. -/
def levErr (p : Sc.Prog) : Int := if Sc.check p = 0 then (if flat p then 0 else 4) else Sc.check p
def levOut (p : Sc.Prog) : List Int := if Sc.check p = 0 ∧ flat p = true then level p else []
theorem levErr_bad {p : Sc.Prog} (h : ¬ Sc.check p = 0) : levErr p = Sc.check p ∧ levOut p = [] := by
  unfold levErr levOut
  rw [if_neg h, if_neg (fun k => h k.1)]
  exact ⟨rfl, rfl⟩
theorem levErr_flat {p : Sc.Prog} (h : Sc.check p = 0) (hf : flat p = true) : levErr p = 0 ∧ levOut p = level p := by
  unfold levErr levOut
  rw [if_pos h, if_pos hf, if_pos ⟨h, hf⟩]
  exact ⟨rfl, rfl⟩
theorem levErr_not {p : Sc.Prog} (h : Sc.check p = 0) (hf : flat p = false) : levErr p = 4 ∧ levOut p = [] := by
  unfold levErr levOut
  rw [if_pos h, if_neg (by simp [hf]), if_neg (by simp [hf])]
  exact ⟨rfl, rfl⟩
/-- Settled early is settled for good. -/
theorem level_early {p : Sc.Prog} {k : Nat} (hk : k ≤ p.arity.length) (h : Fx.round (edges p) (Fx.iter (edges p) k (zeros p.arity.length)) = Fx.iter (edges p) k (zeros p.arity.length)) : level p = Fx.iter (edges p) k (zeros p.arity.length) ∧ flat p = true := by
  have h1 : level p = Fx.iter (edges p) k (zeros p.arity.length) := by
    unfold level
    obtain ⟨d, hd⟩ : ∃ d, p.arity.length = k + d := ⟨p.arity.length - k, by omega⟩
    rw [hd, Fx.iter_add, ← hd, Fx.iter_fix h]
  refine ⟨h1, decide_eq_true ?_⟩
  rw [h1, h]
theorem iter_bound (E : List Fx.Edge) (hE : ∀ e, e ∈ E → e.2.2 ≤ 1) (n : Nat) : ∀ (k i : Nat), (Fx.iter E k (zeros n)).getD i 0 ≤ (k * E.length : Nat)
  | 0, i => by rw [show Fx.iter E 0 (zeros n) = zeros n from rfl, zeros_getD]; omega
  | k + 1, i => by
    rw [Fx.iter_succ]
    have := Fx.round_bound E (iter_bound E hE n k) hE i
    rw [Nat.add_mul]
    omega
theorem iter_nonneg (E : List Fx.Edge) (n k i : Nat) : 0 ≤ (Fx.iter E k (zeros n)).getD i 0 := by
  have := (Fx.iter_le E k (zeros n)).2 i
  rw [zeros_getD] at this
  exact this
end St

theorem made_ints (n : Nat) : madeCells #[Value.int .i64 0] n = intRow (St.zeros n) := by
  unfold intRow St.zeros
  apply Array.ext
  · simp [size_madeCells]
  · intro i h1 h2
    simp [madeCells, Nat.mod_one]
theorem intRow_ints {w : World} {b : Nat} {l : List Int} (cap : Nat) (h : w.heap[b]? = some (.cells (intRow l) 3)) : IntsV w (.slice (some ⟨b, 0, none⟩) l.length cap) l := by
  refine ⟨_, _, rfl, .inr ⟨b, 0, rfl, fun i hi => ?_⟩⟩
  rw [Nat.zero_add]
  exact intRow_cell h hi

theorem below_row {w wr w5 : World} {LB : Nat} (hb : Below w.heap.size w wr) (hg : wr.grownBy w5 (some LB)) (h : w.heap.size ≤ LB) : Below w.heap.size w w5 :=
  ⟨hg.os.trans hb.os, hg.tape.trans hb.tape, hg.output.trans hb.output, Nat.le_trans hb.size hg.size, fun j hj => (hg.block j (Nat.lt_of_lt_of_le hj hb.size) (fun e => by injection e with e; omega)).trans (hb.block j hj)⟩
theorem _root_.Go.World.grownBy.trans_row {a b c : World} {LB : Nat} (h : a.grownBy b (some LB)) (k : b.grownBy c (some LB)) : a.grownBy c (some LB) :=
  ⟨k.os.trans h.os, k.tape.trans h.tape, k.output.trans h.output, Nat.le_trans h.size k.size, fun j hj hn => (k.block j (Nat.lt_of_lt_of_le hj h.size) hn).trans (h.block j hj hn)⟩

set_option maxRecDepth 100000 in
set_option maxHeartbeats 1000000 in
theorem Levels_any (p : Sc.Prog) (va vn vr : Value) (w : World) (hP : ProgV w va vn vr p) (hF : ProgFit p) :
    Calls Try.prog 5 #[progVal va vn vr] w fun e w' => ∃ v, e = .returned (.tuple #[v, .int .i64 (St.levErr p)]) ∧ IntsV w' v (St.levOut p) ∧ Below w.heap.size w w' := by
  obtain ⟨a0, n0, rfl, _⟩ := id hP.ar
  obtain ⟨a1, n1, rfl, _⟩ := id hP.nm
  obtain ⟨a2, n2, rfl, _⟩ := id hP.rl
  have hb0 : Below w.heap.size w (w.alloc (.cells #[.slice a0 p.arity.length n0, .slice a1 p.names.length n1, .slice a2 p.rules.length n2] 26)) := (Below.refl _ _).alloc (Nat.le_refl _) _
  have hX := heap_alloc_new w (.cells #[.slice a0 p.arity.length n0, .slice a1 p.names.length n1, .slice a2 p.rules.length n2] 26)
  have HP : Hid _ := hP
  have HF : Hid _ := hF
  clear hP hF
  go_enter Try.func5, Try.ntmps5
  go_wp2_with fail
  generalize w.alloc (.cells #[.slice a0 p.arity.length n0, .slice a1 p.names.length n1, .slice a2 p.rules.length n2] 26) = w1 at *
  refine (ScCheck_any p _ _ _ w1 (HP.out.below hb0) HF.out).mono ?_
  rintro e w2 ⟨rfl, hb2⟩
  have hX2 := (hb2.block _ (Array.getElem?_eq_some_iff.mp hX).1).trans hX
  have hbw := hb0.trans (hb2.mono hb0.size)
  clear hX hb0 hb2
  by_cases hc : Sc.check p = 0
  · obtain ⟨hn, hr, hR⟩ := St.check_in hc
    have HC : Hid (Sc.check p = 0) := hc
    have HR : Hid _ := hR
    rw [hc]
    clear hc hR
    have c0 : w2.cell? ⟨w.heap.size, 0, none⟩ = some (.slice a0 p.arity.length n0) := by rw [Lib.cell_of_heap hX2]; rfl
    have hmk := run_make_row' (P := Try.prog) 22 3 (.int .i64 0) 8 Try.underlying22 (by kernel_rfl) rfl .i64 .i64 p.arity.length (by omega) (by omega)
    have b3 := (Below.refl w2.heap.size w2).alloc (Nat.le_refl _) (.cells (madeCells #[Value.int .i64 0] p.arity.length) 3)
    have hrow := heap_alloc_new w2 (.cells (madeCells #[Value.int .i64 0] p.arity.length) 3)
    have hX3 := (b3.block _ (Array.getElem?_eq_some_iff.mp hX2).1).trans hX2
    have hb3 := hbw.trans (b3.mono hbw.size)
    have c3 : (w2.alloc (.cells (madeCells #[Value.int .i64 0] p.arity.length) 3)).cell? ⟨w.heap.size, 0, none⟩ = some (.slice a0 p.arity.length n0) := by rw [Lib.cell_of_heap hX3]; rfl
    have hlw : w.heap.size < w2.heap.size := (Array.getElem?_eq_some_iff.mp hX2).1
    clear b3
    go_wp2_with fail
    rw [made_ints] at *
    generalize w2.alloc (.cells (intRow (St.zeros p.arity.length)) 3) = w3 at *
    generalize w2.heap.size = LB at *
    clear hmk c0 hX2 hbw c3
    have HX3 : Hid _ := hX3
    have HB3 : Hid _ := hb3
    clear hX3 hb3
    go_loopw [19] (fun i wr => ∃ k : Nat, k ≤ p.arity.length + 1 ∧ i = .int .i64 k ∧ wr.heap[LB]? = some (.cells (intRow (Fx.iter (St.edges p) k (St.zeros p.arity.length))) 3) ∧ (∀ j, j < k → Fx.round (St.edges p) (Fx.iter (St.edges p) j (St.zeros p.arity.length)) ≠ Fx.iter (St.edges p) j (St.zeros p.arity.length)) ∧ w3.grownBy wr (some LB)) (fun i _ => p.arity.length + 1 - (intOf i).toNat)
    case atStart => exact ⟨0, Nat.zero_le _, rfl, hrow, fun j hj => absurd hj (Nat.not_lt_zero _), ⟨rfl, rfl, rfl, Nat.le_refl _, fun _ _ _ => rfl⟩⟩
    case round =>
      clear hrow
      obtain ⟨k, hk, rfl, hrow, hno, hg⟩ := hrel
      have hXr : wr.heap[w.heap.size]? = some (.cells #[.slice a0 p.arity.length n0, .slice a1 p.names.length n1, .slice a2 p.rules.length n2] 26) := (hg.block _ (Array.getElem?_eq_some_iff.mp HX3.out).1 (fun e => by injection e with e; omega)).trans HX3.out
      have c2 : wr.cell? ⟨w.heap.size, 2, none⟩ = some (.slice a2 p.rules.length n2) := by rw [Lib.cell_of_heap hXr]; rfl
      have hbr : Below w.heap.size w wr := ⟨hg.os.trans HB3.out.os, hg.tape.trans HB3.out.tape, hg.output.trans HB3.out.output, Nat.le_trans HB3.out.size hg.size, fun j hj => (hg.block j (Nat.lt_of_lt_of_le hj HB3.out.size) (fun e => by injection e with e; omega)).trans (HB3.out.block j hj)⟩
      have HBR : Hid _ := hbr
      have HNO : Hid _ := hno
      have HROW : Hid _ := hrow
      have HG : Hid _ := hg
      clear hXr hbr hno hrow hg
      by_cases hlt : k < p.arity.length + 1
      · have hel := edgesOf_length p.rules (fun r hr => (HR.out r hr).hl)
        have hlen : (Fx.iter (St.edges p) k (St.zeros p.arity.length)).length = p.arity.length := by rw [Fx.iter_length]; simp [St.zeros]
        have HRA := raise_any w wr p.rules (.slice a2 p.rules.length n2) (Fx.iter (St.edges p) k (St.zeros p.arity.length)) LB p.arity.length 528 HP.out.rl HBR.out (by omega) HROW.out (by rw [hlen]; exact HR.out) hr (St.iter_nonneg _ _ _) (fun i => by
          have h9 := St.iter_bound (St.edges p) (edgesOf_one p.rules) p.arity.length k i
          have h8 : (k * (St.edges p).length : Nat) ≤ 11 * 48 := Nat.mul_le_mul (by omega) (by show (St.edgesOf p.rules).length ≤ 48; omega)
          omega) (by decide)
        rw [hlen] at HRA
        have HRA : Hid _ := HRA
        clear hel hlen
        go_wp2_with fail
        refine Calls.mono HRA.out ?_
        rintro e w5 ⟨rfl, hrow5, hg5⟩
        have HR5 : Hid _ := hrow5
        have HG5 : Hid _ := hg5
        clear HRA hrow5 hg5
        by_cases hfx : Fx.round (St.edgesOf p.rules) (Fx.iter (St.edges p) k (St.zeros p.arity.length)) = Fx.iter (St.edges p) k (St.zeros p.arity.length)
        · have hfd : decide (Fx.round (St.edgesOf p.rules) (Fx.iter (St.edges p) k (St.zeros p.arity.length)) ≠ Fx.iter (St.edges p) k (St.zeros p.arity.length)) = false := decide_eq_false (fun h => h hfx)
          have HL := St.level_early (p := p) (k := k) (by omega) hfx
          have HE := St.levErr_flat HC.out HL.2
          have HL : Hid _ := HL
          have HE : Hid _ := HE
          rw [hfd]
          rw [hfx] at HR5
          clear hfx hfd
          go_wp2_with fail
          refine bodyPost_ret (results_tmp2 rfl _ _ _) rfl ⟨_, by rw [HE.out.1]; rfl, ?_, ?_⟩
          · rw [HE.out.2, HL.out.1]
            have h9 := intRow_ints p.arity.length HR5.out
            rw [Fx.iter_length, show (St.zeros p.arity.length).length = p.arity.length by simp [St.zeros]] at h9
            exact h9
          · exact below_row HBR.out HG5.out (by omega)
        · have hfd : decide (Fx.round (St.edgesOf p.rules) (Fx.iter (St.edges p) k (St.zeros p.arity.length)) ≠ Fx.iter (St.edges p) k (St.zeros p.arity.length)) = true := decide_eq_true hfx
          have HFX : Hid _ := hfx
          rw [hfd]
          clear hfx hfd
          go_wp2_with fail
          go_roundw
          case rel =>
            refine ⟨k + 1, by omega, by go_num, by rw [Fx.iter_succ]; exact HR5.out, fun j hj => ?_, HG.out.trans_row HG5.out⟩
            by_cases hjk : j = k
            · rw [hjk]; exact HFX.out
            · exact HNO.out j (by omega)
          case measure => simp [intOf]; omega
      · obtain rfl : k = p.arity.length + 1 := by omega
        have HE := St.levErr_not (p := p) HC.out (decide_eq_false (HNO.out p.arity.length (by omega)))
        have HE : Hid _ := HE
        clear c2
        go_wp2_with fail
        refine bodyPost_ret (results_tmp2 rfl _ _ _) rfl ⟨_, by rw [HE.out.1]; rfl, by rw [HE.out.2]; exact ⟨none, 0, rfl, .inl rfl⟩, HBR.out⟩
  · have hcd : (Sc.check p == 0) = false := by simp [hc]
    have HE := St.levErr_bad hc
    have HE : Hid _ := HE
    clear hc
    go_wp2_with fail
    refine bodyPost_ret (results_tmp2 rfl _ _ _) rfl ?_
    exact ⟨_, by rw [HE.out.1]; rfl, by rw [HE.out.2]; exact ⟨none, 0, rfl, .inl rfl⟩, hbw⟩

end Go.Proofs.Ythenjegmigeieaa

/- Package relation: keep. -/
namespace Go.Proofs.Ythenjegmigeieaa
open Go.RowKit

/-- What tells whether a fact is kept. -/
def Keeps1 (h : Nat) (cb : Array Value) (w : World) (P : Rl.Fc → Bool) : Prop :=
  ∀ (z : World) (f : Rl.Fc) (ao : Option Addr) (cap : Nat), Below w.heap.size w z → IntsV z (.slice ao f.args.length cap) f.args → FFit f → Calls Try.prog h (#[fcVal f.pred (.slice ao f.args.length cap)] ++ cb) z fun e w' => e = .returned (.bool (P f)) ∧ Below z.heap.size z w'

theorem rl_own_le {w : World} {base base' size n : Nat} {e : TypeId} {v : Value} {xs : List Value} (h : w.ownsRow base e size v n xs) (hb : base' ≤ base) : w.ownsRow base' e size v n xs := by
  obtain ⟨h1, h2⟩ := h
  refine ⟨h1, ?_⟩
  rcases h2 with h2 | ⟨g, cap, cur, hv, hg, r⟩
  · exact .inl h2
  · exact .inr ⟨g, cap, cur, hv, Nat.le_trans hb hg, r⟩
theorem ownsRow_forms9 {w : World} {base size n : Nat} {e : TypeId} {v : Value} {xs : List Value} (h : w.ownsRow base e size v n xs) : (v = .slice none 0 0 ∧ n = 0) ∨ ∃ g cap, v = .slice (some ⟨g, 0, none⟩) n cap := by
  rcases h.2 with h2 | ⟨g, cap, cur, hv, _⟩
  · exact .inl h2
  · exact .inr ⟨g, cap, hv⟩
theorem news2 (w : World) (a b : Value) (e : TypeId) : ∀ j z, [a, b][j]? = some z → (w.alloc (.cells #[a, b] e)).cell? ((⟨w.heap.size, 0, none⟩ : Addr).add j) = some z := by
  intro j z hj
  have hbx := rl_new w (.cells #[a, b] e)
  match j, hj with
  | 0, hj =>
    have hz : a = z := by simpa using hj
    subst hz
    rw [Addr.add_lit, Lib.cell_of_heap hbx]
    rfl
  | 1, hj =>
    have hz : b = z := by simpa using hj
    subst hz
    rw [Addr.add_lit, Lib.cell_of_heap hbx]
    rfl
theorem fv_slice {w : World} {x : Fv} (h : FvOk w x) : ∃ a c, x.2 = .slice a x.1.args.length c := by
  obtain ⟨⟨a, c, h, _⟩, _⟩ := h
  exact ⟨a, c, h⟩

end Go.Proofs.Ythenjegmigeieaa

/- Package strata: copied. -/
namespace Go.Proofs.Ythenjegmigeieaa
open Go.RowKit

def tCells (l : List Sc.Term) : List Value := (l.map fun t => [Value.int .i64 t.var, Value.int .i64 t.n]).flatten
abbrev Lv := Sc.Lit × Value
def lvCells (p : Lv) : List Value := [.int .i64 p.1.kind, .int .i64 p.1.op, .int .i64 p.1.pred, p.2]
def lCells (q : List Lv) : List Value := (q.map lvCells).flatten

theorem flat_at {α : Type} (f : α → List Value) (c : Nat) (hf : ∀ a, (f a).length = c) : ∀ (l : List α) (i : Nat) (a : α) (t : Nat), l[i]? = some a → t < c → (l.map f).flatten[i * c + t]? = (f a)[t]?
  | [], i, a, t, h, _ => by simp at h
  | b :: l, 0, a, t, h, ht => by
    have hab : b = a := by simpa using h
    subst hab
    rw [List.map_cons, List.flatten_cons, Nat.zero_mul, Nat.zero_add, List.getElem?_append_left (by rw [hf]; exact ht)]
  | b :: l, i + 1, a, t, h, ht => by
    have h' : l[i]? = some a := by simpa using h
    rw [List.map_cons, List.flatten_cons, List.getElem?_append_right (by rw [hf, Nat.add_mul]; omega), hf]
    have e : (i + 1) * c + t - c = i * c + t := by rw [Nat.add_mul]; omega
    rw [e]
    exact flat_at f c hf l i a t h' ht
theorem flat_len {α : Type} (f : α → List Value) (c : Nat) (hf : ∀ a, (f a).length = c) : ∀ (l : List α), (l.map f).flatten.length = l.length * c
  | [] => by simp
  | b :: l => by rw [List.map_cons, List.flatten_cons, List.length_append, hf, flat_len f c hf l, List.length_cons, Nat.add_mul]; omega
theorem flatv_get {α : Type} (f : α → List Value) (c : Nat) (hc : 0 < c) (hf : ∀ a, (f a).length = c) (l : List α) (j : Nat) (u : Value) (h : (l.map f).flatten[j]? = some u) : ∃ a, l[j / c]? = some a ∧ (f a)[j % c]? = some u := by
  have hj : j < l.length * c := by
    rw [← flat_len f c hf l]
    exact (List.getElem?_eq_some_iff.mp h).1
  have hd : j / c < l.length := (Nat.div_lt_iff_lt_mul hc).mpr hj
  refine ⟨l[j / c], List.getElem?_eq_getElem hd, ?_⟩
  rw [← flat_at f c hf l (j / c) l[j / c] (j % c) (List.getElem?_eq_getElem hd) (Nat.mod_lt _ hc), Nat.mul_comm, Nat.div_add_mod]
  exact h

/-- Terms, literals in rows of their own. -/
def TermsO (W : World) (v : Value) (l : List Sc.Term) : Prop := W.ownsRow 0 57 2 v l.length (tCells l)
def LitsO (W : World) (v : Value) (q : List Lv) : Prop := W.ownsRow 0 52 4 v q.length (lCells q) ∧ ∀ p, p ∈ q → TermsO W p.2 p.1.terms
/-- What changes no row of terms and of literals. -/
def KeepT (W W' : World) : Prop := ∀ (k : Nat) (a : Array Value) (t : TypeId), W.heap[k]? = some (.cells a t) → (t = 52 ∨ t = 57) → W'.heap[k]? = some (.cells a t)
theorem own_type {W W' : World} {B e c n : Nat} {v : Value} {xs : List Value} (h : W.ownsRow B e c v n xs) (hk : ∀ (k : Nat) (a : Array Value), W.heap[k]? = some (.cells a e) → W'.heap[k]? = some (.cells a e)) : W'.ownsRow B e c v n xs := by
  obtain ⟨h1, h2⟩ := h
  refine ⟨h1, ?_⟩
  rcases h2 with h2 | ⟨g, cap, cur, hv, hg, hh, r⟩
  · exact .inl h2
  · exact .inr ⟨g, cap, cur, hv, hg, hk g cur hh, r⟩
theorem TermsO.keep {W W' : World} {v : Value} {l : List Sc.Term} (h : TermsO W v l) (hk : KeepT W W') : TermsO W' v l := own_type h fun k a ha => hk k a 57 ha (.inr rfl)
theorem LitsO.keep {W W' : World} {v : Value} {q : List Lv} (h : LitsO W v q) (hk : KeepT W W') : LitsO W' v q := ⟨own_type h.1 fun k a ha => hk k a 52 ha (.inl rfl), fun p hp => (h.2 p hp).keep hk⟩
theorem KeepT.of_below {W W' : World} (h : Below W.heap.size W W') : KeepT W W' := fun k _ _ ha _ => (h.block k (Array.getElem?_eq_some_iff.mp ha).1).trans ha
theorem KeepT.trans {A B C : World} (h : KeepT A B) (k : KeepT B C) : KeepT A C := fun i a t ha ht => k i a t (h i a t ha ht) ht
theorem own_cells {W : World} {B e c n : Nat} {v : Value} {xs : List Value} (h : W.ownsRow B e c v n xs) : ∃ ao cap, v = .slice ao n cap ∧ n ≤ cap ∧ (n = 0 ∨ ∃ g, ao = some ⟨g, 0, none⟩ ∧ ∀ j, j < n * c → W.cell? ⟨g, j, none⟩ = xs[j]?) := by
  rcases ownsRow_forms9 h with ⟨rfl, rfl⟩ | ⟨g, cap, rfl⟩
  · exact ⟨none, 0, rfl, Nat.le_refl _, .inl rfl⟩
  · refine ⟨_, cap, rfl, ?_, .inr ⟨g, rfl, fun j hj => h.cellAt j hj⟩⟩
    rcases h.2 with ⟨h2, _⟩ | ⟨g2, cap2, cur, hv, _, _, hle, _⟩
    · cases h2
    · injection hv with _ _ h3
      omega
theorem TermsO.toV {W : World} {v : Value} {l : List Sc.Term} (h : TermsO W v l) : PTermsV W v l := by
  obtain ⟨ao, cap, rfl, hle, hc⟩ := own_cells h
  refine ⟨ao, cap, rfl, hle, ?_⟩
  rcases hc with h0 | ⟨g, rfl, hc⟩
  · exact .inl (List.length_eq_zero_iff.mp h0)
  · refine .inr ⟨g, 0, rfl, fun i hi => ?_⟩
    have hl : l[i]? = some (Sc.termD l i) := by unfold Sc.termD; simp [hi]
    have h0 := flat_at (fun t : Sc.Term => [Value.int .i64 t.var, Value.int .i64 t.n]) 2 (fun _ => rfl) l i _ 0 hl (by decide)
    have h1 := flat_at (fun t : Sc.Term => [Value.int .i64 t.var, Value.int .i64 t.n]) 2 (fun _ => rfl) l i _ 1 hl (by decide)
    constructor
    · have := hc (i * 2 + 0) (by omega)
      rw [Nat.zero_add]
      exact this.trans h0
    · have := hc (i * 2 + 1) (by omega)
      rw [Nat.zero_add]
      exact this.trans h1
theorem LitsO.toV {W : World} {v : Value} {q : List Lv} (h : LitsO W v q) : PLitsV W v (q.map (·.1)) := by
  obtain ⟨ao, cap, rfl, hle, hc⟩ := own_cells h.1
  refine ⟨ao, cap, by rw [List.length_map], ?_⟩
  rcases hc with h0 | ⟨g, rfl, hc⟩
  · exact .inl (by rw [List.length_eq_zero_iff.mp h0]; rfl)
  · refine .inr ⟨g, 0, rfl, fun i hi => ?_⟩
    rw [List.length_map] at hi
    have hl : q[i]? = some q[i] := List.getElem?_eq_getElem hi
    have hd : Sc.litD (q.map (·.1)) i = q[i].1 := by unfold Sc.litD; simp [hi]
    rw [hd]
    have hat := fun t ht => flat_at lvCells 4 (fun _ => rfl) q i _ t hl ht
    refine ⟨?_, ?_, ?_, q[i].2, ?_, (h.2 _ (List.getElem_mem hi)).toV⟩
    · have := hc (i * 4 + 0) (by omega)
      rw [Nat.zero_add]
      exact this.trans (hat 0 (by decide))
    · have := hc (i * 4 + 1) (by omega)
      rw [Nat.zero_add]
      exact this.trans (hat 1 (by decide))
    · have := hc (i * 4 + 2) (by omega)
      rw [Nat.zero_add]
      exact this.trans (hat 2 (by decide))
    · have := hc (i * 4 + 3) (by omega)
      rw [Nat.zero_add]
      exact this.trans (hat 3 (by decide))
theorem own_zero {W : World} {B e c n : Nat} {v : Value} {xs : List Value} (h : W.ownsRow B e c v n xs) : W.ownsRow 0 e c v n xs := rl_own_le h (Nat.zero_le _)

theorem cloneT_any (l : List Sc.Term) (v : Value) (w : World) (hV : PTermsV w v l) (hl : l.length ≤ 1048576) :
    Calls Try.prog 27 #[v] w fun e w' => ∃ v', e = .returned v' ∧ TermsO w' v' l ∧ Below w.heap.size w w' := by
  obtain ⟨ao, cap, rfl, hle, hA⟩ := hV
  cases ao with
  | none =>
    have hl0 : l = [] := by
      rcases hA with h | ⟨b, off, h, _⟩
      · exact h
      · cases h
    subst hl0
    refine (cloneT_nil _ cap w).mono ?_
    rintro e w' ⟨rfl, hb⟩
    exact ⟨_, rfl, World.ownsRow_nil _ _ _ _, hb⟩
  | some a =>
    refine (cloneT_some a l.length cap (tCells l) w (flat_len _ 2 (fun _ => rfl) l) (fun j u hj => ?_) (fun u hu => ?_) hl).mono ?_
    · obtain ⟨t, ht, hu⟩ := flatv_get (fun t : Sc.Term => [Value.int .i64 t.var, Value.int .i64 t.n]) 2 (by decide) (fun _ => rfl) l j u hj
      rcases hA with h | ⟨b, off, h, hc⟩
      · rw [h] at ht; simp at ht
      · have ha := Option.some.inj h
        subst ha
        have hjl : j / 2 < l.length := (List.getElem?_eq_some_iff.mp ht).1
        have h9 := hc (j / 2) hjl
        have hd : Sc.termD l (j / 2) = t := by unfold Sc.termD; rw [List.getD_eq_getElem?_getD, ht]; rfl
        rw [hd] at h9
        rw [Addr.add_lit]
        rcases Nat.mod_two_eq_zero_or_one j with h2 | h2
        · rw [h2] at hu
          have e : off + j = off + j / 2 * 2 := by omega
          rw [e, h9.1]
          exact hu
        · rw [h2] at hu
          have e : off + j = off + j / 2 * 2 + 1 := by omega
          rw [e, h9.2]
          exact hu
    · obtain ⟨x, hx, hu⟩ := List.mem_flatten.mp hu
      obtain ⟨t, _, rfl⟩ := List.mem_map.mp hx
      simp only [List.mem_cons, List.not_mem_nil, or_false] at hu
      rcases hu with rfl | rfl <;> rfl
    · rintro e w' ⟨v', rfl, ho, hb⟩
      exact ⟨v', rfl, own_zero ho, hb⟩

theorem cloneL_any (l : List Sc.Lit) (v : Value) (w0 w : World) (hb0 : Below w0.heap.size w0 w) (hV : PLitsV w0 v l) (hl : l.length ≤ 1048576) :
    Calls Try.prog 28 #[v] w fun e w' => ∃ (v' : Value) (q : List Lv), e = .returned v' ∧ q.map (·.1) = l ∧ w'.ownsRow w.heap.size 52 4 v' q.length (lCells q) ∧ (∀ p, p ∈ q → PTermsV w0 p.2 p.1.terms) ∧ Below w.heap.size w w' := by
  obtain ⟨ao, cap, rfl, hA⟩ := hV
  cases ao with
  | none =>
    have hl0 : l = [] := by
      rcases hA with h | ⟨b, off, h, _⟩
      · exact h
      · cases h
    subst hl0
    refine (cloneL_nil _ cap w).mono ?_
    rintro e w' ⟨rfl, hb⟩
    exact ⟨_, [], rfl, rfl, World.ownsRow_nil _ _ _ _, fun p hp => absurd hp (by simp), hb⟩
  | some a =>
    have hq : ∃ q : List Lv, q.map (·.1) = l ∧ (∀ p, p ∈ q → PTermsV w0 p.2 p.1.terms) ∧ ∀ j u, (lCells q)[j]? = some u → w.cell? (a.add j) = some u := by
      rcases hA with h | ⟨b, off, h, hc⟩
      · exact ⟨[], by rw [h]; rfl, fun p hp => absurd hp (by simp), fun j u hj => by simp [lCells] at hj⟩
      · have ha := Option.some.inj h
        subst ha
        obtain ⟨f, hf⟩ := Deep.choose_lt (n := l.length) (p := fun i u => w0.cell? ⟨b, off + i * 4 + 3, none⟩ = some u ∧ PTermsV w0 u (Sc.litD l i).terms) (fun i hi => by
          obtain ⟨_, _, _, u, h3, h4⟩ := hc i hi
          exact ⟨u, h3, h4⟩)
        refine ⟨(List.range l.length).map fun i => (Sc.litD l i, f i), ?_, ?_, ?_⟩
        · apply List.ext_getElem?
          intro i
          rw [List.map_map, List.getElem?_map]
          by_cases hi : i < l.length
          · rw [List.getElem?_range hi]
            simp [Sc.litD, hi]
          · rw [List.getElem?_eq_none (by simp; omega), List.getElem?_eq_none (by omega)]
            rfl
        · intro p hp
          obtain ⟨i, hi, rfl⟩ := List.mem_map.mp hp
          exact (hf i (List.mem_range.mp hi)).2
        · intro j u hj
          obtain ⟨p, hp, hu⟩ := flatv_get lvCells 4 (by decide) (fun _ => rfl) _ j u hj
          have hjl : j / 4 < l.length := by have := (List.getElem?_eq_some_iff.mp hp).1; simpa using this
          rw [List.getElem?_map, List.getElem?_range hjl] at hp
          obtain rfl : (Sc.litD l (j / 4), f (j / 4)) = p := by simpa using hp
          obtain ⟨h0, h1, h2, _⟩ := hc (j / 4) hjl
          have h0 := cell_below hb0 h0
          have h1 := cell_below hb0 h1
          have h2 := cell_below hb0 h2
          have h3 := cell_below hb0 (hf (j / 4) hjl).1
          rw [Addr.add_lit]
          have hm : j % 4 = 0 ∨ j % 4 = 1 ∨ j % 4 = 2 ∨ j % 4 = 3 := by omega
          rcases hm with hm | hm | hm | hm
          · rw [hm] at hu
            rw [show off + j = off + j / 4 * 4 by omega, h0]
            exact hu
          · rw [hm] at hu
            rw [show off + j = off + j / 4 * 4 + 1 by omega, h1]
            exact hu
          · rw [hm] at hu
            rw [show off + j = off + j / 4 * 4 + 2 by omega, h2]
            exact hu
          · rw [hm] at hu
            rw [show off + j = off + j / 4 * 4 + 3 by omega, h3]
            exact hu
    obtain ⟨q, hql, hqt, hqc⟩ := hq
    have hlen : q.length = l.length := by rw [← hql, List.length_map]
    refine (cloneL_some a l.length cap (lCells q) w (by rw [← hlen]; exact flat_len _ 4 (fun _ => rfl) q) hqc (fun u hu => ?_) hl).mono ?_
    · obtain ⟨x, hx, hu⟩ := List.mem_flatten.mp hu
      obtain ⟨p, hp, rfl⟩ := List.mem_map.mp hx
      obtain ⟨pa, pc, hpv, _⟩ := hqt p hp
      simp only [lvCells, List.mem_cons, List.not_mem_nil, or_false] at hu
      rcases hu with rfl | rfl | rfl | rfl
      · rfl
      · rfl
      · rfl
      · rw [hpv]; rfl
    · rintro e w' ⟨v', rfl, ho, hb⟩
      exact ⟨v', q, rfl, hql, by rw [hlen]; exact ho, hqt, hb⟩

end Go.Proofs.Ythenjegmigeieaa

/- A region that draws its order, by an invariant over what has been carried out: one proof for each operation, not one for each order. -/
namespace Go.Proofs.Ythenjegmigeieaa

section
variable {P : Program} {ops : Array Oper} {Q : Exit → Act → World → Prop} {md : Region.Mode}

theorem ready_mem {s : Array Bool} {i : Nat} (h : i ∈ Region.ready md ops s) : s[i]? = some false ∧ ∃ o, ops[i]? = some o ∧ ∀ e, e ∈ o.after → Region.binds md e = true → s[e.on]? = some true := by
  unfold Region.ready at h
  obtain ⟨_, h⟩ := List.mem_filter.mp h
  rw [Bool.and_eq_true] at h
  obtain ⟨h1, h2⟩ := h
  refine ⟨?_, ?_⟩
  · cases hs : s[i]? with
    | none => simp [Array.getD_eq_getD_getElem?, hs] at h1
    | some b => cases b <;> simp [Array.getD_eq_getD_getElem?, hs] at h1 ⊢
  · cases ho : ops[i]? with
    | none => simp [ho] at h2
    | some o =>
      refine ⟨o, rfl, fun e he hb => ?_⟩
      rw [ho, Option.map_some, Option.getD_some, Array.all_eq_true_iff_forall_mem] at h2
      have h3 := h2 e he
      rw [hb] at h3
      cases hs : s[e.on]? with
      | none => simp [Array.getD_eq_getD_getElem?, hs] at h3
      | some b => cases b <;> simp [Array.getD_eq_getD_getElem?, hs] at h3 ⊢

/-- How many are not yet carried out. -/
def left (s : Array Bool) : Nat := s.toList.countP (fun b => !b)
theorem left_zero {s : Array Bool} (h : left s = 0) : Region.ready md ops s = [] := by
  cases hr : Region.ready md ops s with
  | nil => rfl
  | cons i r =>
    have h1 := (ready_mem (s := s) (i := i) (by rw [hr]; exact List.mem_cons_self)).1
    have h2 : false ∈ s.toList := by
      rw [← Array.getElem?_toList] at h1
      exact List.mem_of_getElem? h1
    have h3 := List.countP_eq_zero.mp h false h2
    simp at h3
theorem left_set {s : Array Bool} {i : Nat} (h : s[i]? = some false) : left (s.setIfInBounds i true) + 1 = left s := by
  obtain ⟨hi, he⟩ := Array.getElem?_eq_some_iff.mp h
  unfold left
  have h1 : (s.setIfInBounds i true).toList = s.toList.set i true := by simp
  rw [h1, List.countP_set (h := by simpa using hi)]
  have hm : 0 < s.toList.countP (fun b => !b) := List.countP_pos_iff.mpr ⟨false, by rw [← Array.getElem?_toList] at h; exact List.mem_of_getElem? h, rfl⟩
  have h2 : s.toList[i]'(by simpa using hi) = false := by rw [Array.getElem_toList]; exact he
  rw [h2]
  simp only [Bool.not_false, Bool.not_true, if_true, Bool.false_eq_true, if_false]
  omega

theorem wpAny_inv (I : Array Bool → Act → World → Prop) (hend : ∀ s a w, Region.ready md ops s = [] → I s a w → Q .normal a w)
    (hstep : ∀ s a w i, i ∈ Region.ready md ops s → I s a w → wpOp P ops Q i (I (s.setIfInBounds i true)) a w) :
    ∀ (fuel : Nat) (s : Array Bool) (a : Act) (w : World), left s ≤ fuel → I s a w → wpAny P md ops Q fuel s a w
  | 0, s, a, w, hc, hI => ⟨left_zero (by omega), hend s a w (left_zero (by omega)) hI⟩
  | fuel + 1, s, a, w, hc, hI => ⟨fun h0 => hend s a w h0 hI, fun i hi => wpOp_mono (fun a' w' hI' => wpAny_inv I hend hstep fuel _ a' w' (by have := left_set (ready_mem hi).1; omega) hI') (hstep s a w i hi hI)⟩

/-- The region itself. -/
theorem wp_region_inv (I : Array Bool → Act → World → Prop) {id : Nat} {a : Act} {w : World} (hm : P.follows .mixedOrders = true)
    (hend : ∀ s a w, Region.ready .any ops s = [] → I s a w → Q .normal a w)
    (hstep : ∀ s a w i, i ∈ Region.ready .any ops s → I s a w → wpOp P ops Q i (I (s.setIfInBounds i true)) a w)
    (h0 : I (Array.replicate ops.size false) a { w with drawn := w.drawn + 1 }) : (Code.region id ops true).wp P Q a w := by
  refine wp_region_any hm (wpAny_inv I hend hstep ops.size _ _ _ ?_ h0)
  unfold left
  exact Nat.le_trans List.countP_le_length (by simp)
end

end Go.Proofs.Ythenjegmigeieaa

/- A region that draws its order, by a table: of each temporary that it writes, what holds of its value once it is written. One goal for each operation. -/
namespace Go.Proofs.Ythenjegmigeieaa
open Go.RowKit

/-- All that is written is written once, and within the frame; what is waited for stands ahead. -/
def tabFine (ops : Array Oper) (n : Nat) : Bool :=
  decide ((ops.toList.filterMap (·.dst)).Nodup) && (ops.toList.filterMap (·.dst)).all (fun t => decide (t < n)) && (List.range ops.size).all (fun i => ((ops[i]?).map (fun o => o.after.toList.all (fun e => decide (e.on < i)))).getD true)

/-- The table at what is done. -/
structure Tabbed (ops : Array Oper) (T : Nat → Value → World → Prop) (a0 : Act) (w0 : World) (s : Array Bool) (a : Act) (w : World) : Prop where
  below : Below w0.heap.size w0 w
  defers : a.defers = a0.defers
  size : a.tmps.size = a0.tmps.size
  still : ∀ t, t ∉ ops.toList.filterMap (·.dst) → a.tmps.getD t undef = a0.tmps.getD t undef
  done : ∀ (i : Nat) (o : Oper) (t : Nat), s[i]? = some true → ops[i]? = some o → o.dst = some t → T t (a.tmps.getD t undef) w

section
variable {P : Program} {ops : Array Oper} {Q : Exit → Act → World → Prop} {T : Nat → Value → World → Prop}

theorem dst_mem {i : Nat} {o : Oper} {t : Nat} (h : ops[i]? = some o) (ht : o.dst = some t) : t ∈ ops.toList.filterMap (·.dst) := by
  refine List.mem_filterMap.mpr ⟨o, ?_, ht⟩
  rw [← Array.getElem?_toList] at h
  exact List.mem_of_getElem? h

theorem dst_inj : ∀ (l : List Oper), (l.filterMap (·.dst)).Nodup → ∀ (i j : Nat) (o o' : Oper) (t : Nat), l[i]? = some o → l[j]? = some o' → o.dst = some t → o'.dst = some t → i = j
  | [], _, i, j, o, o', t, h, _, _, _ => by simp at h
  | x :: l, hn, i, j, o, o', t, hi, hj, ho, ho' => by
    have hmem : ∀ k (o : Oper), l[k]? = some o → o.dst = some t → t ∈ l.filterMap (·.dst) := fun k o h1 h2 => List.mem_filterMap.mpr ⟨o, List.mem_of_getElem? h1, h2⟩
    cases i with
    | zero =>
      cases j with
      | zero => rfl
      | succ j =>
        simp only [List.getElem?_cons_zero, Option.some.injEq] at hi
        subst hi
        simp only [List.getElem?_cons_succ] at hj
        rw [List.filterMap_cons, ho] at hn
        exact absurd (hmem j o' hj ho') (List.nodup_cons.mp hn).1
    | succ i =>
      cases j with
      | zero =>
        simp only [List.getElem?_cons_zero, Option.some.injEq] at hj
        subst hj
        simp only [List.getElem?_cons_succ] at hi
        rw [List.filterMap_cons, ho'] at hn
        exact absurd (hmem i o hi ho) (List.nodup_cons.mp hn).1
      | succ j =>
        simp only [List.getElem?_cons_succ] at hi hj
        have hn' : (l.filterMap (·.dst)).Nodup := by
          rw [List.filterMap_cons] at hn
          cases hx : x.dst with
          | none => rw [hx] at hn; exact hn
          | some z => rw [hx] at hn; exact (List.nodup_cons.mp hn).2
        exact congrArg (· + 1) (dst_inj l hn' i j o o' t hi hj ho ho')

/-- What an operation's goal may take as given. -/
structure OpIn (ops : Array Oper) (T : Nat → Value → World → Prop) (a0 : Act) (w0 : World) (o : Oper) (a : Act) (w : World) : Prop where
  below : Below w0.heap.size w0 w
  still : ∀ t, t ∉ ops.toList.filterMap (·.dst) → a.tmps.getD t undef = a0.tmps.getD t undef
  has : ∀ e, e ∈ o.after → Region.binds .any e = true → ∀ (o' : Oper) (t : Nat), ops[e.on]? = some o' → o'.dst = some t → T t (a.tmps.getD t undef) w

/-- What an operation must do. -/
def OpOk (P : Program) (ops : Array Oper) (Q : Exit → Act → World → Prop) (T : Nat → Value → World → Prop) (o : Oper) (a : Act) (w : World) : Prop :=
  if Region.wanted o (yielded ops a.tmps) then o.wp P a w (fun a' w' => ∃ v, a' = a.put o.dst v ∧ (∀ t, o.dst = some t → T t v w') ∧ Below w.heap.size w w') Q ∨ (o.asks P a w ∧ LetsOut Q)
  else ∀ t, o.dst = some t → T t undef w

theorem put_get_self {a : Act} {t : Nat} {v : Value} (h : t < a.tmps.size) : (a.put (some t) v).tmps.getD t undef = v := by
  simp [Act.put, Array.getD_eq_getD_getElem?, h]
theorem put_get_ne {a : Act} {t u : Nat} {v : Value} (h : u ≠ t) : (a.put (some t) v).tmps.getD u undef = a.tmps.getD u undef := by
  simp [Act.put, Array.getD_eq_getD_getElem?, Ne.symm h]
theorem put_size {a : Act} {d : Option Nat} {v : Value} : (a.put d v).tmps.size = a.tmps.size := by
  cases d <;> simp [Act.put]
theorem put_defers {a : Act} {d : Option Nat} {v : Value} : (a.put d v).defers = a.defers := by
  cases d <;> simp [Act.put]

theorem wp_region_tab (T : Nat → Value → World → Prop) {id : Nat} {a0 : Act} {w0 : World} (hm : P.follows .mixedOrders = true)
    (hf : tabFine ops a0.tmps.size = true)
    (hmono : ∀ t v w w', Below w.heap.size w w' → T t v w → T t v w')
    (hop : ∀ (i : Nat) (o : Oper), ops[i]? = some o → ∀ a w, OpIn ops T a0 w0 o a w → OpOk P ops Q T o a w)
    (hend : ∀ a w, Below w0.heap.size w0 w → a.defers = a0.defers → a.tmps.size = a0.tmps.size → (∀ t, t ∉ ops.toList.filterMap (·.dst) → a.tmps.getD t undef = a0.tmps.getD t undef) → (∀ t, t ∈ ops.toList.filterMap (·.dst) → T t (a.tmps.getD t undef) w) → Q .normal a w) :
    (Code.region id ops true).wp P Q a0 w0 := by
  unfold tabFine at hf
  rw [Bool.and_eq_true, Bool.and_eq_true] at hf
  obtain ⟨⟨hnd, hlt⟩, hah⟩ := hf
  have hnd := of_decide_eq_true hnd
  have hlt' : ∀ t, t ∈ ops.toList.filterMap (·.dst) → t < a0.tmps.size := fun t ht => by
    have h := List.all_eq_true.mp hlt t ht
    exact of_decide_eq_true h
  have hah' : ∀ (i : Nat) (o : Oper), ops[i]? = some o → ∀ e, e ∈ o.after → e.on < i := fun i o ho e he => by
    have hi : i < ops.size := (Array.getElem?_eq_some_iff.mp ho).1
    have h := List.all_eq_true.mp hah i (List.mem_range.mpr hi)
    rw [ho, Option.map_some, Option.getD_some] at h
    exact of_decide_eq_true (List.all_eq_true.mp h e (by simpa using he))
  have hset : ∀ {T : Nat → Value → World → Prop} {s : Array Bool} {a : Act} {w w' : World} {i : Nat} {o : Oper} {v : Value}, (∀ t v w w', Below w.heap.size w w' → T t v w → T t v w') → s.size = ops.size → ops[i]? = some o → Tabbed ops T a0 w0 s a w → (∀ t, o.dst = some t → T t v w') → Below w.heap.size w w' → Tabbed ops T a0 w0 (s.setIfInBounds i true) (a.put o.dst v) w' := by
    intro T s a w w' i o v hmono hs ho hI hv hb
    refine ⟨hI.below.trans (hb.mono hI.below.size), by rw [put_defers]; exact hI.defers, by rw [put_size]; exact hI.size, fun t ht => ?_, fun j oj t hj hoj hd => ?_⟩
    · cases hd : o.dst with
      | none => exact hI.still t ht
      | some u =>
        have hne : t ≠ u := fun h => ht (h ▸ dst_mem ho hd)
        rw [put_get_ne hne]
        exact hI.still t ht
    · by_cases hij : j = i
      · subst hij
        rw [ho] at hoj
        cases hoj
        rw [hd, put_get_self (by rw [hI.size]; exact hlt' t (dst_mem ho hd))]
        exact hv t hd
      · have hj' : s[j]? = some true := by
          rw [Array.getElem?_setIfInBounds, if_neg (fun h => hij h.symm)] at hj
          exact hj
        have h1 := hmono t _ w w' hb (hI.done j oj t hj' hoj hd)
        cases hd2 : o.dst with
        | none => exact h1
        | some u =>
          have hne : t ≠ u := fun h => hij (dst_inj ops.toList hnd j i oj o t (by rw [Array.getElem?_toList]; exact hoj) (by rw [Array.getElem?_toList]; exact ho) hd (h ▸ hd2))
          rw [put_get_ne hne]
          exact h1
  refine wp_region_inv (fun s a w => s.size = ops.size ∧ Tabbed ops T a0 w0 s a w) hm ?_ ?_ ?_
  · rintro s a w hr ⟨hs, hI⟩
    have hall : ∀ n : Nat, n ≤ ops.size → ∀ i : Nat, i < n → s[i]? = some true := by
      intro n
      induction n with
      | zero => intro _ i hi; exact absurd hi (Nat.not_lt_zero _)
      | succ n ih =>
        intro hn i hi
        have ih := ih (by omega)
        by_cases hin : i < n
        · exact ih i hin
        · have hin : i = n := by omega
          subst hin
          cases hsi : s[i]? with
          | none => rw [Array.getElem?_eq_none_iff] at hsi; omega
          | some b =>
            cases b with
            | true => rfl
            | false =>
              exfalso
              have hio : i < ops.size := by omega
              have : i ∈ Region.ready .any ops s := by
                unfold Region.ready
                refine List.mem_filter.mpr ⟨List.mem_range.mpr hio, ?_⟩
                rw [Bool.and_eq_true]
                refine ⟨by simp [Array.getD_eq_getD_getElem?, hsi], ?_⟩
                have ho : ops[i]? = some ops[i] := Array.getElem?_eq_getElem hio
                rw [ho, Option.map_some, Option.getD_some, Array.all_eq_true_iff_forall_mem]
                intro e he
                have h1 := ih e.on (hah' i _ ho e he)
                simp [Array.getD_eq_getD_getElem?, h1]
              rw [hr] at this
              exact absurd this (by simp)
    refine hend a w hI.below hI.defers hI.size hI.still (fun t ht => ?_)
    obtain ⟨o, ho, hd⟩ := List.mem_filterMap.mp ht
    obtain ⟨i, hi⟩ := List.mem_iff_getElem?.mp ho
    rw [Array.getElem?_toList] at hi
    exact hI.done i o t (hall ops.size (Nat.le_refl _) i (Array.getElem?_eq_some_iff.mp hi).1) hi hd
  · rintro s a w i hi ⟨hs, hI⟩
    obtain ⟨hsi, o, ho, haf⟩ := ready_mem hi
    have h := hop i o ho a w ⟨hI.below, hI.still, fun e he hb o' t ho' hd => hI.done e.on o' t (haf e he hb) ho' hd⟩
    have hss : (s.setIfInBounds i true).size = ops.size := by simp [hs]
    unfold OpOk at h
    unfold wpOp
    rw [ho]
    dsimp only
    by_cases hw : Region.wanted o (yielded ops a.tmps) = true
    · rw [if_pos hw] at h ⊢
      refine h.imp (Oper.wp_mono ?_) (fun h => h)
      rintro a' w' ⟨v, rfl, hv, hb⟩
      exact ⟨hss, hset hmono hs ho hI hv hb⟩
    · rw [if_neg hw] at h ⊢
      exact ⟨hss, hset hmono hs ho hI h (Below.refl _ _)⟩
  · refine ⟨by simp, ⟨⟨rfl, rfl, rfl, Nat.le_refl _, fun _ _ => rfl⟩, rfl, rfl, fun _ _ => rfl, fun i o t h _ _ => ?_⟩⟩
    rw [Array.getElem?_replicate] at h
    split at h <;> simp at h
end

end Go.Proofs.Ythenjegmigeieaa

/- The goals of a region by a table, operation by operation. -/
namespace Go.Proofs.Ythenjegmigeieaa
open Go.RowKit

/-- Does an operation wait for the one that writes t? -/
def waitsFor (ops : Array Oper) (o : Oper) (t : Nat) : Bool := o.after.toList.any fun e => Region.binds .any e && ((ops[e.on]?).map fun o' => o'.dst == some t).getD false
def stays (ops : Array Oper) (t : Nat) : Bool := !(ops.toList.filterMap (·.dst)).contains t

section
variable {P : Program} {ops : Array Oper} {Q : Exit → Act → World → Prop} {T : Nat → Value → World → Prop} {a0 a : Act} {w0 w : World} {o : Oper}

theorem OpIn.of (h : OpIn ops T a0 w0 o a w) (t : Nat) (hw : waitsFor ops o t = true) : T t (a.tmps.getD t undef) w := by
  unfold waitsFor at hw
  obtain ⟨e, he, hb⟩ := List.any_eq_true.mp hw
  rw [Bool.and_eq_true] at hb
  cases ho : ops[e.on]? with
  | none => rw [ho] at hb; simp at hb
  | some o' =>
    rw [ho, Option.map_some, Option.getD_some] at hb
    exact h.has e (by simpa using he) hb.1 o' t ho (by simpa using hb.2)
theorem OpIn.old (h : OpIn ops T a0 w0 o a w) (t : Nat) (hs : stays ops t = true) : a.tmps.getD t undef = a0.tmps.getD t undef := by
  refine h.still t fun hm => ?_
  unfold stays at hs
  simp [hm] at hs
theorem wanted_none {y : Nat → Option Bool} (hg : o.guard = none) : Region.wanted o y = true := by simp [Region.wanted, hg]
theorem wanted_some {j t : Nat} {b : Bool} {oj : Oper} (hg : o.guard = some (j, b)) (hj : ops[j]? = some oj) (hd : oj.dst = some t) (hv : a.tmps.getD t undef = .bool b) : Region.wanted o (yielded ops a.tmps) = true := by
  have ht : a.tmps[t]? = some (.bool b) := by
    rw [Array.getD_eq_getD_getElem?] at hv
    cases h : a.tmps[t]? with
    | none => rw [h] at hv; simp [undef] at hv
    | some v => rw [h] at hv; simpa using hv
  unfold Region.wanted
  rw [hg]
  dsimp only
  unfold yielded
  rw [hj, Option.bind_some, hd, Option.bind_some, ht]
  simp
theorem opOk_val {v : Value} {w' : World} (hw : Region.wanted o (yielded ops a.tmps) = true) (hr : (execOp a.eval o).run P w = .ok (.value v) w') (hT : ∀ t, o.dst = some t → T t v w') (hb : Below w.heap.size w w') : OpOk P ops Q T o a w := by
  unfold OpOk
  rw [if_pos hw]
  left
  unfold Oper.wp
  rw [hr, Oper.upon_value]
  exact ⟨v, rfl, hT, hb⟩
theorem opOk_call {f : FuncId} {args : Array Value} (hw : Region.wanted o (yielded ops a.tmps) = true) (hr : (execOp a.eval o).run P w = .ok (.enter f args) w)
    (hc : Calls P f args w fun e w' => ∃ v, e = .returned v ∧ (∀ t, o.dst = some t → T t v w') ∧ Below w.heap.size w w') : OpOk P ops Q T o a w := by
  unfold OpOk
  rw [if_pos hw]
  left
  unfold Oper.wp
  rw [hr, Oper.upon_enter]
  refine Calls.mono hc ?_
  rintro e w' ⟨v, rfl, hT, hb⟩
  exact ⟨v, rfl, hT, hb⟩

/-- All operations, one by one. -/
def AllOps (Φ : Oper → Prop) : List Oper → Prop
  | [] => True
  | o :: l => Φ o ∧ AllOps Φ l
theorem AllOps.nil {Φ : Oper → Prop} : AllOps Φ [] := trivial
theorem AllOps.cons {Φ : Oper → Prop} {o : Oper} {l : List Oper} (h : Φ o) (hl : AllOps Φ l) : AllOps Φ (o :: l) := ⟨h, hl⟩
theorem AllOps.mem {Φ : Oper → Prop} : ∀ (l : List Oper), AllOps Φ l → ∀ o, o ∈ l → Φ o
  | [], _, o, ho => absurd ho (by simp)
  | x :: l, h, o, ho => by
    rcases List.mem_cons.mp ho with rfl | ho
    · exact h.1
    · exact AllOps.mem l h.2 o ho
theorem AllOps.at {Φ : Oper → Prop} {ops : Array Oper} (h : AllOps Φ ops.toList) (i : Nat) (o : Oper) (ho : ops[i]? = some o) : Φ o := by
  rw [← Array.getElem?_toList] at ho
  exact AllOps.mem _ h o (List.mem_of_getElem? ho)
theorem ends_at {t : Nat} (h : ∀ t, t ∈ ops.toList.filterMap (·.dst) → T t (a.tmps.getD t undef) w) (hs : stays ops t = false) : T t (a.tmps.getD t undef) w := by
  refine h t ?_
  unfold stays at hs
  simpa [List.contains_iff_mem] using hs
theorem wp_region_tabA (T : Nat → Value → World → Prop) {id : Nat} {a0 : Act} {w0 : World} (hm : P.follows .mixedOrders = true) (hf : tabFine ops a0.tmps.size = true)
    (hmono : ∀ t v w w', Below w.heap.size w w' → T t v w → T t v w')
    (hop : AllOps (fun o => ∀ a w, OpIn ops T a0 w0 o a w → OpOk P ops Q T o a w) ops.toList)
    (hend : ∀ a w, Below w0.heap.size w0 w → a.defers = a0.defers → a.tmps.size = a0.tmps.size → (∀ t, t ∉ ops.toList.filterMap (·.dst) → a.tmps.getD t undef = a0.tmps.getD t undef) → (∀ t, t ∈ ops.toList.filterMap (·.dst) → T t (a.tmps.getD t undef) w) → Q .normal a w) :
    (Code.region id ops true).wp P Q a0 w0 :=
  wp_region_tab T hm hf hmono (fun i o ho => AllOps.at hop i o ho) hend
end

end Go.Proofs.Ythenjegmigeieaa

/- Behind a region by a table: the frame, written out. -/
namespace Go.Proofs.Ythenjegmigeieaa
open Go.RowKit

theorem tmps_fold : ∀ (D : List Nat) (x y : Array Value), x.size = y.size → (∀ t, t ∉ D → x.getD t undef = y.getD t undef) → x = D.foldl (fun arr t => arr.setIfInBounds t (x.getD t undef)) y
  | [], x, y, hs, h => by
    show x = y
    refine Array.ext hs fun i h1 h2 => ?_
    have := h i (by simp)
    rw [Array.getD_eq_getD_getElem?, Array.getD_eq_getD_getElem?, Array.getElem?_eq_getElem h1, Array.getElem?_eq_getElem h2] at this
    exact this
  | t :: D, x, y, hs, h => by
    show x = D.foldl (fun arr t => arr.setIfInBounds t (x.getD t undef)) (y.setIfInBounds t (x.getD t undef))
    refine tmps_fold D x _ (by simp [hs]) fun s hsD => ?_
    by_cases hst : s = t
    · subst hst
      by_cases hl : s < y.size
      · simp [Array.getD_eq_getD_getElem?, hl]
      · have h1 : x[s]? = none := by rw [Array.getElem?_eq_none_iff]; omega
        have h2 : ∀ v, (y.setIfInBounds s v)[s]? = none := fun v => by rw [Array.getElem?_eq_none_iff]; simp; omega
        rw [Array.getD_eq_getD_getElem?, Array.getD_eq_getD_getElem?, h1, h2]
    · rw [h s (by simp [hst, hsD])]
      simp [Array.getD_eq_getD_getElem?, Ne.symm hst]

/-- The region by itself, then what follows. -/
theorem wp_mid {P : Program} {c : Code} {Q : Exit → Act → World → Prop} {a0 : Act} {w : World} (R : Act → Act → World → Prop) (first : c.wp P (fun e a w => e = .normal ∧ R a0 a w) a0 w) (rest : ∀ a w, R a0 a w → Q .normal a w) : c.wp P Q a0 w :=
  Code.wp_mono (fun e a w h => by obtain ⟨rfl, h⟩ := h; exact rest a w h) first

section
variable {P : Program} {ops : Array Oper} {Q : Exit → Act → World → Prop} {T : Nat → Value → World → Prop} {a : Act} {w : World} {o : Oper}
/-- An operation that is not wanted. -/
theorem opOk_skip {j t : Nat} {b c : Bool} {oj : Oper} (hg : o.guard = some (j, b)) (hj : ops[j]? = some oj) (hd : oj.dst = some t) (hv : a.tmps.getD t undef = .bool c) (hbc : c ≠ b) (hT : ∀ t, o.dst = some t → T t undef w) : OpOk P ops Q T o a w := by
  have ht : a.tmps[t]? = some (.bool c) := by
    rw [Array.getD_eq_getD_getElem?] at hv
    cases h : a.tmps[t]? with
    | none => rw [h] at hv; simp [undef] at hv
    | some v => rw [h] at hv; simpa using hv
  have hw : Region.wanted o (yielded ops a.tmps) = false := by
    unfold Region.wanted
    rw [hg]
    dsimp only
    unfold yielded
    rw [hj, Option.bind_some, hd, Option.bind_some, ht]
    simp [hbc]
  unfold OpOk
  rw [hw, if_neg (by simp)]
  exact hT
end

end Go.Proofs.Ythenjegmigeieaa

/- A region by a table whose last operation comes behind all others, and may change anything. -/
namespace Go.Proofs.Ythenjegmigeieaa
open Go.RowKit

/-- The last one waits for all. -/
def lastFine (ops : Array Oper) (oL : Oper) : Bool := (List.range (ops.size - 1)).all fun i => oL.after.toList.any fun e => Region.binds .any e && (e.on == i || ((ops[e.on]?).map fun o => o.after.toList.any fun f => f.on == i && Region.binds .any f).getD false)
/-- The table, for all but the last. -/
structure OpInL (ops : Array Oper) (T : Nat → Value → World → Prop) (a0 : Act) (w0 : World) (a : Act) (w : World) : Prop where
  below : Below w0.heap.size w0 w
  defers : a.defers = a0.defers
  size : a.tmps.size = a0.tmps.size
  still : ∀ t, t ∉ ops.toList.filterMap (·.dst) → a.tmps.getD t undef = a0.tmps.getD t undef
  all : ∀ (i : Nat) (o : Oper) (t : Nat), i + 1 < ops.size → ops[i]? = some o → o.dst = some t → T t (a.tmps.getD t undef) w

theorem wpOp_skip {P : Program} {ops : Array Oper} {Q : Exit → Act → World → Prop} {i : Nat} {o : Oper} {K : Act → World → Prop} {a : Act} {w w' : World} (ho : ops[i]? = some o) (hw : Region.wanted o (yielded ops a.tmps) = true) (hd : o.dst = none) (hr : (execOp a.eval o).run P w = .ok .skip w') (h : K a w') : wpOp P ops Q i K a w := by
  unfold wpOp
  rw [ho]
  dsimp only
  rw [if_pos hw]
  left
  unfold Oper.wp
  rw [hr, Oper.upon_skip, hd]
  exact h
theorem OpInL.of {ops : Array Oper} {T : Nat → Value → World → Prop} {a0 a : Act} {w0 w : World} (h : OpInL ops T a0 w0 a w) (i t : Nat) (o : Oper) (hi : i + 1 < ops.size) (ho : ops[i]? = some o) (hd : o.dst = some t) : T t (a.tmps.getD t undef) w := h.all i o t hi ho hd
section
variable {P : Program} {ops : Array Oper} {Q : Exit → Act → World → Prop}
theorem wp_region_tabL (T : Nat → Value → World → Prop) {id : Nat} {a0 : Act} {w0 : World} (oL : Oper) (hoL : ops[ops.size - 1]? = some oL) (hlf : lastFine ops oL = true) (hm : P.follows .mixedOrders = true)
    (hf : tabFine ops a0.tmps.size = true)
    (hmono : ∀ t v w w', Below w.heap.size w w' → T t v w → T t v w')
    (hop : AllOps (fun o => ∀ a w, OpIn ops T a0 w0 o a w → OpOk P ops Q T o a w) (ops.toList.take (ops.size - 1)))
    (hlast : ∀ a w, OpInL ops T a0 w0 a w → wpOp P ops Q (ops.size - 1) (fun a' w' => Q .normal a' w') a w) :
    (Code.region id ops true).wp P Q a0 w0 := by
  have hLs : ops.size - 1 < ops.size := (Array.getElem?_eq_some_iff.mp hoL).1
  unfold tabFine at hf
  rw [Bool.and_eq_true, Bool.and_eq_true] at hf
  obtain ⟨⟨hnd, hlt⟩, hah⟩ := hf
  have hnd := of_decide_eq_true hnd
  have hlt' : ∀ t, t ∈ ops.toList.filterMap (·.dst) → t < a0.tmps.size := fun t ht => of_decide_eq_true (List.all_eq_true.mp hlt t ht)
  have hah' : ∀ (i : Nat) (o : Oper), ops[i]? = some o → ∀ e, e ∈ o.after → e.on < i := fun i o ho e he => by
    have hi : i < ops.size := (Array.getElem?_eq_some_iff.mp ho).1
    have h := List.all_eq_true.mp hah i (List.mem_range.mpr hi)
    rw [ho, Option.map_some, Option.getD_some] at h
    exact of_decide_eq_true (List.all_eq_true.mp h e (by simpa using he))
  refine wp_region_inv (fun s a w => (s.size = ops.size ∧ ∀ (i : Nat) (o : Oper), s[i]? = some true → ops[i]? = some o → ∀ e, e ∈ o.after → Region.binds .any e = true → s[e.on]? = some true) ∧ ((s[ops.size - 1]? = some false ∧ Tabbed ops T a0 w0 s a w) ∨ ((∀ i, i < ops.size → s[i]? = some true) ∧ Q .normal a w))) hm ?_ ?_ ?_
  · rintro s a w hr ⟨⟨hs, hC⟩, ⟨hsL, hI⟩ | ⟨_, hQ⟩⟩
    · exfalso
      have hall : ∀ n : Nat, n ≤ ops.size → ∀ i : Nat, i < n → s[i]? = some true := by
        intro n
        induction n with
        | zero => intro _ i hi; exact absurd hi (Nat.not_lt_zero _)
        | succ n ih =>
          intro hn i hi
          have ih := ih (by omega)
          by_cases hin : i < n
          · exact ih i hin
          · have hin : i = n := by omega
            subst hin
            cases hsi : s[i]? with
            | none => rw [Array.getElem?_eq_none_iff] at hsi; omega
            | some b =>
              cases b with
              | true => rfl
              | false =>
                exfalso
                have hio : i < ops.size := by omega
                have : i ∈ Region.ready .any ops s := by
                  unfold Region.ready
                  refine List.mem_filter.mpr ⟨List.mem_range.mpr hio, ?_⟩
                  rw [Bool.and_eq_true]
                  refine ⟨by simp [Array.getD_eq_getD_getElem?, hsi], ?_⟩
                  have ho : ops[i]? = some ops[i] := Array.getElem?_eq_getElem hio
                  rw [ho, Option.map_some, Option.getD_some, Array.all_eq_true_iff_forall_mem]
                  intro e he
                  have h1 := ih e.on (hah' i _ ho e he)
                  simp [Array.getD_eq_getD_getElem?, h1]
                rw [hr] at this
                exact absurd this (by simp)
      have := hall ops.size (Nat.le_refl _) (ops.size - 1) hLs
      rw [hsL] at this
      cases this
    · exact hQ
  · rintro s a w i hi ⟨⟨hs, hC⟩, hI⟩
    obtain ⟨hsi, o, ho, haf⟩ := ready_mem hi
    have hup : ∀ j, s[j]? = some true → (s.setIfInBounds i true)[j]? = some true := fun j hj => by
      rw [Array.getElem?_setIfInBounds]
      by_cases hij : i = j
      · rw [if_pos hij, if_pos (by have := (Array.getElem?_eq_some_iff.mp hsi).1; omega)]
      · rw [if_neg hij]; exact hj
    have hss : (s.setIfInBounds i true).size = ops.size ∧ ∀ (i' : Nat) (o' : Oper), (s.setIfInBounds i true)[i']? = some true → ops[i']? = some o' → ∀ e, e ∈ o'.after → Region.binds .any e = true → (s.setIfInBounds i true)[e.on]? = some true := by
      refine ⟨by simp [hs], fun i' o' hi' ho' e he hb => ?_⟩
      by_cases hii : i = i'
      · subst hii
        rw [ho] at ho'
        cases ho'
        exact hup _ (haf e he hb)
      · rw [Array.getElem?_setIfInBounds, if_neg hii] at hi'
        exact hup _ (hC i' o' hi' ho' e he hb)
    rcases hI with ⟨hsL, hI⟩ | ⟨hall, _⟩
    · by_cases hiL : i = ops.size - 1
      · subst hiL
        rw [hoL] at ho
        cases ho
        have hdone : ∀ j, j + 1 < ops.size → s[j]? = some true := fun j hj => by
          unfold lastFine at hlf
          have h1 := List.all_eq_true.mp hlf j (List.mem_range.mpr (by omega))
          obtain ⟨e, he, h2⟩ := List.any_eq_true.mp h1
          rw [Bool.and_eq_true, Bool.or_eq_true] at h2
          have hse := haf e (by simpa using he) h2.1
          rcases h2.2 with h3 | h3
          · have h3 : e.on = j := by simpa using h3
            rw [← h3]
            exact hse
          · cases hoe : ops[e.on]? with
            | none => rw [hoe] at h3; simp at h3
            | some oe =>
              rw [hoe, Option.map_some, Option.getD_some] at h3
              obtain ⟨f, hf, h4⟩ := List.any_eq_true.mp h3
              rw [Bool.and_eq_true] at h4
              have h5 : f.on = j := by simpa using h4.1
              rw [← h5]
              exact hC e.on oe hse hoe f (by simpa using hf) h4.2
        refine wpOp_mono ?_ (hlast a w ⟨hI.below, hI.defers, hI.size, hI.still, fun j oj t hj hoj hd => hI.done j oj t (hdone j hj) hoj hd⟩)
        intro a' w' hQ
        refine ⟨hss, .inr ⟨fun j hj => ?_, hQ⟩⟩
        rw [Array.getElem?_setIfInBounds]
        by_cases hj2 : ops.size - 1 = j
        · rw [if_pos hj2, if_pos (by omega)]
        · rw [if_neg hj2]
          exact hdone j (by omega)
      · have hop' : OpOk P ops Q T o a w := by
          have hil : i < ops.size := (Array.getElem?_eq_some_iff.mp ho).1
          refine AllOps.mem _ hop o ?_ a w ⟨hI.below, hI.still, fun e he hb o' t ho' hd => hI.done e.on o' t (haf e he hb) ho' hd⟩
          rw [← Array.getElem?_toList] at ho
          refine List.mem_of_getElem? (i := i) ?_
          rw [List.getElem?_take, if_pos (by omega)]
          exact ho
        have hset : ∀ {v : Value} {w' : World}, (∀ t, o.dst = some t → T t v w') → Below w.heap.size w w' → Tabbed ops T a0 w0 (s.setIfInBounds i true) (a.put o.dst v) w' := by
          intro v w' hv hb
          refine ⟨hI.below.trans (hb.mono hI.below.size), by rw [put_defers]; exact hI.defers, by rw [put_size]; exact hI.size, fun t ht => ?_, fun j oj t hj hoj hd => ?_⟩
          · cases hd : o.dst with
            | none => exact hI.still t ht
            | some u =>
              have hne : t ≠ u := fun h => ht (h ▸ dst_mem ho hd)
              rw [put_get_ne hne]
              exact hI.still t ht
          · by_cases hij : j = i
            · subst hij
              rw [ho] at hoj
              cases hoj
              rw [hd, put_get_self (by rw [hI.size]; exact hlt' t (dst_mem ho hd))]
              exact hv t hd
            · have hj' : s[j]? = some true := by
                rw [Array.getElem?_setIfInBounds, if_neg (fun h => hij h.symm)] at hj
                exact hj
              have h1 := hmono t _ w w' hb (hI.done j oj t hj' hoj hd)
              cases hd2 : o.dst with
              | none => exact h1
              | some u =>
                have hne : t ≠ u := fun h => hij (dst_inj ops.toList hnd j i oj o t (by rw [Array.getElem?_toList]; exact hoj) (by rw [Array.getElem?_toList]; exact ho) hd (h ▸ hd2))
                rw [put_get_ne hne]
                exact h1
        have hsL' : (s.setIfInBounds i true)[ops.size - 1]? = some false := by
          rw [Array.getElem?_setIfInBounds, if_neg hiL]
          exact hsL
        unfold OpOk at hop'
        unfold wpOp
        rw [ho]
        dsimp only
        by_cases hw : Region.wanted o (yielded ops a.tmps) = true
        · rw [if_pos hw] at hop' ⊢
          refine hop'.imp (Oper.wp_mono ?_) (fun h => h)
          rintro a' w' ⟨v, rfl, hv, hb⟩
          exact ⟨hss, .inl ⟨hsL', hset hv hb⟩⟩
        · rw [if_neg hw] at hop' ⊢
          exact ⟨hss, .inl ⟨hsL', hset hop' (Below.refl _ _)⟩⟩
    · have := hall i (Array.getElem?_eq_some_iff.mp ho).1
      rw [hsi] at this
      cases this
  · refine ⟨⟨by simp, fun i o h => ?_⟩, .inl ⟨?_, ⟨⟨rfl, rfl, rfl, Nat.le_refl _, fun _ _ => rfl⟩, rfl, rfl, fun _ _ => rfl, fun i o t h _ _ => ?_⟩⟩⟩
    · rw [Array.getElem?_replicate] at h
      split at h <;> simp at h
    · rw [Array.getElem?_replicate, if_pos hLs]
    · rw [Array.getElem?_replicate] at h
      split at h <;> simp at h
end

end Go.Proofs.Ythenjegmigeieaa

