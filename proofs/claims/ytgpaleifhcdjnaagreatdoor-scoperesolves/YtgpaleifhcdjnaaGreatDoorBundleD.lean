/- Own texts, one behind the other (part 4). -/
import Derived.Test.YtgpaleifhcdjnaaGreatDoorBundleC
import Derived.Test.YtgpaleifhcdjnaaGreatDoorRows
import Derived.Test.YtgpaleifhcdjnaaGreatDoorCards
import Derived.Test.YtgpaleifhcdjnaaGreatDoorTie
import Derived.Defers
import Derived.Recover
import Derived.RegionTactic
import Derived.ChangeAlike
import Derived.Deep.AppendLies
/- Package scope: names; the rules of a program. -/
namespace Go.Proofs.YtgpaleifhcdjnaaGreatDoor
open Go.RowKit

theorem name_check (s : List UInt8) : (Tr.check [⟨0, s, [], 0, []⟩] == 0) = Tr.isName s := by
  cases h : Tr.isName s <;> simp [Tr.check, Tr.many, Tr.ruleMany, Tr.litsMany, Tr.ruleOk, Tr.termsOk, Tr.foldOk, Tr.litsOk, h]

set_option maxRecDepth 100000 in
set_option maxHeartbeats 400000 in
theorem scName_any (s : List UInt8) (w : World) : Calls Tryz.prog 68 #[.string ⟨s.toArray⟩] w fun e w' => e = .returned (.bool (Tr.isName s)) ∧ Below w.heap.size w w' := by
  rw [← name_check]
  go_enter Tryz.func68, Tryz.ntmps68
  go_wp2_with fail
  have hV : RulesV (w.alloc (.cells #[.int .i64 0, .string ⟨s.toArray⟩, .slice none 0 0, .int .i64 0, .slice none 0 0] 57)) (.slice (some ⟨w.heap.size, 0, none⟩) 1 1) [⟨0, s, [], 0, []⟩] := by
    have hh := heap_alloc_new w (.cells #[.int .i64 0, .string ⟨s.toArray⟩, .slice none 0 0, .int .i64 0, .slice none 0 0] 57)
    refine ⟨some ⟨w.heap.size, 0, none⟩, 1, rfl, .inr ⟨w.heap.size, 0, rfl, fun i hi => ?_⟩⟩
    obtain rfl : i = 0 := by simpa using hi
    refine ⟨?_, ?_, ⟨_, ?_, ⟨none, 0, rfl, .inl rfl⟩⟩, ?_, _, ?_, ⟨none, 0, rfl, .inl rfl⟩⟩ <;> (rw [Lib.cell_of_heap hh]; rfl)
  refine Calls.mono (Check_any _ _ _ hV) ?_
  rintro e w1 ⟨rfl, hb1⟩
  have hb0 : Below w.heap.size w (w.alloc (.cells #[.int .i64 0, .string ⟨s.toArray⟩, .slice none 0 0, .int .i64 0, .slice none 0 0] 57)) := (Below.refl _ _).alloc (Nat.le_refl _) _
  go_wp2_with fail
  go_ret
  exact ⟨rfl, hb0.trans (hb1.mono hb0.size)⟩

/-- Two boxes that stand. -/
structure RB (w : World) (o1 o2 : Obj) (wr : World) : Prop where
  bel : Below w.heap.size w wr
  b1 : wr.heap[w.heap.size]? = some o1
  b2 : wr.heap[w.heap.size + 1]? = some o2
theorem RB.below {w wr w2 : World} {o1 o2 : Obj} (h : RB w o1 o2 wr) (hb : Below wr.heap.size wr w2) : RB w o1 o2 w2 :=
  ⟨h.bel.trans (hb.mono h.bel.size), (hb.block _ (heap_lt h.b1)).trans h.b1, (hb.block _ (heap_lt h.b2)).trans h.b2⟩
theorem RB.start (w : World) (o1 o2 : Obj) : RB w o1 o2 ((w.alloc o1).alloc o2) := ⟨below_two w _ _, (two_blocks (Below.refl _ _)).1, (two_blocks (Below.refl _ _)).2⟩
theorem RB.drew {w wr : World} {o1 o2 : Obj} (h : RB w o1 o2 wr) : RB w o1 o2 wr.drew := ⟨h.bel.drew, h.b1, h.b2⟩
theorem RB.drewN {w wr : World} {o1 o2 : Obj} (h : RB w o1 o2 wr) (n : Nat) : RB w o1 o2 (wr.drewN n) := ⟨below_drewN h.bel n, h.b1, h.b2⟩

theorem first_zero {α : Type} {f : α → Int} : ∀ {l : List α}, Sc.first f l = 0 → ∀ x, x ∈ l → f x = 0 := by
  intro l
  induction l with
  | nil => exact fun _ x hx => absurd hx (by simp)
  | cons a r ih =>
    intro h x hx
    rw [Sc.first] at h
    split at h
    · rename_i h0
      rcases List.mem_cons.mp hx with rfl | hx
      · exact h0
      · exact ih h x hx
    · rename_i h0
      exact absurd h h0
theorem litD_mem {l : List Sc.Lit} {i : Nat} (h : i < l.length) : Sc.litD l i ∈ l := by
  unfold Sc.litD
  rw [List.getD_eq_getElem?_getD, List.getElem?_eq_getElem h]
  exact List.getElem_mem h
theorem thn_both {a b : Int} (h : Sc.thn a b = 0) : a = 0 ∧ b = 0 := by
  unfold Sc.thn at h
  split at h
  · exact ⟨by assumption, h⟩
  · rename_i h0
    exact absurd h h0
theorem lit_good {ar : List Int} {vars : Int} {x : Sc.Lit} (h : Sc.litAll ar vars x = 0) (h0 : 0 ≤ vars) (hF : LitFit x) : LitGood vars.toNat x := by
  obtain ⟨h1, h2⟩ := thn_both h
  refine ⟨fun h4 => ?_, fun t ht => ?_, hF⟩
  · rw [Sc.litErr, if_neg (by rw [h4]; decide), if_neg (by rw [h4]; decide), if_pos h4] at h1
    split at h1
    · split at h1
      · exact absurd h1 (by decide)
      · rename_i hn
        exact Classical.byContradiction fun hne => hn (.inr hne)
    · exact absurd h1 (by decide)
  · have := first_zero h2 t ht
    unfold Sc.termErr Tr.between at this
    split at this
    · rename_i hb
      simp at hb
      omega
    · exact absurd this (by decide)

set_option maxRecDepth 100000 in
set_option maxHeartbeats 4000000 in
theorem checkRule_any (ar : List Int) (va vn vr : Value) (r : Sc.Rule) (vt vb : Value) (w : World) (hA : IntsV w va ar) (hT : PTermsV w vt r.terms) (hL : PLitsV w vb r.body) (hF : RuleFit r) :
    Calls Tryz.prog 70 #[progVal va vn vr, pruleVal r vt vb] w fun e w' => e = finE (Sc.ruleErr ar r) ∧ Below w.heap.size w w' := by
  obtain ⟨ao, cap, rfl, hA⟩ := hA
  obtain ⟨pred, ts, fold, body, vars⟩ := r
  have HT : Hid (PTermsV w vt ts) := hT
  have HL : Hid (PLitsV w vb body) := hL
  have HA : Hid (IntsV w (.slice ao ar.length cap) ar) := ⟨ao, cap, rfl, hA⟩
  have HFT : Hid (ts.length ≤ 9223372036854775807) := hF.1
  have HFB : Hid (∀ i, i < body.length → LitFit (Sc.litD body i)) := hF.2.2
  obtain ⟨at_, ct, rfl, _, _⟩ := hT
  obtain ⟨ab, cb, rfl, hLA⟩ := hL
  have hLA : PLitsAt w ab body := hLA
  simp only at HT HL
  clear hF
  have hR := RB.start w (.cells #[.slice ao ar.length cap, vn, vr] 26) (.cells #[.int .i64 pred, .slice at_ ts.length ct, .int .i64 fold, .slice ab body.length cb, .int .i64 vars] 67)
  have HE0 : Hid (Sc.ruleErr ar ⟨pred, ts, fold, body, vars⟩ = if Sc.isPred ar pred then
    Sc.thn (if (ts.length : Int) ≠ Sc.intD ar pred.toNat then 1 else 0) (
    Sc.thn (if Tr.between vars 0 8 then 0 else 3) (
    Sc.thn (Sc.termsErr vars ts) (
    Sc.thn (if Tr.between fold 0 4 then 0 else 7) (
    Sc.thn (if fold ≠ 0 ∧ (ts.length = 0 ∨ body.length = 0) then 1 else 0) (
    Sc.thn (if 4 < body.length then 2 else 0) (
    Sc.thn (Sc.first (Sc.litAll ar vars) body) (if Sc.safe ⟨pred, ts, fold, body, vars⟩ then 0 else 4)))))))
  else 5) := rfl
  cases g1 : Sc.isPred ar pred
  · have HV : Hid (Sc.ruleErr ar ⟨pred, ts, fold, body, vars⟩ = 5) := by show _ = _; rw [HE0.out, g1]; rfl
    clear HE0 hLA HT HL HA HFT HFB
    go_enter Tryz.func70, Tryz.ntmps70
    go_wp2_with fail
    refine (isPred_any ar ao cap vn vr pred _).mono ?_
    rintro e w2 ⟨he, hb2⟩
    rw [g1] at he
    subst he
    have hR := hR.below hb2
    go_wp2_with fail
    refine (refuse_yes 5 _).mono ?_
    rintro e w1 ⟨rfl, hb1⟩
    go_wp2_with fail
    exact ⟨rfl, by rw [HV.out]; rfl, hR.bel.trans (hb1.mono hR.bel.size)⟩
  · obtain ⟨k, rfl, hk⟩ := nat_of g1
    obtain ⟨b, off, rfl, hc⟩ := ints_at hA k hk
    have HC : Hid (∀ y, Below w.heap.size w y → y.cell? ⟨b, off + k, none⟩ = some (.int .i64 (Sc.intD ar k))) := fun y hy => cell_below hy hc
    clear hc hA
    rw [g1, if_pos rfl, Int.toNat_natCast] at HE0
    go_enter Tryz.func70, Tryz.ntmps70
    go_wp2_with fail
    refine (isPred_any ar _ cap vn vr k _).mono ?_
    rintro e w2 ⟨he, hb2⟩
    rw [g1] at he
    subst he
    have hR := hR.below hb2
    have hq := HC.out _ hR.bel
    clear hb2 HC
    go_wp2_with fail
    refine (refuse_no 5 _).mono ?_
    rintro e w1 ⟨rfl, rfl⟩
    have c1 : w1.cell? ⟨w.heap.size, 0, none⟩ = some (.slice (some ⟨b, off, none⟩) ar.length cap) := by rw [Lib.cell_of_heap hR.b1]; rfl
    have d0 : w1.cell? ⟨w.heap.size + 1, 0, none⟩ = some (.int .i64 k) := by rw [Lib.cell_of_heap hR.b2]; rfl
    have d1 : w1.cell? ⟨w.heap.size + 1, 1, none⟩ = some (.slice at_ ts.length ct) := by rw [Lib.cell_of_heap hR.b2]; rfl
    have d2 : w1.cell? ⟨w.heap.size + 1, 2, none⟩ = some (.int .i64 fold) := by rw [Lib.cell_of_heap hR.b2]; rfl
    have d3 : w1.cell? ⟨w.heap.size + 1, 3, none⟩ = some (.slice ab body.length cb) := by rw [Lib.cell_of_heap hR.b2]; rfl
    have d4 : w1.cell? ⟨w.heap.size + 1, 4, none⟩ = some (.int .i64 vars) := by rw [Lib.cell_of_heap hR.b2]; rfl
    go_upto_region 2 with fail
    cases g2 : ((ts.length : Int) != Sc.intD ar k)
    · have h2 : (ts.length : Int) = Sc.intD ar k := by simpa using g2
      rw [if_neg (by simp [h2]), Sc.thn_zero] at HE0
      go_region_held3 (fun y => y.cell? ⟨w.heap.size, 0, none⟩ = some (.slice (some ⟨b, off, none⟩) ar.length cap) ∧ y.cell? ⟨w.heap.size + 1, 0, none⟩ = some (.int .i64 k) ∧ y.cell? ⟨w.heap.size + 1, 1, none⟩ = some (.slice at_ ts.length ct) ∧ y.cell? ⟨b, off + k, none⟩ = some (.int .i64 (Sc.intD ar k))) (go_keep) ((go_at_call 35; refine Calls.mono (refuse_no 1 _) ?_; rintro e y ⟨rfl, rfl⟩))
      have hR := hR.drew
      clear c1 d0 d1 d2 d3 d4 h2 hq
      generalize w1.drew = wd at *
      have c1 : wd.cell? ⟨w.heap.size, 0, none⟩ = some (.slice (some ⟨b, off, none⟩) ar.length cap) := by rw [Lib.cell_of_heap hR.b1]; rfl
      have d0 : wd.cell? ⟨w.heap.size + 1, 0, none⟩ = some (.int .i64 k) := by rw [Lib.cell_of_heap hR.b2]; rfl
      have d1 : wd.cell? ⟨w.heap.size + 1, 1, none⟩ = some (.slice at_ ts.length ct) := by rw [Lib.cell_of_heap hR.b2]; rfl
      have d2 : wd.cell? ⟨w.heap.size + 1, 2, none⟩ = some (.int .i64 fold) := by rw [Lib.cell_of_heap hR.b2]; rfl
      have d3 : wd.cell? ⟨w.heap.size + 1, 3, none⟩ = some (.slice ab body.length cb) := by rw [Lib.cell_of_heap hR.b2]; rfl
      have d4 : wd.cell? ⟨w.heap.size + 1, 4, none⟩ = some (.int .i64 vars) := by rw [Lib.cell_of_heap hR.b2]; rfl
      by_cases h3 : vars < 0
      · have HV : Hid (Sc.ruleErr ar ⟨k, ts, fold, body, vars⟩ = 3) := by show _ = _; rw [HE0.out, if_neg (by simp [Tr.between]; omega)]; rfl
        have g3 : decide (vars < 0) = true := decide_eq_true h3
        clear HE0
        go_wp2_with fail
        refine (refuse_yes 3 _).mono ?_
        rintro e w1 ⟨rfl, hb1⟩
        go_wp2_with fail
        exact ⟨rfl, by rw [HV.out]; rfl, hR.bel.trans (hb1.mono hR.bel.size)⟩
      have g3 : decide (vars < 0) = false := decide_eq_false h3
      by_cases h3b : 8 < vars
      · have HV : Hid (Sc.ruleErr ar ⟨k, ts, fold, body, vars⟩ = 3) := by show _ = _; rw [HE0.out, if_neg (by simp [Tr.between]; omega)]; rfl
        have g3b : decide (8 < vars) = true := decide_eq_true h3b
        clear HE0
        go_wp2_with fail
        refine (refuse_yes 3 _).mono ?_
        rintro e w1 ⟨rfl, hb1⟩
        go_wp2_with fail
        exact ⟨rfl, by rw [HV.out]; rfl, hR.bel.trans (hb1.mono hR.bel.size)⟩
      have g3b : decide (8 < vars) = false := decide_eq_false h3b
      rw [if_pos (show Tr.between vars 0 8 = true by simp [Tr.between]; omega), Sc.thn_zero] at HE0
      go_wp2_with fail
      refine (refuse_no 3 _).mono ?_
      rintro e w1 ⟨rfl, rfl⟩
      go_wp2_with fail
      refine Calls.mono (checkTerms_any ts vars _ _ HFT.out (ptermsV_below HT.out hR.bel)) ?_
      rintro e w3 ⟨he, hb3⟩
      by_cases h4 : Sc.termsErr vars ts = 0
      rotate_left
      · have HV : Hid (Sc.ruleErr ar ⟨k, ts, fold, body, vars⟩ = Sc.termsErr vars ts) := by show _ = _; rw [HE0.out, Sc.thn_ne _ h4]
        rw [finE_ne h4] at he
        subst he
        clear HE0
        go_wp2_with fail
        exact ⟨rfl, by rw [HV.out, finE_ne h4], hR.bel.trans (hb3.mono hR.bel.size)⟩
      rw [h4, finE_zero] at he
      subst he
      rw [h4, Sc.thn_zero] at HE0
      have hR := hR.below hb3
      clear c1 d0 d1 d2 d3 d4 hb3 h4 HFT
      have c1 : w3.cell? ⟨w.heap.size, 0, none⟩ = some (.slice (some ⟨b, off, none⟩) ar.length cap) := by rw [Lib.cell_of_heap hR.b1]; rfl
      have d0 : w3.cell? ⟨w.heap.size + 1, 0, none⟩ = some (.int .i64 k) := by rw [Lib.cell_of_heap hR.b2]; rfl
      have d1 : w3.cell? ⟨w.heap.size + 1, 1, none⟩ = some (.slice at_ ts.length ct) := by rw [Lib.cell_of_heap hR.b2]; rfl
      have d2 : w3.cell? ⟨w.heap.size + 1, 2, none⟩ = some (.int .i64 fold) := by rw [Lib.cell_of_heap hR.b2]; rfl
      have d3 : w3.cell? ⟨w.heap.size + 1, 3, none⟩ = some (.slice ab body.length cb) := by rw [Lib.cell_of_heap hR.b2]; rfl
      have d4 : w3.cell? ⟨w.heap.size + 1, 4, none⟩ = some (.int .i64 vars) := by rw [Lib.cell_of_heap hR.b2]; rfl
      by_cases h5 : fold < 0
      · have HV : Hid (Sc.ruleErr ar ⟨k, ts, fold, body, vars⟩ = 7) := by show _ = _; rw [HE0.out, if_neg (by simp [Tr.between]; omega)]; rfl
        have g5 : decide (fold < 0) = true := decide_eq_true h5
        clear HE0
        go_wp2_with fail
        refine (refuse_yes 7 _).mono ?_
        rintro e w1 ⟨rfl, hb1⟩
        go_wp2_with fail
        exact ⟨rfl, by rw [HV.out]; rfl, hR.bel.trans (hb1.mono hR.bel.size)⟩
      have g5 : decide (fold < 0) = false := decide_eq_false h5
      by_cases h5b : 4 < fold
      · have HV : Hid (Sc.ruleErr ar ⟨k, ts, fold, body, vars⟩ = 7) := by show _ = _; rw [HE0.out, if_neg (by simp [Tr.between]; omega)]; rfl
        have g5b : decide (4 < fold) = true := decide_eq_true h5b
        clear HE0
        go_wp2_with fail
        refine (refuse_yes 7 _).mono ?_
        rintro e w1 ⟨rfl, hb1⟩
        go_wp2_with fail
        exact ⟨rfl, by rw [HV.out]; rfl, hR.bel.trans (hb1.mono hR.bel.size)⟩
      have g5b : decide (4 < fold) = false := decide_eq_false h5b
      rw [if_pos (show Tr.between fold 0 4 = true by simp [Tr.between]; omega), Sc.thn_zero] at HE0
      go_wp2_with fail
      refine (refuse_no 7 _).mono ?_
      rintro e w1 ⟨rfl, rfl⟩
      go_upto_region 6 with fail
      by_cases h6 : fold ≠ 0 ∧ (ts.length = 0 ∨ body.length = 0)
      · have HV : Hid (Sc.ruleErr ar ⟨k, ts, fold, body, vars⟩ = 1) := by show _ = _; rw [HE0.out, if_pos h6]; rfl
        clear HE0
        have g6 : (fold != 0) = true := by simpa using h6.1
        by_cases h7 : ts.length = 0
        · have g7 : ((ts.length : Int) == 0) = true := by simp [h7]
          clear h6 h7
          go_wp2_with fail
          refine (refuse_yes 1 _).mono ?_
          rintro e w1 ⟨rfl, hb1⟩
          go_wp2_with fail
          exact ⟨rfl, by rw [HV.out]; rfl, hR.bel.trans (hb1.mono hR.bel.size)⟩
        · have g7 : ((ts.length : Int) == 0) = false := by simp; exact fun e => h7 (by rw [e]; rfl)
          have h8 : body.length = 0 := h6.2.resolve_left h7
          have g8 : ((body.length : Int) == 0) = true := by simp [h8]
          clear h6 h7 h8
          go_wp2_with fail
          refine (refuse_yes 1 _).mono ?_
          rintro e w1 ⟨rfl, hb1⟩
          go_wp2_with fail
          exact ⟨rfl, by rw [HV.out]; rfl, hR.bel.trans (hb1.mono hR.bel.size)⟩
      rw [if_neg h6, Sc.thn_zero] at HE0
      go_cut [] (fun wx => wx = w1)
      case first =>
        cases g6 : (fold != 0)
        · clear h6
          go_wp2_with fail
          refine (refuse_no 1 _).mono ?_
          rintro e w5 ⟨rfl, rfl⟩
          go_wp2_with fail
          go_meet
          rfl
        · have h9 : ¬ (ts.length = 0 ∨ body.length = 0) := fun h => h6 ⟨by simpa using g6, h⟩
          have g7 : ((ts.length : Int) == 0) = false := by simp; exact fun e => h9 (.inl (by rw [e]; rfl))
          have g8 : ((body.length : Int) == 0) = false := by simp; exact fun e => h9 (.inr (by rw [e]; rfl))
          clear h6 h9
          go_wp2_with fail
          refine (refuse_no 1 _).mono ?_
          rintro e w5 ⟨rfl, rfl⟩
          go_wp2_with fail
          go_meet
          rfl
      case rest =>
        subst hcut
        clear h6
        by_cases h8 : 4 < body.length
        · have HV : Hid (Sc.ruleErr ar ⟨k, ts, fold, body, vars⟩ = 2) := by show _ = _; rw [HE0.out, if_pos h8]; rfl
          have g8 : decide (4 < body.length) = true := decide_eq_true h8
          have g8' : decide ((4 : Int) < (body.length : Int)) = true := decide_eq_true (by omega)
          clear HE0
          go_wp2_with fail
          refine (refuse_yes 2 _).mono ?_
          rintro e w1 ⟨rfl, hb1⟩
          go_wp2_with fail
          exact ⟨rfl, by rw [HV.out]; rfl, hR.bel.trans (hb1.mono hR.bel.size)⟩
        have g8 : decide (4 < body.length) = false := decide_eq_false h8
        have g8' : decide ((4 : Int) < (body.length : Int)) = false := decide_eq_false (by omega)
        rw [if_neg h8, Sc.thn_zero] at HE0
        go_wp2_with fail
        refine (refuse_no 2 _).mono ?_
        rintro e w1 ⟨rfl, rfl⟩
        go_wp2_with fail
        clear c1 d0 d1 d2 d3 d4
        go_loopw [70] (fun i wr => ∃ j : Nat, j ≤ body.length ∧ i = .int .i64 j ∧ RB w (.cells #[.slice (some ⟨b, off, none⟩) ar.length cap, vn, vr] 26) (.cells #[.int .i64 k, .slice at_ ts.length ct, .int .i64 fold, .slice ab body.length cb, .int .i64 vars] 67) wr ∧ Sc.first (Sc.litAll ar vars) body = Sc.first (Sc.litAll ar vars) (body.drop j)) (fun i _ => body.length - (intOf i).toNat)
        case atStart => exact ⟨0, Nat.zero_le _, rfl, hR, rfl⟩
        case round =>
          clear hR
          obtain ⟨j, hj, rfl, hR, hfj⟩ := hrel
          have HFJ : Hid _ := hfj
          clear hfj
          have c1 : wr.cell? ⟨w.heap.size, 0, none⟩ = some (.slice (some ⟨b, off, none⟩) ar.length cap) := by rw [Lib.cell_of_heap hR.b1]; rfl
          have d0 : wr.cell? ⟨w.heap.size + 1, 0, none⟩ = some (.int .i64 k) := by rw [Lib.cell_of_heap hR.b2]; rfl
          have d1 : wr.cell? ⟨w.heap.size + 1, 1, none⟩ = some (.slice at_ ts.length ct) := by rw [Lib.cell_of_heap hR.b2]; rfl
          have d2 : wr.cell? ⟨w.heap.size + 1, 2, none⟩ = some (.int .i64 fold) := by rw [Lib.cell_of_heap hR.b2]; rfl
          have d3 : wr.cell? ⟨w.heap.size + 1, 3, none⟩ = some (.slice ab body.length cb) := by rw [Lib.cell_of_heap hR.b2]; rfl
          have d4 : wr.cell? ⟨w.heap.size + 1, 4, none⟩ = some (.int .i64 vars) := by rw [Lib.cell_of_heap hR.b2]; rfl
          have c2 : wr.cell? ⟨w.heap.size, 1, none⟩ = some vn := by rw [Lib.cell_of_heap hR.b1]; rfl
          have c3 : wr.cell? ⟨w.heap.size, 2, none⟩ = some vr := by rw [Lib.cell_of_heap hR.b1]; rfl
          by_cases hjl : j < body.length
          · obtain ⟨b3, off3, rfl, p0, p1, p2, v, p3, hTv⟩ := plits_at hLA j hjl
            have HTV : Hid (PTermsV w v (Sc.litD body j).terms) := hTv
            obtain ⟨av, cv, rfl, _, _⟩ := hTv
            have q0 := cell_below hR.bel p0
            have q1 := cell_below hR.bel p1
            have q2 := cell_below hR.bel p2
            have q3 := cell_below hR.bel p3
            have HFD : Hid (Sc.first (Sc.litAll ar vars) body = Sc.thn (Sc.litAll ar vars (Sc.litD body j)) (Sc.first (Sc.litAll ar vars) (body.drop (j + 1)))) := HFJ.out.trans (Sc.first_drop _ _ _ j hjl)
            have HFI : Hid (LitFit (Sc.litD body j)) := HFB.out j hjl
            have hb1 : Below wr.heap.size wr (wr.alloc (.cells #[.int .i64 (Sc.litD body j).kind, .int .i64 (Sc.litD body j).op, .int .i64 (Sc.litD body j).pred, .slice av (Sc.litD body j).terms.length cv] 84)) := (Below.refl _ _).alloc (Nat.le_refl _) _
            have hlb := heap_alloc_new wr (.cells #[.int .i64 (Sc.litD body j).kind, .int .i64 (Sc.litD body j).op, .int .i64 (Sc.litD body j).pred, .slice av (Sc.litD body j).terms.length cv] 84)
            have hR1 := hR.below hb1
            clear p0 p1 p2 p3 hb1 HFJ hLA HL
            generalize hx : Sc.litD body j = x at *
            clear hx c1 c2 c3
            have c1 : (wr.alloc (.cells #[.int .i64 x.kind, .int .i64 x.op, .int .i64 x.pred, .slice av x.terms.length cv] 84)).cell? ⟨w.heap.size, 0, none⟩ = some (.slice (some ⟨b, off, none⟩) ar.length cap) := by rw [Lib.cell_of_heap hR1.b1]; rfl
            have c2 : (wr.alloc (.cells #[.int .i64 x.kind, .int .i64 x.op, .int .i64 x.pred, .slice av x.terms.length cv] 84)).cell? ⟨w.heap.size, 1, none⟩ = some vn := by rw [Lib.cell_of_heap hR1.b1]; rfl
            have c3 : (wr.alloc (.cells #[.int .i64 x.kind, .int .i64 x.op, .int .i64 x.pred, .slice av x.terms.length cv] 84)).cell? ⟨w.heap.size, 2, none⟩ = some vr := by rw [Lib.cell_of_heap hR1.b1]; rfl
            go_wp2_with fail
            refine Calls.mono (checkLit_any ar _ vn vr x _ _ (intsV_below HA.out hR1.bel) ⟨_, _, rfl⟩) ?_
            rintro e w2 ⟨he, hb2⟩
            by_cases h9 : Sc.litErr ar x = 0
            rotate_left
            · have HV : Hid (Sc.ruleErr ar ⟨k, ts, fold, body, vars⟩ = Sc.litErr ar x) := by show _ = _; rw [HE0.out, HFD.out, Sc.litAll, Sc.thn_ne _ h9, Sc.thn_ne _ h9, Sc.thn_ne _ h9]
              rw [finE_ne h9] at he
              subst he
              clear HE0 HFD
              go_wp2_with fail
              exact ⟨rfl, by rw [HV.out, finE_ne h9], hR1.bel.trans (hb2.mono hR1.bel.size)⟩
            rw [h9, finE_zero] at he
            subst he
            have hR2 := hR1.below hb2
            have hlb2 := (hb2.block _ (heap_lt hlb)).trans hlb
            have l3 : w2.cell? ⟨wr.heap.size, 3, none⟩ = some (.slice av x.terms.length cv) := by rw [Lib.cell_of_heap hlb2]; rfl
            have d4' : w2.cell? ⟨w.heap.size + 1, 4, none⟩ = some (.int .i64 vars) := by rw [Lib.cell_of_heap hR2.b2]; rfl
            clear hlb hlb2 hb2 hR1 q0 q1 q2 q3 c1 d0 d1 d2 d3 d4 c2 c3
            go_wp2_with fail
            refine Calls.mono (checkTerms_any x.terms vars _ _ HFI.out (ptermsV_below HTV.out hR2.bel)) ?_
            rintro e w3 ⟨he, hb3⟩
            by_cases h10 : Sc.termsErr vars x.terms = 0
            rotate_left
            · have HV : Hid (Sc.ruleErr ar ⟨k, ts, fold, body, vars⟩ = Sc.termsErr vars x.terms) := by show _ = _; rw [HE0.out, HFD.out, Sc.litAll, h9, Sc.thn_zero, Sc.thn_ne _ h10, Sc.thn_ne _ h10]
              rw [finE_ne h10] at he
              subst he
              clear HE0 HFD
              go_wp2_with fail
              exact ⟨rfl, by rw [HV.out, finE_ne h10], hR2.bel.trans (hb3.mono hR2.bel.size)⟩
            rw [h10, finE_zero] at he
            subst he
            have hR3 := hR2.below hb3
            have HV : Hid (Sc.first (Sc.litAll ar vars) body = Sc.first (Sc.litAll ar vars) (body.drop (j + 1))) := by show _ = _; rw [HFD.out, Sc.litAll, h9, Sc.thn_zero, h10, Sc.thn_zero]
            clear HFD HTV HFI hb3 h9 h10 l3 d4' hR2
            go_wp2_with fail
            go_roundw
            case rel => exact ⟨j + 1, by omega, by go_num, hR3, HV.out⟩
            case measure => simp [intOf]; omega
          · have hz : Sc.first (Sc.litAll ar vars) body = 0 := by rw [HFJ.out, List.drop_of_length_le (by omega)]; rfl
            have hgood : RuleGood ⟨k, ts, fold, body, vars⟩ := ⟨by show 0 ≤ vars; omega, by show vars ≤ 8; omega, by show body.length ≤ 4; omega, fun i hi => lit_good (first_zero hz _ (litD_mem hi)) (by show 0 ≤ vars; omega) (HFB.out i hi)⟩
            rw [hz, Sc.thn_zero] at HE0
            clear HFJ hz hLA
            go_wp2_with fail
            refine Calls.mono (isSafe_any ⟨k, ts, fold, body, vars⟩ _ _ _ (plitsV_below HL.out hR.bel) hgood) ?_
            rintro e w2 ⟨he, hb2⟩
            have hR := hR.below hb2
            cases h11 : Sc.safe ⟨k, ts, fold, body, vars⟩
            · rw [h11] at he HE0
              subst he
              have HV : Hid (Sc.ruleErr ar ⟨k, ts, fold, body, vars⟩ = 4) := by show _ = _; rw [HE0.out]; rfl
              clear HE0 hgood h11
              go_wp2_with fail
              refine (refuse_yes 4 _).mono ?_
              rintro e w1 ⟨rfl, hb1⟩
              go_wp2_with fail
              exact ⟨rfl, by rw [HV.out]; rfl, hR.bel.trans (hb1.mono hR.bel.size)⟩
            · rw [h11] at he HE0
              subst he
              have HV : Hid (Sc.ruleErr ar ⟨k, ts, fold, body, vars⟩ = 0) := by show _ = _; rw [HE0.out]; rfl
              clear HE0 hgood h11
              go_wp2_with fail
              refine (refuse_no 4 _).mono ?_
              rintro e w1 ⟨rfl, rfl⟩
              go_wp2_with fail
              exact ⟨rfl, .tuple #[], by simp [results, Tryz.results70], by rw [HV.out]; rfl, hR.bel⟩
    · have h2 : ¬ (ts.length : Int) = Sc.intD ar k := by simpa using g2
      have HV : Hid (Sc.ruleErr ar ⟨k, ts, fold, body, vars⟩ = 1) := by show _ = _; rw [HE0.out, if_pos h2]; rfl
      have hb02 := hR.bel
      clear HE0 h2
      refine wp_region_held_drew (S := (fun y => y.cell? ⟨w.heap.size, 0, none⟩ = some (.slice (some ⟨b, off, none⟩) ar.length cap) ∧ y.cell? ⟨w.heap.size + 1, 0, none⟩ = some (.int .i64 k) ∧ y.cell? ⟨w.heap.size + 1, 1, none⟩ = some (.slice at_ ts.length ct) ∧ y.cell? ⟨b, off + k, none⟩ = some (.int .i64 (Sc.intD ar k)))) (by kernel_rfl) (by go_keep) (fun hHeld => ?_)
      refine wpAnyH_take (i := 0) (v := ?v0x0) rfl (by kernel_rfl) (by kernel_rfl) (by kernel_rfl) (fun _ _ _ h => h) (Or.inl ⟨by rfl, ?hy0x0⟩) (by assumption) ?_
      case hy0x0 =>
        intro w hSw
        (try dsimp only at hSw)
        go_simp
        try with_reducible rfl
      try simp only [Act.put, List.setIfInBounds_toArray]
      refine wpAnyH_take (i := 1) (v := ?v1x1) rfl (by kernel_rfl) (by kernel_rfl) (by kernel_rfl) (fun _ _ _ h => h) (Or.inl ⟨by rfl, ?hy1x1⟩) (by assumption) ?_
      case hy1x1 =>
        intro w hSw
        (try dsimp only at hSw)
        go_simp
        try with_reducible rfl
      try simp only [Act.put]
      refine wpAnyH_take (i := 2) (v := ?v2x2) rfl (by kernel_rfl) (by kernel_rfl) (by kernel_rfl) (fun _ _ _ h => h) (Or.inl ⟨by rfl, ?hy2x2⟩) (by assumption) ?_
      case hy2x2 =>
        intro w hSw
        (try dsimp only at hSw)
        go_simp
        try with_reducible rfl
      try simp only [Act.put]
      refine wpAnyH_take (i := 3) (v := ?v3x3) rfl (by kernel_rfl) (by kernel_rfl) (by kernel_rfl) (fun _ _ _ h => h) (Or.inl ⟨by rfl, ?hy3x3⟩) (by assumption) ?_
      case hy3x3 =>
        intro w hSw
        (try dsimp only at hSw)
        go_simp
        try with_reducible rfl
      try simp only [Act.put]
      refine wpAnyH_take (i := 4) (v := ?v4x4) rfl (by kernel_rfl) (by kernel_rfl) (by kernel_rfl) (fun _ _ _ h => h) (Or.inl ⟨by rfl, ?hy4x4⟩) (by assumption) ?_
      case hy4x4 =>
        intro w hSw
        (try dsimp only at hSw)
        go_simp
        try with_reducible rfl
      try simp only [Act.put]
      refine wpAnyH_take (i := 5) (v := ?v5x5) rfl (by kernel_rfl) (by kernel_rfl) (by kernel_rfl) (fun _ _ _ h => h) (Or.inl ⟨by rfl, ?hy5x5⟩) (by assumption) ?_
      case hy5x5 =>
        intro w hSw
        (try dsimp only at hSw)
        go_simp
        try with_reducible rfl
      try simp only [Act.put]
      refine wpAnyH_take (i := 6) (v := ?v6x6) rfl (by kernel_rfl) (by kernel_rfl) (by kernel_rfl) (fun _ _ _ h => h) (Or.inl ⟨by rfl, ?hy6x6⟩) (by assumption) ?_
      case hy6x6 =>
        intro w hSw
        (try dsimp only at hSw)
        go_simp
        try with_reducible rfl
      try simp only [Act.put]
      refine wpAnyH_take (i := 7) (v := ?v7x7) rfl (by kernel_rfl) (by kernel_rfl) (by kernel_rfl) (fun _ _ _ h => h) (Or.inl ⟨by rfl, ?hy7x7⟩) (by assumption) ?_
      case hy7x7 =>
        intro w hSw
        (try dsimp only at hSw)
        go_simp
        try with_reducible rfl
      try simp only [Act.put]
      refine wpAnyH_take (i := 8) (v := ?v8x8) rfl (by kernel_rfl) (by kernel_rfl) (by kernel_rfl) (fun _ _ _ h => h) (Or.inl ⟨by rfl, ?hy8x8⟩) (by assumption) ?_
      case hy8x8 =>
        intro w hSw
        (try dsimp only at hSw)
        go_simp
        try with_reducible rfl
      try simp only [Act.put]
      refine wpAnyH_take (i := 9) (v := ?v9x9) rfl (by kernel_rfl) (by kernel_rfl) (by kernel_rfl) (fun _ _ _ h => h) (Or.inl ⟨by rfl, ?hy9x9⟩) (by assumption) ?_
      case hy9x9 =>
        intro w hSw
        (try dsimp only at hSw)
        go_simp
        try with_reducible rfl
      try simp only [Act.put]
      refine wpAnyH_ready (rs := [10]) (by kernel_rfl) (by simp) ?_
      refine AllReadyH.cons rfl (fun K hK => ?_) AllReadyH.nil
      go_simp
      go_at_call 35
      refine Calls.mono (refuse_yes 1 _) ?_
      rintro e y2 ⟨rfl, hb4⟩
      exact ⟨rfl, by rw [HV.out]; rfl, hb02.drew.trans (hb4.mono hb02.size)⟩


end Go.Proofs.YtgpaleifhcdjnaaGreatDoor

/- Package scope: a program, whole. -/
namespace Go.Proofs.YtgpaleifhcdjnaaGreatDoor
open Go.RowKit

/-- What stands while check goes on. -/
structure CB (w : World) (o : Obj) (M : Nat) (ns : List (List UInt8)) (wr : World) : Prop where
  bel : Below w.heap.size w wr
  box : wr.heap[w.heap.size]? = some o
  num : NumAt wr M ns
  lt : w.heap.size < M
theorem CB.below {w wr w2 : World} {o : Obj} {M : Nat} {ns : List (List UInt8)} (h : CB w o M ns wr) (hb : Below wr.heap.size wr w2) : CB w o M ns w2 :=
  ⟨h.bel.trans (hb.mono h.bel.size), (hb.block _ (heap_lt h.box)).trans h.box, h.num.below hb, h.lt⟩
theorem CB.of {w wr w2 : World} {o : Obj} {M : Nat} {ns ns' : List (List UInt8)} (h : CB w o M ns wr) (hg : wr.grownBy w2 (some M)) (hn : NumAt w2 M ns') : CB w o M ns' w2 := by
  have hlt := h.lt
  have hs := h.bel.size
  exact ⟨⟨hg.os.trans h.bel.os, hg.tape.trans h.bel.tape, hg.output.trans h.bel.output, Nat.le_trans hs hg.size, fun k hk => (hg.block k (Nat.lt_of_lt_of_le hk hs) (fun e => by injection e; omega)).trans (h.bel.block k hk)⟩,
    (hg.block _ (heap_lt h.box) (fun e => by injection e; omega)).trans h.box, hn, hlt⟩
theorem CB.start (w : World) (o : Obj) : CB w o (w.heap.size + 1) [] ((w.alloc o).alloc (.map #[] 0)) := by
  have h := two_blocks (w := w) (o1 := o) (o2 := .map #[] 0) (Below.refl _ _)
  have hn := numAt_made (w.alloc o)
  rw [show (w.alloc o).heap.size = w.heap.size + 1 by simp] at hn
  exact ⟨below_two w _ _, h.1, hn, by omega⟩
theorem strs_at {w : World} {ao : Option Addr} {l : List (List UInt8)} (h : StrsAt w ao l) (n : Nat) (hn : n < l.length) : ∃ b off, ao = some ⟨b, off, none⟩ ∧ w.cell? ⟨b, off + n, none⟩ = some (.string ⟨(Sc.strD l n).toArray⟩) := by
  rcases h with h | ⟨b, off, ha, hc⟩
  · rw [h] at hn; exact absurd hn (by simp)
  · exact ⟨b, off, ha, hc n hn⟩
theorem prules_at {w : World} {ao : Option Addr} {l : List Sc.Rule} (h : PRulesAt w ao l) (n : Nat) (hn : n < l.length) : ∃ b off, ao = some ⟨b, off, none⟩ ∧ PRuleIn w b (off + n * 5) (Sc.ruleD l n) := by
  rcases h with h | ⟨b, off, ha, hc⟩
  · rw [h] at hn; exact absurd hn (by simp)
  · exact ⟨b, off, ha, hc n hn⟩
theorem pred_drop (ar : List Int) (ns : List (List UInt8)) (j : Nat) (h : j < ns.length) : Sc.first (Sc.predErr ar ns) ((List.range ns.length).drop j) = Sc.thn (Sc.predErr ar ns j) (Sc.first (Sc.predErr ar ns) ((List.range ns.length).drop (j + 1))) := by
  rw [Sc.first_drop _ 0 _ j (by simpa using h)]
  congr 2
  simp [h]
theorem take_step (ns : List (List UInt8)) (j : Nat) (h : j < ns.length) : ns.take j ++ [Sc.strD ns j] = ns.take (j + 1) := by
  rw [List.take_succ_eq_append_getElem h]
  simp [Sc.strD, List.getD_eq_getElem?_getD, h]
theorem idx_lt {x : List UInt8} {l : List (List UInt8)} (h : l.contains x = true) : l.idxOf x < l.length := List.idxOf_lt_length_iff.mpr (by simpa using h)

set_option maxRecDepth 100000 in
set_option maxHeartbeats 4000000 in
theorem scCheck_any (p : Sc.Prog) (va vn vr : Value) (w : World) (hP : ProgV w va vn vr p) (hF : ProgFit p) :
    Calls Tryz.prog 33 #[progVal va vn vr] w fun e w' => e = finE (Sc.check p) ∧ Below w.heap.size w w' := by
  obtain ⟨ar, ns, rs⟩ := p
  obtain ⟨hA, hN, hL⟩ := hP
  have HA : Hid (IntsV w va ar) := hA
  obtain ⟨ao, cap, rfl, hA⟩ := hA
  obtain ⟨an, cn, rfl, hN⟩ := hN
  obtain ⟨al, cl, rfl, hL⟩ := hL
  have hA : IntsAt w ao ar := hA
  have hN : StrsAt w an ns := hN
  have hL : PRulesAt w al rs := hL
  have HFR : Hid (∀ i, i < rs.length → RuleFit (Sc.ruleD rs i)) := hF.rs
  clear hF
  have hmm := @run_makeMap Tryz.prog
  have hb0 : Below w.heap.size w (w.alloc (.cells #[.slice ao ar.length cap, .slice an ns.length cn, .slice al rs.length cl] 26)) := (Below.refl _ _).alloc (Nat.le_refl _) _
  have HE0 : Hid (Sc.check ⟨ar, ns, rs⟩ = if 10 < ar.length ∨ 12 < rs.length then 2 else if ¬ ns.length = ar.length then 1 else Sc.thn (Sc.first (Sc.predErr ar ns) (List.range ns.length)) (Sc.first (Sc.ruleErr ar) rs)) := rfl
  by_cases h1 : 10 < ar.length
  · have HV : Hid (Sc.check ⟨ar, ns, rs⟩ = 2) := by show _ = _; rw [HE0.out, if_pos (.inl h1)]
    have g1 : decide (10 < ar.length) = true := decide_eq_true h1
    have g1' : decide ((10 : Int) < (ar.length : Int)) = true := decide_eq_true (by omega)
    clear HE0 hA hN hL
    go_enter Tryz.func33, Tryz.ntmps33
    go_wp2_with fail
    refine (refuse_yes 2 _).mono ?_
    rintro e w1 ⟨rfl, hb1⟩
    go_wp2_with fail
    exact ⟨rfl, by rw [HV.out]; rfl, hb0.trans (hb1.mono hb0.size)⟩
  have g1 : decide (10 < ar.length) = false := decide_eq_false h1
  have g1' : decide ((10 : Int) < (ar.length : Int)) = false := decide_eq_false (by omega)
  by_cases h2 : 12 < rs.length
  · have HV : Hid (Sc.check ⟨ar, ns, rs⟩ = 2) := by show _ = _; rw [HE0.out, if_pos (.inr h2)]
    have g2 : decide (12 < rs.length) = true := decide_eq_true h2
    have g2' : decide ((12 : Int) < (rs.length : Int)) = true := decide_eq_true (by omega)
    clear HE0 hA hN hL
    go_enter Tryz.func33, Tryz.ntmps33
    go_wp2_with fail
    refine (refuse_yes 2 _).mono ?_
    rintro e w1 ⟨rfl, hb1⟩
    go_wp2_with fail
    exact ⟨rfl, by rw [HV.out]; rfl, hb0.trans (hb1.mono hb0.size)⟩
  have g2 : decide (12 < rs.length) = false := decide_eq_false h2
  have g2' : decide ((12 : Int) < (rs.length : Int)) = false := decide_eq_false (by omega)
  rw [if_neg (fun h => h.elim h1 h2)] at HE0
  by_cases h3 : ns.length = ar.length
  rotate_left
  · have HV : Hid (Sc.check ⟨ar, ns, rs⟩ = 1) := by show _ = _; rw [HE0.out, if_pos h3]
    have g3 : ((ns.length : Int) != (ar.length : Int)) = true := by simp; omega
    have g3' : (ns.length != ar.length) = true := by simp; omega
    clear HE0 hA hN hL
    go_enter Tryz.func33, Tryz.ntmps33
    go_wp2_with fail
    refine (refuse_no 2 _).mono ?_
    rintro e w1 ⟨rfl, rfl⟩
    go_wp2_with fail
    refine (refuse_yes 1 _).mono ?_
    rintro e w1 ⟨rfl, hb1⟩
    go_wp2_with fail
    exact ⟨rfl, by rw [HV.out]; rfl, hb0.trans (hb1.mono hb0.size)⟩
  rw [if_neg (fun h => h h3)] at HE0
  have H3 : Hid (ns.length = ar.length) := h3
  have g3 : ((ns.length : Int) != (ar.length : Int)) = false := by simp; omega
  have g3' : (ns.length != ar.length) = false := by simp; omega
  have hst := CB.start w (.cells #[.slice ao ar.length cap, .slice an ns.length cn, .slice al rs.length cl] 26)
  have H10 : Hid (ns.length ≤ 10) := by show _ ≤ _; omega
  clear h3
  go_enter Tryz.func33, Tryz.ntmps33
  go_wp2_with fail
  refine (refuse_no 2 _).mono ?_
  rintro e w1 ⟨rfl, rfl⟩
  go_wp2_with fail
  refine (refuse_no 1 _).mono ?_
  rintro e w1 ⟨rfl, rfl⟩
  go_wp2_with fail
  generalize w.heap.size + 1 = M at *
  go_loopw [30] (fun i wr => ∃ j : Nat, j ≤ ns.length ∧ i = .int .i64 j ∧ CB w (.cells #[.slice ao ar.length cap, .slice an ns.length cn, .slice al rs.length cl] 26) M (ns.take j) wr ∧ Sc.first (Sc.predErr ar ns) (List.range ns.length) = Sc.first (Sc.predErr ar ns) ((List.range ns.length).drop j)) (fun i _ => ns.length - (intOf i).toNat)
  case atStart => exact ⟨0, Nat.zero_le _, rfl, hst, rfl⟩
  case round =>
    clear hst
    obtain ⟨j, hj, rfl, hR, hfj⟩ := hrel
    have HFJ : Hid _ := hfj
    clear hfj
    have c0 : wr.cell? ⟨w.heap.size, 0, none⟩ = some (.slice ao ar.length cap) := by rw [Lib.cell_of_heap hR.box]; rfl
    by_cases hjl : j < ns.length
    · obtain ⟨b, off, rfl, p0⟩ := strs_at hN j hjl
      have hja : j < ar.length := by rw [← H3.out]; exact hjl
      obtain ⟨b2, off2, rfl, p1⟩ := ints_at hA j hja
      have q0 := cell_below hR.bel p0
      have q1 := cell_below hR.bel p1
      have HFD : Hid (Sc.first (Sc.predErr ar ns) (List.range ns.length) = Sc.thn (Sc.predErr ar ns j) (Sc.first (Sc.predErr ar ns) ((List.range ns.length).drop (j + 1)))) := HFJ.out.trans (pred_drop ar ns j hjl)
      have HPE : Hid (Sc.predErr ar ns j = Sc.thn (if Tr.between (Sc.intD ar j) 0 3 then 0 else 3) (Sc.thn (if Tr.isName (Sc.strD ns j) then 0 else 1) (if (ns.take j).contains (Sc.strD ns j) then 6 else 0))) := rfl
      have HTS : Hid (ns.take j ++ [Sc.strD ns j] = ns.take (j + 1)) := take_step ns j hjl
      clear p0 p1 hA hN hL HFJ
      generalize Sc.intD ar j = a at *
      generalize Sc.strD ns j = s at *
      by_cases h4 : a < 0
      · have HV : Hid (Sc.check ⟨ar, ns, rs⟩ = 3) := by show _ = _; rw [HE0.out, HFD.out, HPE.out, if_neg (by simp [Tr.between]; omega)]; rfl
        have g4 : decide (a < 0) = true := decide_eq_true h4
        clear HE0 HFD HPE
        go_wp2_with fail
        refine (refuse_yes 3 _).mono ?_
        rintro e w1 ⟨rfl, hb1⟩
        go_wp2_with fail
        exact ⟨rfl, by rw [HV.out]; rfl, hR.bel.trans (hb1.mono hR.bel.size)⟩
      have g4 : decide (a < 0) = false := decide_eq_false h4
      by_cases h4b : 3 < a
      · have HV : Hid (Sc.check ⟨ar, ns, rs⟩ = 3) := by show _ = _; rw [HE0.out, HFD.out, HPE.out, if_neg (by simp [Tr.between]; omega)]; rfl
        have g4b : decide (3 < a) = true := decide_eq_true h4b
        clear HE0 HFD HPE
        go_wp2_with fail
        refine (refuse_yes 3 _).mono ?_
        rintro e w1 ⟨rfl, hb1⟩
        go_wp2_with fail
        exact ⟨rfl, by rw [HV.out]; rfl, hR.bel.trans (hb1.mono hR.bel.size)⟩
      have g4b : decide (3 < a) = false := decide_eq_false h4b
      rw [if_pos (show Tr.between a 0 3 = true by simp [Tr.between]; omega), Sc.thn_zero] at HPE
      go_wp2_with fail
      refine (refuse_no 3 _).mono ?_
      rintro e w1 ⟨rfl, rfl⟩
      go_wp2_with fail
      refine Calls.mono (scName_any s _) ?_
      rintro e w2 ⟨he, hb2⟩
      have hR2 := hR.below hb2
      cases h5 : Tr.isName s
      · rw [h5] at he
        subst he
        have HV : Hid (Sc.check ⟨ar, ns, rs⟩ = 1) := by show _ = _; rw [HE0.out, HFD.out, HPE.out, h5]; rfl
        clear HE0 HFD HPE
        go_wp2_with fail
        refine (refuse_yes 1 _).mono ?_
        rintro e w1 ⟨rfl, hb1⟩
        go_wp2_with fail
        exact ⟨rfl, by rw [HV.out]; rfl, hR2.bel.trans (hb1.mono hR2.bel.size)⟩
      rw [h5] at he
      subst he
      have h12 : s.length ≤ 5000 := by
        have : Tk.isTok 1 s = true := by
          unfold Tr.isName at h5
          simp at h5
          exact h5.1
        have := Tk.isTok_len _ _ this
        omega
      rw [h5, if_pos rfl, Sc.thn_zero] at HPE
      clear hR hb2 q0 q1 c0 h5
      go_wp2_with fail
      refine (refuse_no 1 _).mono ?_
      rintro e w1 ⟨rfl, rfl⟩
      go_wp2_with fail
      refine Calls.mono (of_any M (ns.take j) s _ hR2.num h12 (by have := H10.out; rw [List.length_take]; omega)) ?_
      rintro e w3 ⟨rfl, hn3, hg3⟩
      have hlt : (ns.take j).length = j := by rw [List.length_take]; omega
      cases h6 : (ns.take j).contains s
      · rw [h6, if_neg (by simp), HTS.out] at hn3
        have hR3 := hR2.of hg3 hn3
        have hix : (ns.take j).idxOf s = j := by rw [idx_none (by simpa using h6), hlt]
        rw [hix]
        have g6 : ((j : Int) != (j : Int)) = false := by simp
        have HV : Hid (Sc.first (Sc.predErr ar ns) (List.range ns.length) = Sc.first (Sc.predErr ar ns) ((List.range ns.length).drop (j + 1))) := by show _ = _; rw [HFD.out, HPE.out, h6]; rfl
        clear HFD HPE hn3 hg3 hR2 hix h6 hlt HTS
        go_wp2_with fail
        refine (refuse_no 6 _).mono ?_
        rintro e w1 ⟨rfl, rfl⟩
        go_wp2_with fail
        go_roundw
        case rel => exact ⟨j + 1, by omega, by go_num, hR3, HV.out⟩
        case measure => simp [intOf]; omega
      · rw [h6, if_pos rfl] at hn3
        have hR3 := hR2.of hg3 hn3
        have hix := idx_lt h6
        rw [hlt] at hix
        have g6 : (((ns.take j).idxOf s : Int) != (j : Int)) = true := by simp; omega
        have HV : Hid (Sc.check ⟨ar, ns, rs⟩ = 6) := by show _ = _; rw [HE0.out, HFD.out, HPE.out, h6]; rfl
        clear HFD HPE hn3 hg3 hR2 h6 HE0 HTS
        generalize (ns.take j).idxOf s = ix at *
        have g6' : (ix != j) = true := by simp; omega
        go_wp2_with fail
        refine (refuse_yes 6 _).mono ?_
        rintro e w1 ⟨rfl, hb1⟩
        go_wp2_with fail
        exact ⟨rfl, by rw [HV.out]; rfl, hR3.bel.trans (hb1.mono hR3.bel.size)⟩
    · have hz : Sc.first (Sc.predErr ar ns) (List.range ns.length) = 0 := by rw [HFJ.out, List.drop_of_length_le (by simp; omega)]; rfl
      rw [hz, Sc.thn_zero] at HE0
      generalize hj0 : j = j0 at *
      clear hj0
      have c2 : wr.cell? ⟨w.heap.size, 2, none⟩ = some (.slice al rs.length cl) := by rw [Lib.cell_of_heap hR.box]; rfl
      clear HFJ hz hA hN
      go_wp2_with fail
      go_loopw [64] (fun i wr => ∃ j : Nat, j ≤ rs.length ∧ i = .int .i64 j ∧ CB w (.cells #[.slice ao ar.length cap, .slice an ns.length cn, .slice al rs.length cl] 26) M (ns.take j0) wr ∧ Sc.first (Sc.ruleErr ar) rs = Sc.first (Sc.ruleErr ar) (rs.drop j)) (fun i _ => rs.length - (intOf i).toNat)
      case atStart => exact ⟨0, Nat.zero_le _, rfl, hR, rfl⟩
      case round =>
        clear hR c0 c2
        obtain ⟨j, hj, rfl, hR, hfj⟩ := hrel
        have HFJ : Hid _ := hfj
        clear hfj
        by_cases hjl : j < rs.length
        · obtain ⟨b, off, rfl, p0, ⟨vt, p1, hT⟩, p2, ⟨vb, p3, hB⟩, p4⟩ := prules_at hL j hjl
          have HT : Hid (PTermsV w vt (Sc.ruleD rs j).terms) := hT
          have HB : Hid (PLitsV w vb (Sc.ruleD rs j).body) := hB
          obtain ⟨at_, ct, rfl, _, _⟩ := hT
          obtain ⟨ab, cb, rfl, _⟩ := hB
          have q0 := cell_below hR.bel p0
          have q1 := cell_below hR.bel p1
          have q2 := cell_below hR.bel p2
          have q3 := cell_below hR.bel p3
          have q4 := cell_below hR.bel p4
          have HFD : Hid (Sc.first (Sc.ruleErr ar) rs = Sc.thn (Sc.ruleErr ar (Sc.ruleD rs j)) (Sc.first (Sc.ruleErr ar) (rs.drop (j + 1)))) := HFJ.out.trans (Sc.first_drop _ _ _ j hjl)
          have HFI : Hid (RuleFit (Sc.ruleD rs j)) := HFR.out j hjl
          have hb1 : Below wr.heap.size wr (wr.alloc (.cells #[.int .i64 (Sc.ruleD rs j).pred, .slice at_ (Sc.ruleD rs j).terms.length ct, .int .i64 (Sc.ruleD rs j).fold, .slice ab (Sc.ruleD rs j).body.length cb, .int .i64 (Sc.ruleD rs j).vars] 67)) := (Below.refl _ _).alloc (Nat.le_refl _) _
          have hR1 := hR.below hb1
          clear p0 p1 p2 p3 p4 HFJ hL hb1
          generalize hx : Sc.ruleD rs j = x at *
          clear hx
          have c0 : (wr.alloc (.cells #[.int .i64 x.pred, .slice at_ x.terms.length ct, .int .i64 x.fold, .slice ab x.body.length cb, .int .i64 x.vars] 67)).cell? ⟨w.heap.size, 0, none⟩ = some (.slice ao ar.length cap) := by rw [Lib.cell_of_heap hR1.box]; rfl
          have c1 : (wr.alloc (.cells #[.int .i64 x.pred, .slice at_ x.terms.length ct, .int .i64 x.fold, .slice ab x.body.length cb, .int .i64 x.vars] 67)).cell? ⟨w.heap.size, 1, none⟩ = some (.slice an ns.length cn) := by rw [Lib.cell_of_heap hR1.box]; rfl
          have c2 : (wr.alloc (.cells #[.int .i64 x.pred, .slice at_ x.terms.length ct, .int .i64 x.fold, .slice ab x.body.length cb, .int .i64 x.vars] 67)).cell? ⟨w.heap.size, 2, none⟩ = some (.slice (some ⟨b, off, none⟩) rs.length cl) := by rw [Lib.cell_of_heap hR1.box]; rfl
          go_wp2_with fail
          refine Calls.mono (checkRule_any ar _ _ _ x _ _ _ (intsV_below HA.out hR1.bel) (ptermsV_below HT.out hR1.bel) (plitsV_below HB.out hR1.bel) HFI.out) ?_
          rintro e w2 ⟨he, hb2⟩
          by_cases h9 : Sc.ruleErr ar x = 0
          rotate_left
          · have HV : Hid (Sc.check ⟨ar, ns, rs⟩ = Sc.ruleErr ar x) := by show _ = _; rw [HE0.out, HFD.out, Sc.thn_ne _ h9]
            rw [finE_ne h9] at he
            subst he
            clear HE0 HFD
            go_wp2_with fail
            exact ⟨rfl, by rw [HV.out, finE_ne h9], hR1.bel.trans (hb2.mono hR1.bel.size)⟩
          rw [h9, finE_zero] at he
          subst he
          have hR2 := hR1.below hb2
          have HV : Hid (Sc.first (Sc.ruleErr ar) rs = Sc.first (Sc.ruleErr ar) (rs.drop (j + 1))) := by show _ = _; rw [HFD.out, h9, Sc.thn_zero]
          clear HFD HT HB HFI hb2 h9 hR1 q0 q1 q2 q3 q4 c0 c1 c2
          go_wp2_with fail
          go_roundw
          case rel => exact ⟨j + 1, by omega, by go_num, hR2, HV.out⟩
          case measure => simp [intOf]; omega
        · have HV : Hid (Sc.check ⟨ar, ns, rs⟩ = 0) := by show _ = _; rw [HE0.out, HFJ.out, List.drop_of_length_le (by omega)]; rfl
          clear HE0 hL
          go_wp2_with fail
          exact ⟨rfl, .tuple #[], by simp [results, Tryz.results33], by rw [HV.out]; rfl, hR.bel⟩

end Go.Proofs.YtgpaleifhcdjnaaGreatDoor

/- Package scope: what is caught. -/
namespace Go.Proofs.YtgpaleifhcdjnaaGreatDoor
open Go.RowKit

set_option maxRecDepth 100000 in
set_option maxHeartbeats 400000 in
theorem catchS_idle (pf : Addr) (w : World) :
    CallsD Tryz.prog 67 #[.pointer (some pf)] .returning w fun e u' w' => e = .returned (.tuple #[]) ∧ u' = .returning ∧ w' = w := by
  refine callsD_of_wpS Tryz.func67 rfl fun c₀ cs hu => ?_
  apply wpS_seq
  apply wpS_region
  simp [wpOpsS, go_sem, recoverD, hu, Tryz.ntmps67, Exit.thenS]
  refine wpS_of_wp ?_
  go_wp2
  refine ⟨rfl, .returning, ?_, .tuple #[], ?_, rfl, rfl, rfl⟩
  · rw [← hu]
  · simp [results, Tryz.results67]

set_option maxRecDepth 100000 in
set_option maxHeartbeats 400000 in
theorem catchS_panicking (bf : Nat) (g0 g1 : Value) (a c : Int) (older : List PanicEntry) (w : World)
    (hg0 : w.cell? ⟨bf, 0, none⟩ = some g0) (hg1 : w.cell? ⟨bf, 1, none⟩ = some g1) (fg0 : w.frozen? ⟨bf, 0, none⟩ = false) (fg1 : w.frozen? ⟨bf, 1, none⟩ = false) :
    CallsD Tryz.prog 67 #[.pointer (some ⟨bf, 0, none⟩)] (.panicking ({ v := .iface 71 (.agg #[.int .i64 a, .int .i64 c]), recovered := false } :: older)) w fun e u' w' =>
      e = .returned (.tuple #[]) ∧ u' = .panicking ({ v := .iface 71 (.agg #[.int .i64 a, .int .i64 c]), recovered := true } :: older) ∧
      w'.cell? ⟨bf, 0, none⟩ = some (.int .i64 a) ∧ w'.cell? ⟨bf, 1, none⟩ = some (.int .i64 c) ∧ w.grownBy w' (some bf) ∧ w'.heap.size = w.heap.size := by
  have hta : ∀ w : World, (Instr.typeAssert (.iface 71 (.agg #[.int .i64 a, .int .i64 c])) 20 71 false).run Tryz.prog w = .ok (.agg #[.int .i64 a, .int .i64 c]) w := fun _ => by kernel_rfl
  refine callsD_of_wpS Tryz.func67 rfl fun c₀ cs hu => ?_
  apply wpS_seq
  apply wpS_region
  simp [wpOpsS, go_sem, recoverD, hu, Tryz.ntmps67, Exit.thenS]
  refine wpS_of_wp ?_
  go_wp2
  refine ⟨rfl, _, rfl, .tuple #[], ?_, rfl, rfl, ?_, ?_, ?_, ?_⟩
  · simp [results, Tryz.results67]
  · simp [go_sem, hg0]
  · simp [go_sem, hg1]
  · exact grownBy_trans (grownBy_set _ _) (grownBy_set _ _)
  · simp

theorem enters32 : Enters 32 := enters_of Tryz.func32 (by kernel_rfl) rfl
theorem enters34 : Enters 34 := enters_of Tryz.func34 (by kernel_rfl) rfl
theorem enters40 : Enters 40 := enters_of Tryz.func40 (by kernel_rfl) rfl
/-- How what is caught ends. -/
def endE (a c : Int) : Ending := if c = 0 then goneOn else gaveF a c

/-- caught: the fault with which something gave up. -/
def CaughtEnd (a c : Int) (row : Option Nat) (Z : World → Prop) (w : World) (e : Ending) (w' : World) : Prop :=
  e = .returned (.agg #[.int .i64 (if c = 0 then 0 else a), .int .i64 c]) ∧ w.grownBy w' row ∧ Z w'

theorem grow_trans {w u v : World} {row : Option Nat} (o : Obj) (hu : (w.alloc o).grownBy u row) (hv : u.grownBy v (some w.heap.size)) : w.grownBy v row := by
  have hs : (w.alloc o).heap.size = w.heap.size + 1 := by simp
  refine ⟨hv.os.trans hu.os, hv.tape.trans hu.tape, hv.output.trans hu.output, Nat.le_trans (by rw [← Nat.succ_le_succ_iff]; have := hu.size; omega) hv.size, fun k hk hne => ?_⟩
  have h1 := hu.block k (by omega) hne
  have h2 := hv.block k (by have := hu.size; omega) (fun e => by injection e; omega)
  rw [h2, h1]
  exact ((Below.refl _ _).alloc (Nat.le_refl _) o).block k hk

set_option maxRecDepth 100000 in
set_option maxHeartbeats 1000000 in
theorem caught_any (G : Nat) (caps : Array Value) (row : Option Nat) (a c : Int) (Z : World → Prop) (w : World) (hE : Enters G) (hrow : ∀ k, row = some k → k < w.heap.size)
    (hZ : ∀ u v : World, Z u → v.heap.size = u.heap.size → (∀ k, ¬ k = w.heap.size → v.heap[k]? = u.heap[k]?) → Z v)
    (hdo : Calls Tryz.prog G caps (w.alloc (.cells #[.int .i64 0, .int .i64 0] 71)) fun e w' => e = endE a c ∧ (w.alloc (.cells #[.int .i64 0, .int .i64 0] 71)).grownBy w' row ∧ Z w') :
    Calls Tryz.prog 31 #[.func (.func G) #[] caps] w (CaughtEnd a c row Z w) := by
  have hmf : ∀ (fn : Fn) (first cap : Array Value) (w : World), (Instr.makeFunc fn first cap).run Tryz.prog w = .ok (.func fn first cap) w := fun _ _ _ _ => rfl
  have he := hE
  unfold Enters at he
  have hBx := heap_alloc_new w (.cells #[.int .i64 0, .int .i64 0] 71)
  go_enter_defers Tryz.func31, Tryz.ntmps31
  go_wp2_with fail
  refine Calls.mono hdo ?_
  rintro e w1 ⟨rfl, hg, hz⟩
  have hB1 := (hg.block _ (heap_lt hBx) (fun e => Nat.lt_irrefl _ (hrow _ e.symm))).trans hBx
  have g0 : w1.cell? ⟨w.heap.size, 0, none⟩ = some (.int .i64 0) := by rw [Lib.cell_of_heap hB1]; rfl
  have g1 : w1.cell? ⟨w.heap.size, 1, none⟩ = some (.int .i64 0) := by rw [Lib.cell_of_heap hB1]; rfl
  have f0 : w1.frozen? ⟨w.heap.size, 0, none⟩ = false := Lib.frozen_of_heap hB1 0
  have f1 : w1.frozen? ⟨w.heap.size, 1, none⟩ = false := Lib.frozen_of_heap hB1 1
  clear hdo hBx hB1 he hmf
  unfold endE
  by_cases hc : c = 0
  · subst hc
    rw [if_pos rfl]
    go_wp2_with fail
    refine leaves_cons (f := 67) (args := #[.pointer (some ⟨w.heap.size, 0, none⟩)]) (by simp) (by simp [go_sem]) ?_
    refine (catchS_idle _ _).mono ?_
    rintro e u' w2 ⟨rfl, rfl, rfl⟩
    refine ⟨.agg #[.int .i64 0, .int .i64 0], by simp [results, Tryz.results31, go_sem, g0, g1], rfl, ?_, ?_⟩
    · exact grow_trans _ hg (grownBy_trans (grownBy_set _ _) (grownBy_set _ _))
    · exact hZ _ _ hz (by simp) (fun k hk => by rw [Below.heap_setCell _ _ _ _ hk, Below.heap_setCell _ _ _ _ hk])
  · rw [if_neg hc]
    go_wp2_with fail
    refine leaves_cons (f := 67) (args := #[.pointer (some ⟨w.heap.size, 0, none⟩)]) (by simp) (by simp [go_sem]) ?_
    refine (catchS_panicking w.heap.size _ _ a c [] w1 g0 g1 f0 f1).mono ?_
    rintro e u' w2 ⟨rfl, rfl, k1, k2, hg2, hs2⟩
    refine ⟨.agg #[.int .i64 a, .int .i64 c], by simp [results, Tryz.results31, go_sem, k1, k2], by rw [if_neg hc], ?_, ?_⟩
    · exact grow_trans _ hg hg2
    · refine hZ _ _ hz hs2 (fun k hk => ?_)
      rcases Nat.lt_or_ge k w1.heap.size with h | h
      · exact hg2.block k h (fun e => by injection e with e; exact hk e)
      · rw [Array.getElem?_eq_none h, Array.getElem?_eq_none (by omega)]

theorem below_of_grown {w w' : World} (h : w.grownBy w' none) : Below w.heap.size w w' := ⟨h.os, h.tape, h.output, h.size, fun k hk => h.block k hk (fun e => by cases e)⟩
theorem fldF (a b : Value) (w : World) : (Instr.field 71 (.agg #[a, b]) 1).run Tryz.prog w = .ok b w := by kernel_rfl
theorem fldF0 (a b : Value) (w : World) : (Instr.field 71 (.agg #[a, b]) 0).run Tryz.prog w = .ok a w := by kernel_rfl

set_option maxRecDepth 100000 in
set_option maxHeartbeats 400000 in
theorem check1_any (p : Sc.Prog) (va vn vr : Value) (X : Nat) (w : World) (hX : w.heap[X]? = some (.cells #[va, vn, vr] 26)) (hP : ProgV w va vn vr p) (hF : ProgFit p) :
    Calls Tryz.prog 32 #[.pointer (some ⟨X, 0, none⟩)] w fun e w' => e = finE (Sc.check p) ∧ Below w.heap.size w w' := by
  have c0 : w.cell? ⟨X, 0, none⟩ = some va := by rw [Lib.cell_of_heap hX]; rfl
  have c1 : w.cell? ⟨X, 1, none⟩ = some vn := by rw [Lib.cell_of_heap hX]; rfl
  have c2 : w.cell? ⟨X, 2, none⟩ = some vr := by rw [Lib.cell_of_heap hX]; rfl
  go_enter Tryz.func32, Tryz.ntmps32
  go_wp2_with fail
  refine Calls.mono (scCheck_any p va vn vr _ hP hF) ?_
  rintro e w1 ⟨rfl, hb⟩
  by_cases h : Sc.check p = 0
  · rw [h, finE_zero]
    go_wp2_with fail
    exact ⟨rfl, .tuple #[], by simp [results, Tryz.results32], by rw [h]; rfl, hb⟩
  · rw [finE_ne h]
    go_wp2_with fail
    exact ⟨rfl, (finE_ne h).symm, hb⟩

set_option maxRecDepth 100000 in
set_option maxHeartbeats 400000 in
theorem ScCheck_any (p : Sc.Prog) (va vn vr : Value) (w : World) (hP : ProgV w va vn vr p) (hF : ProgFit p) :
    Calls Tryz.prog 10 #[progVal va vn vr] w fun e w' => e = .returned (.int .i64 (Sc.check p)) ∧ Below w.heap.size w w' := by
  obtain ⟨a0, n0, rfl, _⟩ := id hP.ar
  obtain ⟨a1, n1, rfl, _⟩ := id hP.nm
  obtain ⟨a2, n2, rfl, _⟩ := id hP.rl
  have hmf : ∀ (fn : Fn) (first cap : Array Value) (w : World), (Instr.makeFunc fn first cap).run Tryz.prog w = .ok (.func fn first cap) w := fun _ _ _ _ => rfl
  have hb0 : ∀ (u : World) (o : Obj), Below u.heap.size u (u.alloc o) := fun u o => (Below.refl _ _).alloc (Nat.le_refl _) o
  have hX := heap_alloc_new w (.cells #[.slice a0 p.arity.length n0, .slice a1 p.names.length n1, .slice a2 p.rules.length n2] 26)
  have hP1 := hP.below (hb0 w (.cells #[.slice a0 p.arity.length n0, .slice a1 p.names.length n1, .slice a2 p.rules.length n2] 26))
  have HB := hb0 w (.cells #[.slice a0 p.arity.length n0, .slice a1 p.names.length n1, .slice a2 p.rules.length n2] 26)
  go_enter Tryz.func10, Tryz.ntmps10
  go_wp2_with fail
  generalize w.alloc (.cells #[.slice a0 p.arity.length n0, .slice a1 p.names.length n1, .slice a2 p.rules.length n2] 26) = w1 at *
  refine Calls.mono (caught_any 32 _ none 0 (Sc.check p) (fun _ => True) w1 enters32 (fun _ e => by cases e) (fun _ _ _ _ _ => trivial) ?_) ?_
  · refine Calls.mono (check1_any p _ _ _ w.heap.size _ (((hb0 w1 _).block _ (heap_lt hX)).trans hX) (hP1.below (hb0 w1 _)) hF) ?_
    rintro e w2 ⟨rfl, hb⟩
    exact ⟨rfl, grownBy_of_below hb _, trivial⟩
  · rintro e w2 ⟨rfl, hg, _⟩
    have hbb := HB.trans ((below_of_grown hg).mono HB.size)
    go_wp2_with fail
    simp only [fldF]
    go_wp2_with fail
    go_ret
    exact ⟨rfl, hbb⟩

end Go.Proofs.YtgpaleifhcdjnaaGreatDoor

/- The parser's terms in brackets. -/
namespace Go.Proofs.YtgpaleifhcdjnaaGreatDoor
open Go.RowKit

theorem must_len {t : List UInt8} {en : Int} {r r' : List Tk.Tok} (ht : ¬ t = []) (h : Pr.must t en r = .inr r') : r'.length < r.length := by
  unfold Pr.must at h
  cases h1 : ((Pr.hd en r).text == t)
  · rw [h1] at h; simp at h
  · rw [h1] at h
    simp only [if_true, Sum.inr.injEq] at h
    have hr := hd_ne ht h1
    subst h
    cases r with
    | nil => exact absurd rfl hr
    | cons a r => simp
theorem kind_len {en : Int} {r : List Tk.Tok} {k : Int} (hk : ¬ k = 0) (h : ((Pr.hd en r).kind == k) = true) : r.tail.length < r.length := by
  cases r with
  | nil => exact absurd (eq_of_beq h).symm hk
  | cons a r => simp
theorem number_len {en : Int} {r : List Tk.Tok} {x : Int × List Tk.Tok} (h : Pr.number en r = .inr x) : x.2.length < r.length := by
  unfold Pr.number at h
  cases hk : ((Pr.hd en r).kind == 3)
  · rw [hk] at h; simp at h
  · rw [hk] at h
    simp only [if_true, Sum.inr.injEq] at h
    subst h
    exact kind_len (by decide) hk
theorem term_len {en : Int} {r : List Tk.Tok} {x : Tr.Term × List Tk.Tok} (h : Pr.term en r = .inr x) : x.2.length < r.length := by
  unfold Pr.term at h
  cases h2 : ((Pr.hd en r).kind == 2)
  · cases h3 : ((Pr.hd en r).kind == 3)
    · rw [h2, h3] at h
      simp only [Bool.false_eq_true, if_false] at h
      cases hm : Pr.must [45] en r with
      | inl a => rw [hm] at h; simp at h
      | inr r1 =>
        rw [hm] at h
        have hl := must_len (by simp) hm
        simp only at h
        unfold Pr.neg at h
        cases h0 : ((Pr.hd en r1).text == [48])
        · rw [h0] at h
          simp only [Bool.false_eq_true, if_false] at h
          cases hn : Pr.number en r1 with
          | inl a => rw [hn] at h; simp at h
          | inr y =>
            rw [hn] at h
            simp only [Sum.inr.injEq] at h
            have := number_len hn
            subst h
            exact Nat.lt_trans this hl
        · rw [h0] at h; simp at h
    · rw [h2, h3] at h
      simp only [Bool.false_eq_true, if_false, if_true, Sum.inr.injEq] at h
      subst h
      exact kind_len (by decide) h3
  · rw [h2] at h
    simp only [if_true, Sum.inr.injEq] at h
    subst h
    exact kind_len (by decide) h2
theorem fold_len (may : Bool) (en : Int) (r : List Tk.Tok) : (Pr.foldMay may en r).2.length ≤ r.length := by
  unfold Pr.foldMay Pr.foldAt
  split
  · split <;> simp
  · simp
theorem text_len {t : List UInt8} {en : Int} {r : List Tk.Tok} (ht : ¬ t = []) (h : Pr.isText en r t = true) : r.tail.length < r.length := by
  have := hd_ne ht h
  cases r with
  | nil => exact absurd rfl this
  | cons a r => simp

/-- What terms leaves. -/
def TermsEnd (may : Bool) (P : Nat) (L : List Tk.Tok) (en : Int) (r : List Tk.Tok) (w : World) (e : Ending) (w' : World) : Prop := match Pr.terms may en r with
  | .inl a => e = gaveP a ∧ w.grownBy w' (some P)
  | .inr x => ∃ v, e = .returned (.tuple #[v, .int .i64 x.1.2]) ∧ TermsP w.heap.size w' v x.1.1 ∧ Went w w' P L en x.2

/-- fold, where it may be asked for. -/
theorem fold_any (P : Nat) (L : List Tk.Tok) (en : Int) (r : List Tk.Tok) (w : World) (hA : At w P L en r) :
    Calls Tryz.prog 151 #[.pointer (some ⟨P, 0, none⟩)] w fun e w' => e = .returned (.int .i64 (Pr.foldMay true en r).1) ∧ Went w w' P L en (Pr.foldMay true en r).2 := by
  by_cases h : Tr.foldOf (Pr.hd en r).text = 0
  · have e1 : Pr.foldMay true en r = (0, r) := by simp [Pr.foldMay, Pr.foldAt, h]
    rw [e1]
    refine (fold_no P L en r w hA h).mono ?_
    rintro e w' ⟨rfl, hb⟩
    exact ⟨rfl, grownBy_of_below hb _, hA.below hb⟩
  · have e1 : Pr.foldMay true en r = (Tr.foldOf (Pr.hd en r).text, r.tail) := by simp [Pr.foldMay, Pr.foldAt, h]
    rw [e1]
    exact fold_yes P L en r w hA h

theorem A_info71 : (Tryz.prog.info? 59).map (fun i => (i.zero, i.size, i.bytes)) = some (some (.agg #[.string ⟨#[]⟩, .int .i64 0]), 2, 24) := by kernel_rfl

/-- A term more. -/
theorem more_step (may : Bool) (en : Int) (f : Nat) (acc : List Tr.Term) (r : List Tk.Tok) (t : Tr.Term) (r2 : List Tk.Tok) (h : Pr.term en (Pr.foldMay may en r).2 = .inr (t, r2)) :
    Pr.more may en (f + 1) acc r = if ((Pr.foldMay may en r).1 == 0) && Pr.isText en r2 [44] then Pr.more may en f (acc ++ [t]) r2.tail else .inr ((acc ++ [t], (Pr.foldMay may en r).1), r2) := by
  rw [Pr.more, h]

end Go.Proofs.YtgpaleifhcdjnaaGreatDoor

/- The parser's terms in brackets: the loop. -/
namespace Go.Proofs.YtgpaleifhcdjnaaGreatDoor
open Go.RowKit

/-- 1, if it is true. -/
def bitOf (v : Value) : Nat := match v with | .bool true => 1 | _ => 0

theorem ownsRow_grown {w w' : World} {P base : Nat} {e : TypeId} {size : Nat} {v : Value} {n : Nat} {xs : List Value} (h : w.ownsRow base e size v n xs) (hg : w.grownBy w' (some P)) (hP : P < base) : w'.ownsRow base e size v n xs := by
  obtain ⟨h1, h2⟩ := h
  refine ⟨h1, ?_⟩
  rcases h2 with h2 | ⟨g, cap, cur, hv, hb, hbk, r⟩
  · exact .inl h2
  · exact .inr ⟨g, cap, cur, hv, hb, (hg.block g (heap_lt hbk) (by intro h; injection h; omega)).trans hbk, r⟩
theorem Went.own {w w3 w4 : World} {P base k n : Nat} {L : List Tk.Tok} {en : Int} {r : List Tk.Tok} {e : TypeId} {v : Value} {xs : List Value} (h : Went w w3 P L en r) (hg : w3.grownBy w4 v.ownBlock) (hown : w3.ownsRow base e k v n xs) (hb : w.heap.size ≤ base) (hP : P < w.heap.size) : Went w w4 P L en r := by
  have hne : ∀ i, i < w.heap.size → some i ≠ v.ownBlock := fun i hi he => by have := (hown.lt i he.symm).1; omega
  have hs := h.1.size
  refine ⟨⟨hg.os.trans h.1.os, hg.tape.trans h.1.tape, hg.output.trans h.1.output, Nat.le_trans hs hg.size, fun i hi hiP => (hg.block i (by omega) (hne i hi)).trans (h.1.block i hi hiP)⟩, h.2.keep fun i hi => hg.block i (by omega) (hne i (by omega))⟩

set_option maxRecDepth 100000 in
set_option maxHeartbeats 400000 in
theorem terms_off (may : Bool) (P : Nat) (L : List Tk.Tok) (en : Int) (r : List Tk.Tok) (w : World) (hA : At w P L en r) (h : Pr.isText en r [40] = false) :
    Calls Tryz.prog 126 #[.pointer (some ⟨P, 0, none⟩), .bool may] w (TermsEnd may P L en r w) := by
  have hE : TermsEnd may P L en r w = fun e w' => e = gaveP (Pr.hd en r).at_ ∧ w.grownBy w' (some P) := by
    funext e w'
    unfold Pr.isText at h
    simp [TermsEnd, Pr.terms, Pr.must, h]
  rw [hE]
  have hmu : Hid _ := must_no [40] P L en r w hA h
  generalize Pr.hd en r = x at *
  go_enter Tryz.func126, Tryz.ntmps126
  go_wp2_with fail
  refine Calls.mono hmu.out ?_
  rintro e w1 ⟨rfl, hb⟩
  exact ⟨rfl, rfl, grownBy_of_below hb _⟩

set_option maxRecDepth 100000 in
set_option maxHeartbeats 400000 in
theorem terms_none (may : Bool) (P : Nat) (L : List Tk.Tok) (en : Int) (r : List Tk.Tok) (w : World) (hA : At w P L en r) (h : Pr.isText en r [40] = true) (h1 : Pr.isText en r.tail [41] = true) :
    Calls Tryz.prog 126 #[.pointer (some ⟨P, 0, none⟩), .bool may] w (TermsEnd may P L en r w) := by
  have hE : TermsEnd may P L en r w = fun e w' => ∃ v, e = .returned (.tuple #[v, .int .i64 0]) ∧ TermsP w.heap.size w' v [] ∧ Went w w' P L en r.tail.tail := by
    funext e w'
    have h' := h
    unfold Pr.isText at h'
    simp [TermsEnd, Pr.terms, Pr.must, Pr.inside, h', h1]
  rw [hE]
  have hmu : Hid _ := must_yes [40] P L en r w hA (by simp) h
  go_enter Tryz.func126, Tryz.ntmps126
  go_wp2_with fail
  refine Calls.mono hmu.out ?_
  rintro e w1 ⟨rfl, hW⟩
  go_wp2_with fail
  refine (take_yes [41] P L en r.tail w1 hW.2 (by simp) h1).mono ?_
  rintro e w2 ⟨rfl, hW2⟩
  go_wp2
  exact bodyPost_ret (v := .tuple #[.slice none 0 0, .int .i64 0]) (by simp [results, Tryz.results126]) rfl ⟨_, rfl, ⟨none, 0, rfl, .inl rfl⟩, Went.trans hW hW2⟩

set_option maxRecDepth 100000 in
set_option maxHeartbeats 1000000 in
theorem terms_some (may : Bool) (P : Nat) (L : List Tk.Tok) (en : Int) (r : List Tk.Tok) (w : World) (hA : At w P L en r) (h : Pr.isText en r [40] = true) (h1 : Pr.isText en r.tail [41] = false) :
    Calls Tryz.prog 126 #[.pointer (some ⟨P, 0, none⟩), .bool may] w (TermsEnd may P L en r w) := by
  obtain ⟨i0, hi, hz0, hz1, hz2⟩ := info_parts A_info71
  have HE : Hid (∀ e w', (match Pr.more may en (r.tail.length + 1) [] r.tail with
      | .inl a => e = gaveP a ∧ w.grownBy w' (some P)
      | .inr x => match Pr.must [41] en x.2 with
        | .inl a => e = gaveP a ∧ w.grownBy w' (some P)
        | .inr r3 => ∃ v, e = .returned (.tuple #[v, .int .i64 x.1.2]) ∧ TermsP w.heap.size w' v x.1.1 ∧ Went w w' P L en r3) → TermsEnd may P L en r w e w') := by
    intro e w' hh
    have h' := h
    unfold Pr.isText at h'
    simp only [TermsEnd, Pr.terms, Pr.must, Pr.inside, h', h1, if_true, Bool.false_eq_true, if_false]
    revert hh
    cases Pr.more may en (r.tail.length + 1) [] r.tail with
    | inl a => exact id
    | inr x =>
      simp only [Pr.must]
      cases ((Pr.hd en x.2).text == [41]) <;> exact id
  have hmu : Hid _ := must_yes [40] P L en r w hA (by simp) h
  have hlt := hA.lt
  generalize hX : Pr.more may en (r.tail.length + 1) [] r.tail = X at HE
  generalize TermsEnd may P L en r w = Q at *
  clear hA
  go_enter Tryz.func126, Tryz.ntmps126
  go_wp2_with fail
  refine Calls.mono hmu.out ?_
  rintro e w1 ⟨rfl, hW1⟩
  go_wp2_with fail
  refine (take_no [41] P L en r.tail w1 hW1.2 h1).mono ?_
  rintro e w2 ⟨rfl, hb2⟩
  have hW2 : Went w w2 P L en r.tail := Went.below hW1 hb2
  clear hW1 hb2 hmu h h1
  generalize r.tail = r0 at *
  go_wp2_with fail
  go_loopw [6, 7, 8] (fun a b c wr => ∃ (acc : List Tr.Term) (r1 : List Tk.Tok) (fo : Int), wr.ownsRow w.heap.size 59 2 a acc.length (acc.map termCells).flatten ∧ Went w wr P L en r1 ∧ b = .int .i64 fo ∧ acc.length + r1.length ≤ L.length ∧
      ((c = .bool true ∧ fo = 0 ∧ ∃ f, r1.length < f ∧ Pr.more may en f acc r1 = X) ∨ (c = .bool false ∧ X = .inr ((acc, fo), r1))))
    (fun _ _ c wr => bitOf c + (L.length - nxOf wr P))
  case atStart =>
    obtain ⟨m1, m2, m3⟩ := hW2.2.meas
    exact ⟨[], r0, 0, World.ownsRow_nil _ _ _ _, hW2, rfl, by simpa using m2, .inl ⟨rfl, rfl, _, Nat.lt_succ_self _, hX⟩⟩
  case round =>
    obtain ⟨acc, r1, fo, hown, hW, rfl, hlen, hc⟩ := hrel
    obtain ⟨ao, cap, rfl⟩ := own_slice hown
    obtain ⟨m1, m2, m3⟩ := hW.2.meas
    rcases hc with ⟨rfl, rfl, f, hf, hX1⟩ | ⟨rfl, hX1⟩
    · obtain ⟨f, rfl⟩ : ∃ f', f = f' + 1 := ⟨f - 1, by omega⟩
      cases may
      · have hWF := hW
        have hownF := hown
        cases hT : Pr.term en r1 with
        | inl a =>
          have hXa : X = .inl a := by rw [← hX1, Pr.more, show Pr.foldMay false en r1 = (0, r1) from rfl, hT]
          go_wp2_with fail
          refine (term_no P L en r1 _ hWF.2 a hT).mono ?_
          rintro e w3 ⟨rfl, hg3⟩
          exact ⟨rfl, HE.out _ _ (by rw [hXa]; exact ⟨rfl, grownBy_trans hWF.1 hg3⟩)⟩
        | inr x =>
          obtain ⟨t, r2⟩ := x
          have hl2 : r2.length < r1.length := Nat.lt_of_lt_of_le (term_len hT) (Nat.le_refl _)
          have hXs : X = if ((0 : Int) == 0) && Pr.isText en r2 [44] then Pr.more false en f (acc ++ [t]) r2.tail else .inr ((acc ++ [t], (0 : Int)), r2) := by rw [← hX1, Pr.more, show Pr.foldMay false en r1 = (0, r1) from rfl, hT]
          go_wp2_with fail
          refine (term_yes P L en r1 _ hWF.2 t r2 hT).mono ?_
          rintro e w3 ⟨rfl, hW3⟩
          have hW3' : Went w w3 P L en r2 := Went.trans hWF hW3
          have hown3 := ownsRow_grown hownF hW3.1 hlt
          have hsz3 : w.heap.size ≤ w3.heap.size := hW3'.1.size
          clear hW3 hX1 hT
          go_wp2_with (at_builtin; refine wpList_append_own _ rfl (.tmp 23) (.tmp 26) 54 rfl w.heap.size 59 i0 _ 2 24 Tryz.underlying54 hi hz0 hz1 hz2 rfl (by decide) _ _ _ rfl (ownsRow_below hown3 ((Below.refl _ _).alloc (Nat.le_refl _) _)) ⟨w3.heap.size, 0, none⟩ 1 1 (termCells t) rfl rfl ?c1 ?c2 ?c3 ?c4 ?c5 ?_)
          case c1 =>
            intro j u hj
            match j, hj with
            | 0, hj => simp [termCells] at hj; subst hj; simp [Addr.add, go_sem]
            | 1, hj => simp [termCells] at hj; subst hj; simp [Addr.add, go_sem]
          case c2 => intro u hu; simp [termCells] at hu; rcases hu with rfl | rfl <;> rfl
          case c3 => unfold maxLen; omega
          case c4 => omega
          case c5 => simp; omega
          intro v' w4 hown4 hgrow _
          have hW4 : Went w w4 P L en r2 := Went.own (Went.alloc hW3' _) hgrow (ownsRow_below hown3 ((Below.refl _ _).alloc (Nat.le_refl _) _)) (Nat.le_refl _) hlt
          have hown4' : w4.ownsRow w.heap.size 59 2 v' (acc ++ [t]).length ((acc ++ [t]).map termCells).flatten := by
            simpa using hown4
          obtain ⟨ao', cap', rfl⟩ := own_slice hown4
          clear hown4 hgrow hown3 hW3' hi hz0 hz1 hz2
          cases hq : Pr.isText en r2 [44]
          · go_wp2_with fail
            refine (take_no [44] P L en r2 _ hW4.2 hq).mono ?_
            rintro e w5 ⟨rfl, hb5⟩
            have hW5 := Went.below hW4 hb5
            go_wp2
            go_roundw
            case rel => exact ⟨acc ++ [t], r2, 0, ownsRow_below hown4' hb5, hW5, rfl, by rw [List.length_append]; simp; omega, .inr ⟨rfl, by rw [hXs, hq]; rfl⟩⟩
            case measure => rw [hW5.2.meas.1, hW.2.meas.1]; simp [bitOf]; omega
          · have hl3 := text_len (by simp) hq
            go_wp2_with fail
            refine (take_yes [44] P L en r2 _ hW4.2 (by simp) hq).mono ?_
            rintro e w5 ⟨rfl, hW5⟩
            have hown5 := ownsRow_grown hown4' hW5.1 hlt
            have hW5 := Went.trans hW4 hW5
            go_wp2
            go_roundw
            case rel => exact ⟨acc ++ [t], r2.tail, 0, hown5, hW5, rfl, by rw [List.length_append]; simp; omega, .inl ⟨rfl, rfl, f, by omega, by rw [hXs, hq]; rfl⟩⟩
            case measure => rw [hW5.2.meas.1, hW.2.meas.1]; simp [bitOf]; omega
      · have hfl := fold_len true en r1
        generalize hfm : Pr.foldMay true en r1 = fm at hfl
        have hfa : Hid (∀ w', At w' P L en r1 → _) := fun w' h' => fold_any P L en r1 w' h'
        rw [hfm] at hfa
        go_wp2_with fail
        refine Calls.mono (hfa.out _ hW.2) ?_
        rintro e wf ⟨rfl, hWf⟩
        have hWF : Went w wf P L en fm.2 := Went.trans hW hWf
        have hownF := ownsRow_grown hown hWf.1 hlt
        cases hT : Pr.term en fm.2 with
        | inl a =>
          have hXa : X = .inl a := by rw [← hX1, Pr.more, hfm, hT]
          go_wp2_with fail
          refine (term_no P L en fm.2 _ hWF.2 a hT).mono ?_
          rintro e w3 ⟨rfl, hg3⟩
          exact ⟨rfl, HE.out _ _ (by rw [hXa]; exact ⟨rfl, grownBy_trans hWF.1 hg3⟩)⟩
        | inr x =>
          obtain ⟨t, r2⟩ := x
          have hl2 : r2.length < r1.length := Nat.lt_of_lt_of_le (term_len hT) (hfl)
          have hXs : X = if (fm.1 == 0) && Pr.isText en r2 [44] then Pr.more true en f (acc ++ [t]) r2.tail else .inr ((acc ++ [t], fm.1), r2) := by rw [← hX1, Pr.more, hfm, hT]
          go_wp2_with fail
          refine (term_yes P L en fm.2 _ hWF.2 t r2 hT).mono ?_
          rintro e w3 ⟨rfl, hW3⟩
          have hW3' : Went w w3 P L en r2 := Went.trans hWF hW3
          have hown3 := ownsRow_grown hownF hW3.1 hlt
          have hsz3 : w.heap.size ≤ w3.heap.size := hW3'.1.size
          clear hW3 hX1 hT
          go_wp2_with (at_builtin; refine wpList_append_own _ rfl (.tmp 23) (.tmp 26) 54 rfl w.heap.size 59 i0 _ 2 24 Tryz.underlying54 hi hz0 hz1 hz2 rfl (by decide) _ _ _ rfl (ownsRow_below hown3 ((Below.refl _ _).alloc (Nat.le_refl _) _)) ⟨w3.heap.size, 0, none⟩ 1 1 (termCells t) rfl rfl ?c1 ?c2 ?c3 ?c4 ?c5 ?_)
          case c1 =>
            intro j u hj
            match j, hj with
            | 0, hj => simp [termCells] at hj; subst hj; simp [Addr.add, go_sem]
            | 1, hj => simp [termCells] at hj; subst hj; simp [Addr.add, go_sem]
          case c2 => intro u hu; simp [termCells] at hu; rcases hu with rfl | rfl <;> rfl
          case c3 => unfold maxLen; omega
          case c4 => omega
          case c5 => simp; omega
          intro v' w4 hown4 hgrow _
          have hW4 : Went w w4 P L en r2 := Went.own (Went.alloc hW3' _) hgrow (ownsRow_below hown3 ((Below.refl _ _).alloc (Nat.le_refl _) _)) (Nat.le_refl _) hlt
          have hown4' : w4.ownsRow w.heap.size 59 2 v' (acc ++ [t]).length ((acc ++ [t]).map termCells).flatten := by
            simpa using hown4
          obtain ⟨ao', cap', rfl⟩ := own_slice hown4
          clear hown4 hgrow hown3 hW3' hi hz0 hz1 hz2
          cases hf : (fm.1 == 0)
          · go_wp2
            go_roundw
            case rel => exact ⟨acc ++ [t], r2, fm.1, hown4', hW4, rfl, by rw [List.length_append]; simp; omega, .inr ⟨rfl, by rw [hXs, hf]; rfl⟩⟩
            case measure => rw [hW4.2.meas.1, hW.2.meas.1]; simp [bitOf]; omega
          · have hf0 : fm.1 = 0 := eq_of_beq hf
            cases hq : Pr.isText en r2 [44]
            · go_wp2_with fail
              refine (take_no [44] P L en r2 _ hW4.2 hq).mono ?_
              rintro e w5 ⟨rfl, hb5⟩
              have hW5 := Went.below hW4 hb5
              go_wp2
              go_roundw
              case rel => exact ⟨acc ++ [t], r2, fm.1, ownsRow_below hown4' hb5, hW5, by rw [hf0], by rw [List.length_append]; simp; omega, .inr ⟨rfl, by rw [hXs, hf, hq]; rfl⟩⟩
              case measure => rw [hW5.2.meas.1, hW.2.meas.1]; simp [bitOf]; omega
            · have hl3 := text_len (by simp) hq
              go_wp2_with fail
              refine (take_yes [44] P L en r2 _ hW4.2 (by simp) hq).mono ?_
              rintro e w5 ⟨rfl, hW5⟩
              have hown5 := ownsRow_grown hown4' hW5.1 hlt
              have hW5 := Went.trans hW4 hW5
              go_wp2
              go_roundw
              case rel => exact ⟨acc ++ [t], r2.tail, fm.1, hown5, hW5, by rw [hf0], by rw [List.length_append]; simp; omega, .inl ⟨rfl, hf0, f, by omega, by rw [hXs, hf, hq]; rfl⟩⟩
              case measure => rw [hW5.2.meas.1, hW.2.meas.1]; simp [bitOf]; omega
    · cases hq : Pr.isText en r1 [41]
      · have hm : Pr.must [41] en r1 = .inl (Pr.hd en r1).at_ := by unfold Pr.must; unfold Pr.isText at hq; rw [hq]; rfl
        go_wp2_with fail
        refine (must_no [41] P L en r1 _ hW.2 hq).mono ?_
        rintro e w5 ⟨rfl, hb5⟩
        exact ⟨rfl, HE.out _ _ (by rw [hX1]; simp only [hm]; exact ⟨trivial, ground hW.1 hb5⟩)⟩
      · have hm : Pr.must [41] en r1 = .inr r1.tail := by unfold Pr.must; unfold Pr.isText at hq; rw [hq]; rfl
        go_wp2_with fail
        refine (must_yes [41] P L en r1 _ hW.2 (by simp) hq).mono ?_
        rintro e w5 ⟨rfl, hW5⟩
        have hown5 := ownsRow_grown hown hW5.1 hlt
        go_wp2
        refine HE.out _ _ ?_
        rw [hX1]
        simp only [hm]
        exact ⟨_, rfl, rowP_own (by intro c hc; simp at hc; obtain ⟨t, _, rfl⟩ := hc; rfl) (by rw [List.length_map]; exact hown5), Went.trans hW hW5⟩

theorem terms_any (may : Bool) (P : Nat) (L : List Tk.Tok) (en : Int) (r : List Tk.Tok) (w : World) (hA : At w P L en r) :
    Calls Tryz.prog 126 #[.pointer (some ⟨P, 0, none⟩), .bool may] w (TermsEnd may P L en r w) := by
  cases h : Pr.isText en r [40]
  · exact terms_off may P L en r w hA h
  · cases h1 : Pr.isText en r.tail [41]
    · exact terms_some may P L en r w hA h h1
    · exact terms_none may P L en r w hA h h1

end Go.Proofs.YtgpaleifhcdjnaaGreatDoor

/- Package scope: the resolver's predicates. -/
namespace Go.Proofs.YtgpaleifhcdjnaaGreatDoor
open Go.RowKit

def intCells (l : List Int) : List Value := l.map (Value.int .i64)
def strCells (l : List (List UInt8)) : List Value := l.map fun s => .string ⟨s.toArray⟩
theorem A_info3 : (Tryz.prog.info? 3).map (fun i => (i.zero, i.size, i.bytes)) = some (some (.int .i64 0), 1, 8) := by kernel_rfl
theorem A_info9 : (Tryz.prog.info? 9).map (fun i => (i.zero, i.size, i.bytes)) = some (some (.string ⟨#[]⟩), 1, 16) := by kernel_rfl

/-- What may change: the resolver's block, its map, and rows of numbers and names behind B. -/
structure FrP (B RV M : Nat) (w w' : World) : Prop where
  os : w'.os = w.os
  tape : w'.tape = w.tape
  output : w'.output = w.output
  size : w.heap.size ≤ w'.heap.size
  block : ∀ k, k < w.heap.size → ¬ k = RV → ¬ k = M → (k < B ∨ ∀ cur e fz, w.heap[k]? = some (.cells cur e fz) → ¬ e = 3 ∧ ¬ e = 9) → w'.heap[k]? = w.heap[k]?
theorem FrP.refl (B RV M : Nat) (w : World) : FrP B RV M w w := ⟨rfl, rfl, rfl, Nat.le_refl _, fun _ _ _ _ _ => rfl⟩
theorem FrP.trans {B RV M : Nat} {a b c : World} (h : FrP B RV M a b) (k : FrP B RV M b c) : FrP B RV M a c :=
  ⟨k.os.trans h.os, k.tape.trans h.tape, k.output.trans h.output, Nat.le_trans h.size k.size, fun i hi h1 h2 h3 => by
    have e := h.block i hi h1 h2 h3
    refine (k.block i (Nat.lt_of_lt_of_le hi h.size) h1 h2 ?_).trans e
    rcases h3 with h3 | h3
    · exact .inl h3
    · exact .inr fun cur e' fz he => h3 cur e' fz (e ▸ he)⟩
theorem FrP.of_below {B RV M : Nat} {w w' : World} (h : Below w.heap.size w w') : FrP B RV M w w' := ⟨h.os, h.tape, h.output, h.size, fun k hk _ _ _ => h.block k hk⟩
theorem FrP.of_map {B RV M : Nat} {w w' : World} (h : w.grownBy w' (some M)) : FrP B RV M w w' := ⟨h.os, h.tape, h.output, h.size, fun k hk _ hm _ => h.block k hk (fun e => hm (by injection e))⟩
theorem FrP.of_set (B RV M : Nat) (w : World) (o : Nat) (v : Value) : FrP B RV M w (w.setCell ⟨RV, o, none⟩ v) := ⟨rfl, rfl, rfl, by simp, fun k _ hr _ _ => Below.heap_setCell _ _ _ _ hr⟩
theorem FrP.of_own {B RV M k n : Nat} {w w' : World} {e : TypeId} {v : Value} {xs : List Value} (hg : w.grownBy w' v.ownBlock) (ho : w.ownsRow B e k v n xs) (he : e = 3 ∨ e = 9) : FrP B RV M w w' := by
  refine ⟨hg.os, hg.tape, hg.output, hg.size, fun i hi _ _ h3 => hg.block i hi (fun hv => ?_)⟩
  rcases ho.2 with ⟨rfl, h0⟩ | ⟨g, cap, cur, rfl, hb, hbk, r⟩
  · cases hv
  · have hig : i = g := by simpa [Value.ownBlock] using hv
    subst hig
    rcases h3 with h3 | h3
    · omega
    · have := h3 _ _ _ hbk
      rcases he with rfl | rfl
      · exact this.1 rfl
      · exact this.2 rfl
theorem ownsRow_same {w w' : World} {base k n : Nat} {e : TypeId} {v : Value} {xs : List Value} (h : w.ownsRow base e k v n xs) (hk : ∀ g cur fz, base ≤ g → w.heap[g]? = some (.cells cur e fz) → w'.heap[g]? = w.heap[g]?) : w'.ownsRow base e k v n xs := by
  obtain ⟨h1, h2⟩ := h
  refine ⟨h1, ?_⟩
  rcases h2 with h2 | ⟨g, cap, cur, hv, hb, hbk, r⟩
  · exact .inl h2
  · exact .inr ⟨g, cap, cur, hv, hb, (hk g _ _ hb hbk).trans hbk, r⟩
theorem NumAt.same {w w' : World} {M : Nat} {ns : List (List UInt8)} (h : NumAt w M ns) (hb : w'.heap[M]? = w.heap[M]?) : NumAt w' M ns := by
  obtain ⟨D, ⟨es, clock, h1, h2, h3, h4⟩, hN⟩ := h
  exact ⟨D, ⟨es, clock, hb.trans h1, h2, h3, h4⟩, hN⟩

/-- The resolver in memory: its block, its map, its rows. -/
structure RsI (B RV M : Nat) (st : Sc.St) (va vn vr : Value) (w : World) : Prop where
  box : w.heap[RV]? = some (.cells #[va, vn, vr, .map (some M)] 123 (0, 0))
  oa : w.ownsRow B 3 1 va st.arity.length (intCells st.arity)
  on : w.ownsRow B 9 1 vn st.names.length (strCells st.names)
  num : NumAt w M st.names
  len : st.arity.length = st.names.length
  rb : RV < B
  mb : M < B
  ne : ¬ RV = M
  sz : B ≤ w.heap.size
theorem RsI.keep {B RV M : Nat} {st : Sc.St} {va vn vr : Value} {w w' : World} (h : RsI B RV M st va vn vr w) (hs : w.heap.size ≤ w'.heap.size) (hr : w'.heap[RV]? = w.heap[RV]?) (hm : w'.heap[M]? = w.heap[M]?)
    (hk : ∀ g cur e fz, B ≤ g → w.heap[g]? = some (.cells cur e fz) → (e = 3 ∨ e = 9) → w'.heap[g]? = w.heap[g]?) : RsI B RV M st va vn vr w' :=
  ⟨hr.trans h.box, ownsRow_same h.oa fun g cur fz hb hh => hk g cur 3 fz hb hh (.inl rfl), ownsRow_same h.on fun g cur fz hb hh => hk g cur 9 fz hb hh (.inr rfl), h.num.same hm, h.len, h.rb, h.mb, h.ne, Nat.le_trans h.sz hs⟩
theorem RsI.below {B RV M : Nat} {st : Sc.St} {va vn vr : Value} {w w' : World} (h : RsI B RV M st va vn vr w) (hb : Below w.heap.size w w') : RsI B RV M st va vn vr w' :=
  h.keep hb.size (hb.block _ (heap_lt h.box)) (hb.block _ h.num.lt) fun _ _ _ _ _ hh _ => hb.block _ (heap_lt hh)
theorem RsI.of {B RV M : Nat} {st : Sc.St} {va vn vr : Value} {w w' : World} (h : RsI B RV M st va vn vr w) (hg : w.grownBy w' (some M)) (hn : NumAt w' M st.names) : RsI B RV M st va vn vr w' := by
  have hmb := h.mb
  exact ⟨(hg.block _ (heap_lt h.box) (fun e => h.ne (by injection e))).trans h.box, ownsRow_grown h.oa hg hmb, ownsRow_grown h.on hg hmb, hn, h.len, h.rb, h.mb, h.ne, Nat.le_trans h.sz hg.size⟩
theorem own_int {w : World} {B : Nat} {v : Value} {l : List Int} (h : w.ownsRow B 3 1 v l.length (intCells l)) (k : Nat) (hk : k < l.length) : ∃ g cap, v = .slice (some ⟨g, 0, none⟩) l.length cap ∧ w.cell? ⟨g, k, none⟩ = some (.int .i64 (Sc.intD l k)) := by
  rcases h.2 with ⟨rfl, h0⟩ | ⟨g, cap, cur, rfl, hb, hbk, r⟩
  · omega
  · refine ⟨g, cap, rfl, ?_⟩
    have := h.cells (g := g) rfl k (.int .i64 (Sc.intD l k)) (by simp [intCells, Sc.intD, List.getD_eq_getElem?_getD, hk])
    have hadd : ((⟨g, 0, none⟩ : Addr).add k) = ⟨g, k, none⟩ := by unfold Addr.add; split <;> simp_all
    rwa [hadd] at this

theorem box_cell {w : World} {RV : Nat} {a b c d : Value} (h : w.heap[RV]? = some (.cells #[a, b, c, d] 123 (0, 0))) : (w.cell? ⟨RV, 0, none⟩ = some a ∧ w.frozen? ⟨RV, 0, none⟩ = false) ∧ (w.cell? ⟨RV, 1, none⟩ = some b ∧ w.frozen? ⟨RV, 1, none⟩ = false) ∧ (w.cell? ⟨RV, 2, none⟩ = some c ∧ w.frozen? ⟨RV, 2, none⟩ = false) :=
  ⟨⟨by rw [Lib.cell_of_heap h]; rfl, Lib.frozen_of_heap h 0⟩, ⟨by rw [Lib.cell_of_heap h]; rfl, Lib.frozen_of_heap h 1⟩, ⟨by rw [Lib.cell_of_heap h]; rfl, Lib.frozen_of_heap h 2⟩⟩
theorem grown_old {w w' : World} {row : Option Nat} {k : Nat} {o : Obj} {x : Obj} (hg : (w.alloc o).grownBy w' row) (hx : w.heap[k]? = some x) (hne : some k ≠ row) : w'.heap[k]? = some x :=
  (hg.block k (Nat.lt_of_lt_of_le (heap_lt hx) (by simp)) hne).trans ((((Below.refl _ _).alloc (Nat.le_refl _) o).block k (heap_lt hx)).trans hx)
theorem own_ne {w : World} {B k n j : Nat} {e : TypeId} {v : Value} {xs : List Value} (h : w.ownsRow B e k v n xs) (hj : j < B) : some j ≠ v.ownBlock := fun he => by have := (h.lt j he.symm).1; omega
theorem own_keep {w w' : World} {B k n k2 n2 : Nat} {e e2 : TypeId} {v v2 : Value} {xs xs2 : List Value} (h : w.ownsRow B e k v n xs) (hg : w.grownBy w' v2.ownBlock) (h2 : w.ownsRow B e2 k2 v2 n2 xs2) (hne : ¬ e = e2) : w'.ownsRow B e k v n xs :=
  ownsRow_same h fun g cur fz _ hh => hg.block g (heap_lt hh) fun hv => by
    rcases h2.2 with ⟨rfl, _⟩ | ⟨g', cap, cur', rfl, _, hbk, _⟩
    · cases hv
    · have hgg : g = g' := by simpa [Value.ownBlock] using hv
      subst hgg
      rw [hbk] at hh
      injection hh with hh
      injection hh with _ h3 _
      exact hne h3.symm

/-- What pred leaves. -/
def PredEnd (B RV M : Nat) (st : Sc.St) (vr : Value) (at_ n : Int) (name : List UInt8) (w : World) (e : Ending) (w' : World) : Prop :=
  match Sc.predStep st at_ name n with
  | .inl x => e = gaveF x.1 x.2 ∧ FrP B RV M w w'
  | .inr (k, st1) => ∃ va vn, e = .returned (.int .i64 k) ∧ RsI B RV M st1 va vn vr w' ∧ FrP B RV M w w'

set_option maxRecDepth 100000 in
set_option maxHeartbeats 1000000 in
theorem pred_old (B RV M : Nat) (st : Sc.St) (va vn vr : Value) (at_ n : Int) (name : List UInt8) (w : World) (hI : RsI B RV M st va vn vr w) (hs : name.length ≤ 5000) (hl : st.names.length ≤ 1000) (hc : st.names.contains name = true) :
    Calls Tryz.prog 107 #[.pointer (some ⟨RV, 0, none⟩), .int .i64 at_, .string ⟨name.toArray⟩, .int .i64 n] w (PredEnd B RV M st vr at_ n name w) := by
  have hbox := hI.box
  have c3 : w.cell? ⟨RV, 3, none⟩ = some (.map (some M)) := by rw [Lib.cell_of_heap hbox]; rfl
  have hidx := idx_lt hc
  have hw : st.with name n = st := by unfold Sc.St.with; rw [if_pos hc]
  have HP : Hid (Sc.predStep st at_ name n = if Sc.intD st.arity (st.names.idxOf name) = n then .inr ((st.names.idxOf name : Int), st) else .inl (at_, 1)) := by
    show _ = _
    unfold Sc.predStep
    rw [hw]
  have hlen := hI.len
  go_enter Tryz.func107, Tryz.ntmps107
  go_wp2_with fail
  refine Calls.mono (of_any M st.names name _ hI.num hs (by omega)) ?_
  rintro e w1 ⟨rfl, hn1, hg1⟩
  rw [if_pos hc] at hn1
  have hI1 := hI.of hg1 hn1
  have HF1 : Hid (FrP B RV M w w1) := FrP.of_map hg1
  obtain ⟨g, cap, rfl, hcell⟩ := own_int hI1.oa (st.names.idxOf name) (by omega)
  have c0 : w1.cell? ⟨RV, 0, none⟩ = some (.slice (some ⟨g, 0, none⟩) st.arity.length cap) := by rw [Lib.cell_of_heap hI1.box]; rfl
  clear hbox c3 hI hg1 hn1 hw hc
  generalize st.names.idxOf name = ix at *
  have g1 : ((ix : Int) == (st.arity.length : Int)) = false := by simp; omega
  have g1' : (ix == st.arity.length) = false := by simp; omega
  have hixl : ix < st.arity.length := by omega
  cases g2 : (Sc.intD st.arity ix != n)
  · have h2 : Sc.intD st.arity ix = n := by simpa using g2
    go_wp2_with fail
    refine Calls.mono (refuseAt_no at_ 1 _) ?_
    rintro e w2 ⟨rfl, rfl⟩
    go_wp2_with fail
    go_ret
    unfold PredEnd
    rw [HP.out, if_pos h2]
    exact ⟨_, vn, rfl, hI1, HF1.out⟩
  · have h2 : ¬ Sc.intD st.arity ix = n := by simpa using g2
    go_wp2_with fail
    refine Calls.mono (refuseAt_yes at_ 1 _) ?_
    rintro e w2 ⟨rfl, hb2⟩
    go_wp2_with fail
    refine ⟨rfl, ?_⟩
    unfold PredEnd
    rw [HP.out, if_neg h2]
    exact ⟨rfl, HF1.out.trans (FrP.of_below hb2)⟩

set_option maxRecDepth 100000 in
set_option maxHeartbeats 2000000 in
theorem pred_new (B RV M : Nat) (st : Sc.St) (va vn vr : Value) (at_ n : Int) (name : List UInt8) (w : World) (hI : RsI B RV M st va vn vr w) (hs : name.length ≤ 5000) (hl : st.names.length ≤ 1000) (hc : st.names.contains name = false) :
    Calls Tryz.prog 107 #[.pointer (some ⟨RV, 0, none⟩), .int .i64 at_, .string ⟨name.toArray⟩, .int .i64 n] w (PredEnd B RV M st vr at_ n name w) := by
  obtain ⟨i0, hi, hz0, hz1, hz2⟩ := info_parts A_info3
  obtain ⟨j0, hj, hy0, hy1, hy2⟩ := info_parts A_info9
  have hbox := hI.box
  have c3 : w.cell? ⟨RV, 3, none⟩ = some (.map (some M)) := by rw [Lib.cell_of_heap hbox]; rfl
  have hidx : st.names.idxOf name = st.names.length := idx_none (by simpa using hc)
  have hw : st.with name n = ⟨st.names ++ [name], st.arity ++ [n]⟩ := by unfold Sc.St.with; rw [if_neg (by rw [hc]; decide)]
  have hlen := hI.len
  have HP : Hid (Sc.predStep st at_ name n = .inr ((st.names.length : Int), ⟨st.names ++ [name], st.arity ++ [n]⟩)) := by
    show _ = _
    unfold Sc.predStep
    rw [hw, hidx, if_pos]
    simp [Sc.intD, ← hlen]
  have hmb := hI.mb
  have hrb := hI.rb
  go_enter Tryz.func107, Tryz.ntmps107
  go_wp2_with fail
  refine Calls.mono (of_any M st.names name _ hI.num hs (by omega)) ?_
  rintro e w1 ⟨rfl, hn1, hg1⟩
  rw [hc, if_neg (by simp)] at hn1
  have HN1 : Hid (NumAt w1 M (st.names ++ [name])) := hn1
  have hb1 : w1.heap[RV]? = some (.cells #[va, vn, vr, .map (some M)] 123 (0, 0)) := (hg1.block _ (heap_lt hI.box) (fun e => hI.ne (by injection e))).trans hI.box
  have hoa := ownsRow_grown hI.oa hg1 hmb
  have hon := ownsRow_grown hI.on hg1 hmb
  have hsz := Nat.le_trans hI.sz hg1.size
  have HF1 : Hid (FrP B RV M w w1) := FrP.of_map hg1
  have HNE : Hid (¬ RV = M) := hI.ne
  obtain ⟨ao, cap, rfl⟩ := own_slice hoa
  obtain ⟨an, cn, rfl⟩ := own_slice hon
  have c0 : w1.cell? ⟨RV, 0, none⟩ = some (.slice ao st.arity.length cap) := by rw [Lib.cell_of_heap hb1]; rfl
  clear hbox c3 hI hg1 hn1 hw hc
  rw [hidx]
  have g1 : ((st.names.length : Int) == (st.arity.length : Int)) = true := by simp; omega
  have g1' : (st.names.length == st.arity.length) = true := by simp; omega
  have hal : st.arity.length ≤ 1000 := by omega
  have HLEN : Hid (st.arity.length = st.names.length) := hlen
  clear hlen
  go_wp2_with (at_builtin; refine wpList_append_own _ rfl (.tmp 31) (.tmp 33) 22 rfl B 3 i0 _ 1 8 Tryz.underlying22 hi hz0 hz1 hz2 rfl (by decide) _ _ _ rfl (hoa.alloc _) ⟨w1.heap.size, 0, none⟩ 1 1 [.int .i64 n] rfl rfl ?c1 ?c2 ?c3 ?c4 ?c5 ?_)
  case c1 =>
    intro j u hj
    match j, hj with
    | 0, hj => simp at hj; subst hj; simp [Addr.add, go_sem]
  case c2 => intro u hu; simp at hu; subst hu; rfl
  case c3 => unfold maxLen; omega
  case c4 => omega
  case c5 => simp; omega
  intro v' w2 hown2 hgrow2 _
  have hb2 := grown_old hgrow2 hb1 (own_ne hoa hrb)
  have hn2 : NumAt w2 M (st.names ++ [name]) := HN1.out.same ((hgrow2.block M (Nat.lt_of_lt_of_le HN1.out.lt (by simp)) (own_ne hoa hmb)).trans (((Below.refl _ _).alloc (Nat.le_refl _) _).block M HN1.out.lt))
  have hon2 := own_keep (hon.alloc _) hgrow2 (hoa.alloc _) (by decide)
  have HF2 : Hid (FrP B RV M w w2) := (HF1.out.trans (FrP.of_below ((Below.refl _ _).alloc (Nat.le_refl _) _))).trans (FrP.of_own hgrow2 (hoa.alloc _) (.inl rfl))
  have hsz2 : B ≤ w2.heap.size := Nat.le_trans hsz (Nat.le_trans (by simp) hgrow2.size)
  obtain ⟨ao2, cap2, rfl⟩ := own_slice hown2
  obtain ⟨⟨e0, f0⟩, _⟩ := box_cell hb2
  clear hgrow2 hoa hon hb1 HN1 HF1 hsz c0
  go_upto_region 5 with fail
  have hb3 : (w2.setCell ⟨RV, 0, none⟩ (.slice ao2 (st.arity.length + 1) cap2)).heap[RV]? = some (.cells #[.slice ao2 (st.arity.length + 1) cap2, .slice an st.names.length cn, vr, .map (some M)] 123 (0, 0)) := by
    rw [Lib.heap_setCell_same hb2]; rfl
  have hon3 := ownsRow_setCell_below hon2 (a := ⟨RV, 0, none⟩) hrb (.slice ao2 (st.arity.length + 1) cap2)
  have hoa3 := ownsRow_setCell_below hown2 (a := ⟨RV, 0, none⟩) hrb (.slice ao2 (st.arity.length + 1) cap2)
  have hn3 : NumAt (w2.setCell ⟨RV, 0, none⟩ (.slice ao2 (st.arity.length + 1) cap2)) M (st.names ++ [name]) := hn2.same (Below.heap_setCell _ _ _ _ (fun e => HNE.out e.symm))
  have HF3 : Hid (FrP B RV M w (w2.setCell ⟨RV, 0, none⟩ (.slice ao2 (st.arity.length + 1) cap2))) := HF2.out.trans (FrP.of_set _ _ _ _ _ _)
  have hsz3 : B ≤ (w2.setCell ⟨RV, 0, none⟩ (.slice ao2 (st.arity.length + 1) cap2)).heap.size := by simpa using hsz2
  clear hb2 hon2 hown2 hn2 HF2 hsz2 e0 f0
  generalize w2.setCell ⟨RV, 0, none⟩ (.slice ao2 (st.arity.length + 1) cap2) = w3 at *
  obtain ⟨_, ⟨e1, f1⟩, _⟩ := box_cell hb3
  go_region_law (first
    | (go_simp; go_at_call 143; refine Calls.mono (clone_any ⟨name.toArray⟩ _ (by simp [ByteArray.size]; omega)) ?_; rintro e y2 ⟨rfl, hby0⟩; have hby : Below w3.heap.size w3 y2 := ⟨hby0.os, hby0.tape, hby0.output, hby0.size, hby0.block⟩; clear hby0; have hbz := (hby.block _ (heap_lt hb3)).trans hb3; obtain ⟨_, ⟨e2, f2⟩, _⟩ := box_cell hbz; have e2a : ∀ o, (y2.alloc o).cell? ⟨RV, 1, none⟩ = some (.slice an st.names.length cn) := fun o => cell_below ((Below.refl _ _).alloc (Nat.le_refl _) o) e2)
    | (refine step_append_lies _ rfl (.tmp 41) (.tmp 44) 23 rfl B 9 j0 _ 1 16 Tryz.underlying23 hj hy0 hy1 hy2 rfl (by decide) (.slice an st.names.length cn) st.names.length _ ?hs (ownsRow_below (ownsRow_below hon3 hby) ((Below.refl _ _).alloc (Nat.le_refl _) _)) ⟨y2.heap.size, 0, none⟩ 1 1 [.string ⟨name.toArray⟩] ?hx rfl ?hn ?ho ?hm ?h6 ?hb ?hB _ rfl ?_
       case hs => simp [Act.eval]
       case hx => simp [Act.eval]
       case hn => exact World.news_of_block (heap_alloc_new _ _)
       case ho => (intro u hu; simp at hu; subst hu; rfl)
       case hm => decide
       case h6 => (unfold maxLen; omega)
       case hb => omega
       case hB => (have := hby.size; simp; omega)
       intro g cap y3 hown hgrow hat hlt
       have hbq := grown_old hgrow hbz (own_ne hon3 hrb)
       obtain ⟨_, ⟨e3, f3⟩, _⟩ := box_cell hbq))
  all_goals
    have hoa4 := ownsRow_setCell_below (own_keep (ownsRow_below (ownsRow_below hoa3 hby) ((Below.refl _ _).alloc (Nat.le_refl _) _)) hgrow (ownsRow_below (ownsRow_below hon3 hby) ((Below.refl _ _).alloc (Nat.le_refl _) _)) (by decide)) (a := ⟨RV, 1, none⟩) hrb (.slice (some ⟨g, 0, none⟩) (st.names.length + 1) cap)
    have hon4 := ownsRow_setCell_below hown (a := ⟨RV, 1, none⟩) hrb (.slice (some ⟨g, 0, none⟩) (st.names.length + 1) cap)
    have hb4 : (y3.setCell ⟨RV, 1, none⟩ (.slice (some ⟨g, 0, none⟩) (st.names.length + 1) cap)).heap[RV]? = some (.cells #[.slice ao2 (st.arity.length + 1) cap2, .slice (some ⟨g, 0, none⟩) (st.names.length + 1) cap, vr, .map (some M)] 123 (0, 0)) := by
      rw [Lib.heap_setCell_same hbq]; rfl
    have hn4 : NumAt (y3.setCell ⟨RV, 1, none⟩ (.slice (some ⟨g, 0, none⟩) (st.names.length + 1) cap)) M (st.names ++ [name]) := by
      have hn5 := (hn3.below hby).below ((Below.refl _ _).alloc (Nat.le_refl _) (.cells #[.string ⟨name.toArray⟩] 9))
      exact (hn5.same (hgrow.block M hn5.lt (own_ne hon3 hmb))).same (Below.heap_setCell _ _ _ _ (fun e => HNE.out e.symm))
    have HF4 : Hid (FrP B RV M w (y3.setCell ⟨RV, 1, none⟩ (.slice (some ⟨g, 0, none⟩) (st.names.length + 1) cap))) := (((HF3.out.trans (FrP.of_below hby)).trans (FrP.of_below ((Below.refl _ _).alloc (Nat.le_refl _) _))).trans (FrP.of_own hgrow (ownsRow_below (ownsRow_below hon3 hby) ((Below.refl _ _).alloc (Nat.le_refl _) _)) (.inr rfl))).trans (FrP.of_set _ _ _ _ _ _)
    have hI4 : RsI B RV M ⟨st.names ++ [name], st.arity ++ [n]⟩ (.slice ao2 (st.arity.length + 1) cap2) (.slice (some ⟨g, 0, none⟩) (st.names.length + 1) cap) vr (y3.setCell ⟨RV, 1, none⟩ (.slice (some ⟨g, 0, none⟩) (st.names.length + 1) cap)) :=
      ⟨hb4, by simpa [intCells] using hoa4, by simpa [strCells] using hon4, hn4, by simp [HLEN.out], hrb, hmb, HNE.out, by have := hby.size; have := hgrow.size; simp at this ⊢; omega⟩
    obtain ⟨g9, cap9, hv9, hcell⟩ := own_int hI4.oa st.names.length (by simp [HLEN.out])
    have hcn : Sc.intD (st.arity ++ [n]) st.names.length = n := by simp [Sc.intD, ← HLEN.out]
    simp only at hcell hv9
    rw [hcn] at hcell
    injection hv9 with hv1 hv2 hv3
    subst hv1
    have hlt9 : st.names.length < st.arity.length + 1 := by have := HLEN.out; omega
    have g9' : (n != n) = false := by simp
    obtain ⟨⟨e9, _⟩, _⟩ := box_cell hb4
    clear hoa4 hon4 hb4 hn4 hoa3 hon3 hb3 hn3 HF3 hown hgrow hbq hbz hby e1 f1 e2 f2 e2a e3 f3 hcn hv2 hv3 hat hlt
    generalize y3.setCell ⟨RV, 1, none⟩ (.slice (some ⟨g, 0, none⟩) (st.names.length + 1) cap) = wq at *
    go_wp2_with fail
    refine Calls.mono (refuseAt_no at_ 1 _) ?_
    rintro e w9 ⟨rfl, rfl⟩
    go_wp2_with fail
    go_ret
    unfold PredEnd
    rw [HP.out]
    exact ⟨_, _, rfl, hI4, HF4.out⟩

theorem pred_any (B RV M : Nat) (st : Sc.St) (va vn vr : Value) (at_ n : Int) (name : List UInt8) (w : World) (hI : RsI B RV M st va vn vr w) (hs : name.length ≤ 5000) (hl : st.names.length ≤ 1000) :
    Calls Tryz.prog 107 #[.pointer (some ⟨RV, 0, none⟩), .int .i64 at_, .string ⟨name.toArray⟩, .int .i64 n] w (PredEnd B RV M st vr at_ n name w) := by
  cases hc : st.names.contains name
  · exact pred_new B RV M st va vn vr at_ n name w hI hs hl hc
  · exact pred_old B RV M st va vn vr at_ n name w hI hs hl hc

end Go.Proofs.YtgpaleifhcdjnaaGreatDoor

/- Package scope: the resolver's terms. -/
namespace Go.Proofs.YtgpaleifhcdjnaaGreatDoor
open Go.RowKit

theorem enters145 : Enters 145 := enters_of Tryz.func145 (by kernel_rfl) rfl
set_option maxRecDepth 100000 in
set_option maxHeartbeats 400000 in
theorem notNumT_any (t : Tr.Term) (w : World) : Calls Tryz.prog 145 #[termVal t] w fun e w' => e = .returned (.bool (!Sc.isNum t.n)) ∧ Below w.heap.size w w' := by
  have hb0 : ∀ o, Below w.heap.size w (w.alloc o) := fun o => (Below.refl _ _).alloc (Nat.le_refl _) o
  go_enter Tryz.func145, Tryz.ntmps145
  go_wp2_with fail
  refine (isNumber_any t.n _).mono ?_
  rintro e w1 ⟨rfl, hw⟩
  subst hw
  go_wp2_with fail
  go_ret
  exact ⟨rfl, hb0 _⟩

set_option maxRecDepth 100000 in
set_option maxHeartbeats 400000 in
theorem indexT_none (w : World) (ao : Option Addr) (cap : Nat) : Calls Tryz.prog 159 #[.slice ao 0 cap, .func (.func 145) #[] #[]] w fun e w' => e = .returned (.int .i64 (-1)) ∧ Below w.heap.size w w' := by
  go_enter Tryz.func159, Tryz.ntmps159
  go_wp2_with fail
  refine wp_loop_rounds 1 ?_
  rw [rounds_succ]
  go_wp2_with fail
  go_ret
  exact ⟨rfl, Below.refl _ _⟩

set_option maxRecDepth 100000 in
set_option maxHeartbeats 400000 in
theorem indexT_some (l : List Tr.Term) (n b off cap : Nat) (w : World) (hn : l.length = n) (hmax : n ≤ 9223372036854775807) (hB : ∀ i, i < n → TermIn w b (off + i * 2) (Tr.termD l i)) :
    Calls Tryz.prog 159 #[.slice (some ⟨b, off, none⟩) n cap, .func (.func 145) #[] #[]] w fun e w' => ∃ r : Int, e = .returned (.int .i64 r) ∧ decide (0 ≤ r) = !(Sc.numsOk l) ∧ Below w.heap.size w w' := by
  have HN : Hid (l.length = n) := hn
  have he := enters145
  unfold Enters at he
  clear hn
  go_enter Tryz.func159, Tryz.ntmps159
  go_wp2_with fail
  go_loopw [8] (fun i wr => ∃ k : Nat, k ≤ n ∧ i = .int .i64 k ∧ Sc.numsOk l = (l.drop k).all (fun t => Sc.isNum t.n) ∧ Below w.heap.size w wr) (fun i _ => n - (intOf i).toNat)
  case atStart => exact ⟨0, Nat.zero_le _, rfl, rfl, Below.refl _ _⟩
  case round =>
    obtain ⟨k, hk, rfl, hall, hbel⟩ := hrel
    have HA : Hid _ := hall
    clear hall
    by_cases hlt : k < n
    · have a0 := cell_below hbel (hB k hlt).1
      have a1 := cell_below hbel (hB k hlt).2
      have HD : Hid (Sc.numsOk l = (Sc.isNum (Tr.termD l k).n && (l.drop (k + 1)).all (fun t => Sc.isNum t.n))) := HA.out.trans (all_drop _ _ _ k (by rw [HN.out]; exact hlt))
      clear hB HA
      generalize Tr.termD l k = x at *
      go_wp2_with fail
      refine (notNumT_any x _).mono ?_
      rintro e w1 ⟨he1, hb1⟩
      have hb2 := hbel.trans (hb1.mono hbel.size)
      cases hx : Sc.isNum x.n
      · rw [hx] at he1
        subst he1
        have HV : Hid (Sc.numsOk l = false) := by show _ = _; rw [HD.out, hx]; rfl
        clear HD
        go_wp2_with fail
        go_ret
        exact ⟨k, rfl, by rw [HV.out]; simp, hb2⟩
      · rw [hx] at he1
        subst he1
        have HV : Hid (Sc.numsOk l = (l.drop (k + 1)).all (fun t => Sc.isNum t.n)) := by show _ = _; rw [HD.out, hx]; rfl
        clear HD
        go_wp2_with fail
        go_roundw
        case rel => exact ⟨k + 1, by omega, by go_num, HV.out, hb2⟩
        case measure => simp [intOf]; omega
    · have HV : Hid (Sc.numsOk l = true) := by show _ = _; rw [HA.out, List.drop_of_length_le (by rw [HN.out]; omega)]; rfl
      clear hB
      go_wp2_with fail
      go_ret
      exact ⟨-1, rfl, by rw [HV.out]; rfl, hbel⟩

set_option maxRecDepth 100000 in
set_option maxHeartbeats 400000 in
theorem containsT_any (l : List Tr.Term) (v : Value) (w : World) (hV : TermsV w v l) (hmax : l.length ≤ 9223372036854775807) :
    Calls Tryz.prog 144 #[v, .func (.func 145) #[] #[]] w fun e w' => e = .returned (.bool (!(Sc.numsOk l))) ∧ Below w.heap.size w w' := by
  obtain ⟨ao, cap, rfl, h⟩ := hV
  have HI : Hid (Calls Tryz.prog 159 #[.slice ao l.length cap, .func (.func 145) #[] #[]] w fun e w' => ∃ r : Int, e = .returned (.int .i64 r) ∧ decide (0 ≤ r) = !(Sc.numsOk l) ∧ Below w.heap.size w w') := by
    rcases h with rfl | ⟨b, off, rfl, h⟩
    · exact (indexT_none w ao cap).mono fun e w' ⟨h1, h2⟩ => ⟨-1, h1, rfl, h2⟩
    · exact indexT_some l l.length b off cap w rfl hmax h
  go_enter Tryz.func144, Tryz.ntmps144
  go_wp2_with fail
  refine Calls.mono HI.out ?_
  rintro e w1 ⟨r, rfl, hr, hb⟩
  go_wp2_with fail
  go_ret
  exact ⟨rfl, hb⟩

def ptCells (t : Sc.Term) : List Value := [.int .i64 t.var, .int .i64 t.n]
/-- A slice's length is within its cap. -/
def CapV (v : Value) : Prop := ∃ ao n cap, v = .slice ao n cap ∧ n ≤ cap
theorem capV_nil : CapV (.slice none 0 0) := ⟨_, _, _, rfl, Nat.le_refl _⟩
theorem capV_own {w : World} {base k n : Nat} {e : TypeId} {v : Value} {xs : List Value} (h : w.ownsRow base e k v n xs) : CapV v := by
  rcases h.2 with ⟨rfl, _⟩ | ⟨g, cap, cur, rfl, _, _, hc, _⟩
  · exact capV_nil
  · exact ⟨_, _, _, rfl, hc⟩
def PTermsP (B : Nat) (w : World) (v : Value) (l : List Sc.Term) : Prop := RowP B w 130 2 v (l.map ptCells) ∧ CapV v
theorem A_info130 : (Tryz.prog.info? 130).map (fun i => (i.zero, i.size, i.bytes)) = some (some (.agg #[.int .i64 0, .int .i64 0]), 2, 16) := by kernel_rfl
/-- What terms leaves. -/
def TermsR (MV : Nat) (vs : List (List UInt8)) (at_ : Int) (l : List Tr.Term) (w : World) (e : Ending) (w' : World) : Prop :=
  match Sc.termsStep vs at_ l with
  | .inl x => e = gaveF x.1 x.2 ∧ w.grownBy w' (some MV)
  | .inr (ts, vs1) => ∃ v, e = .returned v ∧ w'.ownsRow w.heap.size 130 2 v ts.length (ts.map ptCells).flatten ∧ NumAt w' MV vs1 ∧ w.grownBy w' (some MV)
theorem termsGo_drop (l : List Tr.Term) (k : Nat) (h : k < l.length) (vs : List (List UInt8)) : Sc.termsGo (l.drop k) vs = Sc.termStep vs (Tr.termD l k) :: Sc.termsGo (l.drop (k + 1)) (Sc.varsStep vs (Tr.termD l k)) := by
  rw [List.drop_eq_getElem_cons h, Sc.termsGo]
  simp [Tr.termD, List.getD_eq_getElem?_getD, h]
theorem varsGo_drop (l : List Tr.Term) (k : Nat) (h : k < l.length) (vs : List (List UInt8)) : Sc.varsGo (l.drop k) vs = Sc.varsGo (l.drop (k + 1)) (Sc.varsStep vs (Tr.termD l k)) := by
  rw [List.drop_eq_getElem_cons h, Sc.varsGo]
  simp [Tr.termD, List.getD_eq_getElem?_getD, h]

theorem numAt_ne {w : World} {M b o : Nat} {ns : List (List UInt8)} {v : Value} (h : NumAt w M ns) (hc : w.cell? ⟨b, o, none⟩ = some v) : ¬ b = M := by
  rintro rfl
  obtain ⟨D, ⟨es, clock, h1, _⟩, _⟩ := h
  simp [World.cell?, h1] at hc
theorem grown_own {w w3 w4 : World} {P base k n : Nat} {e : TypeId} {v : Value} {xs : List Value} (h : w.grownBy w3 (some P)) (hg : w3.grownBy w4 v.ownBlock) (hown : w3.ownsRow base e k v n xs) (hb : w.heap.size ≤ base) : w.grownBy w4 (some P) := by
  have hne : ∀ i, i < w.heap.size → some i ≠ v.ownBlock := fun i hi he => by have := (hown.lt i he.symm).1; omega
  have hs := h.size
  exact ⟨hg.os.trans h.os, hg.tape.trans h.tape, hg.output.trans h.output, Nat.le_trans hs hg.size, fun i hi hiP => (hg.block i (by omega) (hne i hi)).trans (h.block i hi hiP)⟩
theorem grown_alloc {w w3 : World} {P : Option Nat} (h : w.grownBy w3 P) (o : Obj) : w.grownBy (w3.alloc o) P := grownBy_trans h (grownBy_of_below ((Below.refl _ _).alloc (Nat.le_refl _) o) _)
theorem pt_news (t : Sc.Term) : ∀ u ∈ ptCells t, u.oneCell' = true := by intro u hu; simp [ptCells] at hu; rcases hu with rfl | rfl <;> rfl
theorem pt_flat (acc : List Sc.Term) (t : Sc.Term) : ((acc ++ [t]).map ptCells).flatten = (acc.map ptCells).flatten ++ ptCells t := by simp

set_option maxRecDepth 100000 in
set_option maxHeartbeats 1000000 in
theorem termsR_any (MV : Nat) (vs : List (List UInt8)) (at_ : Int) (l : List Tr.Term) (v : Value) (w : World) (hV : TermsV w v l) (hN : NumAt w MV vs) (hs : ∀ t, t ∈ l → t.var.length ≤ 5000) (hl : vs.length + l.length ≤ 1000) :
    Calls Tryz.prog 108 #[.int .i64 at_, v, .map (some MV)] w (TermsR MV vs at_ l w) := by
  obtain ⟨i0, hi, hz0, hz1, hz2⟩ := info_parts A_info130
  have hmf : ∀ (fn : Fn) (first cap : Array Value) (w : World), (Instr.makeFunc fn first cap).run Tryz.prog w = .ok (.func fn first cap) w := fun _ _ _ _ => rfl
  have HV0 : Hid (TermsV w v l) := hV
  obtain ⟨ao, cap, rfl, hA⟩ := hV
  have HP : Hid (Sc.termsStep vs at_ l = if Sc.numsOk l then .inr (Sc.termsGo l vs, Sc.varsGo l vs) else .inl (at_, 3)) := rfl
  have hll : l.length ≤ 1000 := by omega
  go_enter Tryz.func108, Tryz.ntmps108
  go_wp2_with fail
  refine Calls.mono (containsT_any l _ _ HV0.out (by omega)) ?_
  rintro e w1 ⟨he, hb1⟩
  cases hok : Sc.numsOk l
  · rw [hok] at he
    subst he
    go_wp2_with fail
    refine Calls.mono (refuseAt_yes at_ 3 _) ?_
    rintro e w2 ⟨rfl, hb2⟩
    go_wp2_with fail
    refine ⟨rfl, ?_⟩
    unfold TermsR
    rw [HP.out, hok]
    exact ⟨rfl, grownBy_trans (grownBy_of_below hb1 _) (grownBy_of_below hb2 _)⟩
  · rw [hok] at he
    subst he
    go_wp2_with fail
    refine Calls.mono (refuseAt_no at_ 3 _) ?_
    rintro e w2 ⟨rfl, rfl⟩
    go_wp2_with fail
    have hMV := hN.lt
    have hst : w2.ownsRow w.heap.size 130 2 (.slice none 0 0) 0 [] := World.ownsRow_nil _ _ _ _
    have hN2 := hN.below hb1
    have HVS : Hid (∀ t, t ∈ l → t.var.length ≤ 5000) := hs
    go_loopw [7, 16] (fun v i wr => ∃ (k : Nat) (acc : List Sc.Term) (vs1 : List (List UInt8)), k ≤ l.length ∧ i = .int .i64 k ∧ wr.ownsRow w.heap.size 130 2 v acc.length (acc.map ptCells).flatten ∧ NumAt wr MV vs1 ∧ w.grownBy wr (some MV) ∧ acc.length = k ∧ acc ++ Sc.termsGo (l.drop k) vs1 = Sc.termsGo l vs ∧ Sc.varsGo (l.drop k) vs1 = Sc.varsGo l vs ∧ vs1.length ≤ vs.length + k) (fun _ i _ => l.length - (intOf i).toNat)
    case atStart => exact ⟨0, [], vs, Nat.zero_le _, rfl, hst, hN2, grownBy_of_below hb1 _, rfl, rfl, rfl, Nat.le_refl _⟩
    case round =>
      obtain ⟨k, acc, vs1, hk, rfl, hown, hNr, hg, hak, hT, hVs, hvl⟩ := hrel
      subst hak
      have HTT : Hid _ := hT
      have HVV : Hid _ := hVs
      clear hT hVs hst hN2 hb1
      obtain ⟨ao7, cap7, rfl⟩ := own_slice hown
      have hwsz := hg.size
      by_cases hlt : acc.length < l.length
      · rcases hA with rfl | ⟨b, off, rfl, hA⟩
        · exact absurd hlt (by simp)
        obtain ⟨a0, a1⟩ := hA acc.length hlt
        have q0 := grownBy_cell hg (numAt_ne hN a0) a0
        have q1 := grownBy_cell hg (numAt_ne hN a1) a1
        have htl := HVS.out (Tr.termD l acc.length) (by unfold Tr.termD; rw [List.getD_eq_getElem?_getD, List.getElem?_eq_getElem hlt]; exact List.getElem_mem hlt)
        have HT2 : Hid (acc ++ (Sc.termStep vs1 (Tr.termD l acc.length) :: Sc.termsGo (l.drop (acc.length + 1)) (Sc.varsStep vs1 (Tr.termD l acc.length))) = Sc.termsGo l vs) := by show _ = _; rw [← termsGo_drop l acc.length hlt]; exact HTT.out
        have HV2 : Hid (Sc.varsGo (l.drop (acc.length + 1)) (Sc.varsStep vs1 (Tr.termD l acc.length)) = Sc.varsGo l vs) := by show _ = _; rw [← varsGo_drop l acc.length hlt]; exact HVV.out
        clear a0 a1 hA HTT HVV
        generalize Tr.termD l acc.length = x at *
        cases hx : x.var.isEmpty
        · have hstep : Sc.termStep vs1 x = ⟨(vs1.idxOf x.var : Int), 0⟩ := by unfold Sc.termStep; rw [hx]; rfl
          have hvst : Sc.varsStep vs1 x = if vs1.contains x.var then vs1 else vs1 ++ [x.var] := by unfold Sc.varsStep; rw [hx]; rfl
          have hvl2 : (Sc.varsStep vs1 x).length ≤ vs.length + (acc.length + 1) := by
            rw [hvst]
            split
            · omega
            · rw [List.length_append]; simp; omega
          go_wp2_with fail
          refine Calls.mono (of_any MV vs1 x.var _ (hNr.below ((Below.refl _ _).alloc (Nat.le_refl _) _)) htl (by omega)) ?_
          rintro e w3 ⟨rfl, hn3, hg3⟩
          rw [← hvst] at hn3
          have hg03 := grownBy_trans (grown_alloc hg _) hg3
          have hown3 := ownsRow_grown (hown.alloc _) hg3 hMV
          have hsz3 := hg03.size
          rw [hstep] at HT2
          clear hg3 hg hown hNr q0 q1 hvst hstep
          generalize Sc.varsStep vs1 x = vs2 at *
          generalize vs1.idxOf x.var = ix at *
          go_wp2_with (at_builtin; refine wpList_append_own _ rfl (.tmp 29) (.tmp 35) 64 rfl w.heap.size 130 i0 _ 2 16 Tryz.underlying64 hi hz0 hz1 hz2 rfl (by decide) _ _ _ rfl (hown3.alloc _) ⟨w3.heap.size, 0, none⟩ 1 1 (ptCells ⟨(ix : Int), 0⟩) rfl rfl ?c1 ?c2 ?c3 ?c4 ?c5 ?_)
          case c1 =>
            intro j u hj
            match j, hj with
            | 0, hj => simp [ptCells] at hj; subst hj; simp [Addr.add, go_sem]
            | 1, hj => simp [ptCells] at hj; subst hj; simp [Addr.add, go_sem]
          case c2 => exact pt_news _
          case c3 => unfold maxLen; omega
          case c4 => omega
          case c5 => simp; omega
          intro v' w4 hown4 hgrow4 _
          have hN4 := hn3.same ((hgrow4.block MV (Nat.lt_of_lt_of_le hn3.lt (by simp)) (own_ne hown3 hMV)).trans (((Below.refl _ _).alloc (Nat.le_refl _) _).block MV hn3.lt))
          have hg4 := grown_own (grown_alloc hg03 _) hgrow4 (hown3.alloc _) (Nat.le_refl _)
          have hown5 : w4.ownsRow w.heap.size 130 2 v' (acc ++ [(⟨(ix : Int), 0⟩ : Sc.Term)]).length ((acc ++ [(⟨(ix : Int), 0⟩ : Sc.Term)]).map ptCells).flatten := by
            rw [pt_flat, List.length_append]; exact hown4
          have HT3 : Hid ((acc ++ [(⟨(ix : Int), 0⟩ : Sc.Term)]) ++ Sc.termsGo (l.drop (acc.length + 1)) vs2 = Sc.termsGo l vs) := by show _ = _; rw [List.append_assoc]; exact HT2.out
          clear hown4 hgrow4 hg03 hown3 hn3 HT2
          go_wp2_with fail
          go_roundw
          case rel => exact ⟨acc.length + 1, acc ++ [⟨(ix : Int), 0⟩], vs2, by omega, by go_num, hown5, hN4, hg4, by rw [List.length_append]; rfl, HT3.out, HV2.out, hvl2⟩
          case measure => simp [intOf]; omega
        · have hstep : Sc.termStep vs1 x = ⟨-1, x.n⟩ := by unfold Sc.termStep; rw [hx]; rfl
          have hvst : Sc.varsStep vs1 x = vs1 := by unfold Sc.varsStep; rw [hx]; rfl
          rw [hstep, hvst] at HT2
          rw [hvst] at HV2
          clear hstep hvst
          go_wp2_with (at_builtin; refine wpList_append_own _ rfl (.tmp 23) (.tmp 27) 64 rfl w.heap.size 130 i0 _ 2 16 Tryz.underlying64 hi hz0 hz1 hz2 rfl (by decide) _ _ _ rfl ((hown.alloc _).alloc _) ⟨wr.heap.size + 1, 0, none⟩ 1 1 (ptCells ⟨-1, x.n⟩) rfl rfl ?c1 ?c2 ?c3 ?c4 ?c5 ?_)
          case c1 =>
            intro j u hj
            match j, hj with
            | 0, hj => simp [ptCells] at hj; subst hj; simp [Addr.add, go_sem]
            | 1, hj => simp [ptCells] at hj; subst hj; simp [Addr.add, go_sem]
          case c2 => exact pt_news _
          case c3 => unfold maxLen; omega
          case c4 => omega
          case c5 => simp; omega
          intro v' w4 hown4 hgrow4 _
          have hNr2 := (hNr.below ((Below.refl _ _).alloc (Nat.le_refl _) (.cells #[.string ⟨x.var.toArray⟩, .int .i64 x.n] 59))).below ((Below.refl _ _).alloc (Nat.le_refl _) (.cells #[.int .i64 (-1), .int .i64 x.n] 130))
          have hN4 := hNr2.same (hgrow4.block MV hNr2.lt (own_ne hown hMV))
          have hg4 := grown_own (grown_alloc (grown_alloc hg _) _) hgrow4 ((hown.alloc _).alloc _) (Nat.le_refl _)
          have hown5 : w4.ownsRow w.heap.size 130 2 v' (acc ++ [(⟨-1, x.n⟩ : Sc.Term)]).length ((acc ++ [(⟨-1, x.n⟩ : Sc.Term)]).map ptCells).flatten := by
            rw [pt_flat, List.length_append]; exact hown4
          have HT3 : Hid ((acc ++ [(⟨-1, x.n⟩ : Sc.Term)]) ++ Sc.termsGo (l.drop (acc.length + 1)) vs1 = Sc.termsGo l vs) := by show _ = _; rw [List.append_assoc]; exact HT2.out
          clear hown4 hgrow4 hown hNr hNr2 HT2 hg q0 q1
          go_wp2_with fail
          go_roundw
          case rel => exact ⟨acc.length + 1, acc ++ [⟨-1, x.n⟩], vs1, by omega, by go_num, hown5, hN4, hg4, by rw [List.length_append]; rfl, HT3.out, HV2.out, by omega⟩
          case measure => simp [intOf]; omega
      · have hacc : acc = Sc.termsGo l vs := by
          have := HTT.out
          rw [List.drop_of_length_le (by omega), Sc.termsGo, List.append_nil] at this
          exact this
        have hvv : vs1 = Sc.varsGo l vs := by
          have := HVV.out
          rw [List.drop_of_length_le (by omega), Sc.varsGo] at this
          exact this
        subst hacc hvv
        have HX : Hid (TermsR MV vs at_ l w (.returned (.slice ao7 (Sc.termsGo l vs).length cap7)) wr) := by
          show TermsR MV vs at_ l w _ _
          unfold TermsR
          rw [HP.out, hok]
          exact ⟨_, rfl, hown, hNr, hg⟩
        clear HTT HVV hown hNr hg hA
        go_wp2_with fail
        go_ret
        exact HX.out

end Go.Proofs.YtgpaleifhcdjnaaGreatDoor

/- Package scope: the resolver's literals. -/
namespace Go.Proofs.YtgpaleifhcdjnaaGreatDoor
open Go.RowKit

/-- What stands while a tree is resolved: all below B0, and cells of other kinds behind it. -/
structure FrL (B0 RV : Nat) (w w' : World) : Prop where
  os : w'.os = w.os
  tape : w'.tape = w.tape
  output : w'.output = w.output
  size : w.heap.size ≤ w'.heap.size
  low : ∀ k, k < B0 → w'.heap[k]? = w.heap[k]?
  cel : ∀ k cur e fz, w.heap[k]? = some (.cells cur e fz) → ¬ k = RV → ¬ e = 3 → ¬ e = 9 → w'.heap[k]? = w.heap[k]?
theorem FrL.trans {B0 RV : Nat} {a b c : World} (h : FrL B0 RV a b) (k : FrL B0 RV b c) : FrL B0 RV a c :=
  ⟨k.os.trans h.os, k.tape.trans h.tape, k.output.trans h.output, Nat.le_trans h.size k.size, fun i hi => (k.low i hi).trans (h.low i hi), fun i cur e fz hh h1 h2 h3 => by
    have e1 := h.cel i cur e fz hh h1 h2 h3
    exact (k.cel i cur e fz (e1.trans hh) h1 h2 h3).trans e1⟩
theorem FrL.of_below {B0 RV : Nat} {w w' : World} (h : Below w.heap.size w w') (hs : B0 ≤ w.heap.size) : FrL B0 RV w w' := ⟨h.os, h.tape, h.output, h.size, fun k hk => h.block k (by omega), fun k _ _ _ hh _ _ _ => h.block k (heap_lt hh)⟩
theorem FrL.of_pred {B0 B RV M : Nat} {w w' : World} {ns : List (List UInt8)} (h : FrP B RV M w w') (hN : NumAt w M ns) (h1 : B0 ≤ RV) (h2 : B0 ≤ M) (h3 : B0 ≤ B) (hs : B0 ≤ w.heap.size) : FrL B0 RV w w' :=
  ⟨h.os, h.tape, h.output, h.size, fun k hk => h.block k (by omega) (by omega) (by omega) (.inl (by omega)), fun k cur e fz hh hr he3 he9 => by
    refine h.block k (heap_lt hh) hr ?_ (.inr fun c' e' f' hh' => ?_)
    · rintro rfl
      obtain ⟨D, ⟨es, clock, h1, _⟩, _⟩ := hN
      rw [h1] at hh
      cases hh
    · rw [hh] at hh'
      injection hh' with hh'
      injection hh' with _ q _
      exact ⟨fun x => he3 (q.trans x), fun x => he9 (q.trans x)⟩⟩
theorem FrL.of_vars {B0 RV MV : Nat} {w w' : World} {ns : List (List UInt8)} (h : w.grownBy w' (some MV)) (hN : NumAt w MV ns) (h1 : B0 ≤ MV) (hs : B0 ≤ w.heap.size) : FrL B0 RV w w' :=
  ⟨h.os, h.tape, h.output, h.size, fun k hk => h.block k (by omega) (fun e => by injection e; omega), fun k cur e fz hh _ _ _ => h.block k (heap_lt hh) (fun e => by
    have e : k = MV := by injection e
    subst e
    obtain ⟨D, ⟨es, clock, h1, _⟩, _⟩ := hN
    rw [h1] at hh
    cases hh)⟩
theorem FrL.of_set {B0 RV b : Nat} {w : World} (hb : w.heap.size ≤ b) (o : Nat) (v : Value) {w' : World} (h : FrL B0 RV w w') (hs : B0 ≤ w.heap.size) : FrL B0 RV w (w'.setCell ⟨b, o, none⟩ v) :=
  ⟨h.os, h.tape, h.output, by simpa using h.size, fun k hk => (Below.heap_setCell _ _ _ _ (show ¬ k = b by omega)).trans (h.low k hk), fun k cur e fz hh h1 h2 h3 => (Below.heap_setCell _ _ _ _ (show ¬ k = b by have := heap_lt hh; omega)).trans (h.cel k cur e fz hh h1 h2 h3)⟩
/-- A map of variables is written: the resolver stands. -/
theorem RsI.vars {B RV M MV : Nat} {st : Sc.St} {va vn vr : Value} {w w' : World} {ns : List (List UInt8)} (h : RsI B RV M st va vn vr w) (hN : NumAt w MV ns) (hg : w.grownBy w' (some MV)) (hne : ¬ M = MV) : RsI B RV M st va vn vr w' := by
  have hcell : ∀ (k : Nat) (cur : Array Value) (e : TypeId) (fz : Nat × Nat), w.heap[k]? = some (Obj.cells cur e fz) → w'.heap[k]? = w.heap[k]? := fun k cur e fz hh => hg.block k (heap_lt hh) (fun e => by
    have e : k = MV := by injection e
    subst e
    obtain ⟨D, ⟨es, clock, h1, _⟩, _⟩ := hN
    rw [h1] at hh
    cases hh)
  exact h.keep hg.size (hcell _ _ _ _ h.box) (hg.block _ h.num.lt (fun e => hne (by injection e))) fun g cur e fz _ hh _ => hcell g cur e fz hh
/-- The other map stands behind pred. -/
theorem NumAt.pred {B RV M MV : Nat} {w w' : World} {ns : List (List UInt8)} (h : NumAt w MV ns) (hf : FrP B RV M w w') (h1 : ¬ MV = RV) (h2 : ¬ MV = M) : NumAt w' MV ns :=
  h.same (hf.block MV h.lt h1 h2 (.inr fun cur e fz hh => by
    obtain ⟨D, ⟨es, clock, h1, _⟩, _⟩ := h
    rw [h1] at hh
    cases hh))
theorem RowP.fr {B0 RV B k : Nat} {w w' : World} {e : TypeId} {v : Value} {cs : List (List Value)} (h : RowP B w e k v cs) (hf : FrL B0 RV w w') (hr : RV < B) (h3 : ¬ e = 3) (h9 : ¬ e = 9) : RowP B w' e k v cs := by
  obtain ⟨ao, cap, hv, h⟩ := h
  refine ⟨ao, cap, hv, ?_⟩
  rcases h with h | ⟨b, cur, rfl, hb, hh, hc⟩
  · exact .inl h
  · have hs := hf.cel b cur e (0, 0) hh (by omega) h3 h9
    exact .inr ⟨b, cur, rfl, hb, hs.trans hh, fun i c hi j u hj => (World.cell?_of_block (a := ⟨b, _, none⟩) hs).trans (hc i c hi j u hj)⟩

/-- What holds while a rule is resolved. -/
structure RsV (B0 B RV M MV : Nat) (st : Sc.St) (vs : List (List UInt8)) (va vn vr : Value) (w : World) : Prop where
  rs : RsI B RV M st va vn vr w
  vm : NumAt w MV vs
  z0 : B0 ≤ RV
  z1 : B0 ≤ M
  z2 : RV + 1 ≤ B
  z3 : B ≤ MV
theorem RsV.below {B0 B RV M MV : Nat} {st : Sc.St} {vs : List (List UInt8)} {va vn vr : Value} {w w' : World} (h : RsV B0 B RV M MV st vs va vn vr w) (hb : Below w.heap.size w w') : RsV B0 B RV M MV st vs va vn vr w' := ⟨h.rs.below hb, h.vm.below hb, h.z0, h.z1, h.z2, h.z3⟩

theorem FrP.box {B RV M b : Nat} {w w' : World} {cur : Array Value} {e : TypeId} {fz : Nat × Nat} (hf : FrP B RV M w w') (hb : w.heap[b]? = some (.cells cur e fz)) (h1 : ¬ b = RV) (h2 : ¬ b = M) (h3 : ¬ e = 3) (h9 : ¬ e = 9) : w'.heap[b]? = some (.cells cur e fz) :=
  (hf.block b (heap_lt hb) h1 h2 (.inr fun c e' f hh => by
    rw [hb] at hh
    injection hh with hh
    injection hh with _ q _
    exact ⟨fun x => h3 (q.trans x), fun x => h9 (q.trans x)⟩)).trans hb
/-- Only block b differs. -/
structure SetB (b : Nat) (w w' : World) : Prop where
  os : w'.os = w.os
  tape : w'.tape = w.tape
  output : w'.output = w.output
  size : w'.heap.size = w.heap.size
  block : ∀ k, ¬ k = b → w'.heap[k]? = w.heap[k]?
theorem SetB.one (b : Nat) (w : World) (o : Nat) (v : Value) : SetB b w (w.setCell ⟨b, o, none⟩ v) := ⟨rfl, rfl, rfl, by simp, fun _ hk => Below.heap_setCell _ _ _ _ hk⟩
theorem SetB.trans {b : Nat} {x y z : World} (h : SetB b x y) (k : SetB b y z) : SetB b x z := ⟨k.os.trans h.os, k.tape.trans h.tape, k.output.trans h.output, k.size.trans h.size, fun i hi => (k.block i hi).trans (h.block i hi)⟩
theorem RsV.setB {B0 B RV M MV b : Nat} {st : Sc.St} {vs : List (List UInt8)} {va vn vr : Value} {w w' : World} {cur : Array Value} {e : TypeId} {fz : Nat × Nat} (h : RsV B0 B RV M MV st vs va vn vr w) (hs : SetB b w w') (hb : w.heap[b]? = some (.cells cur e fz)) (h1 : ¬ b = RV) (h2 : ¬ b = M) (h3 : ¬ e = 3) (h9 : ¬ e = 9) : RsV B0 B RV M MV st vs va vn vr w' :=
  ⟨h.rs.keep (Nat.le_of_eq hs.size.symm) (hs.block _ (fun e => h1 e.symm)) (hs.block _ (fun e => h2 e.symm)) fun g cur' e' fz' _ hh he => hs.block g (fun (hg : g = b) => by
      subst hg
      rw [hb] at hh
      injection hh with hh
      injection hh with _ q _
      rcases he with rfl | rfl
      · exact h3 q
      · exact h9 q),
    h.vm.same (hs.block _ (fun (hg : MV = b) => by
      subst hg
      obtain ⟨D, ⟨es, clock, h1, _⟩, _⟩ := h.vm
      rw [h1] at hb
      cases hb)), h.z0, h.z1, h.z2, h.z3⟩
theorem RowP.setB {B k b : Nat} {w w' : World} {e : TypeId} {v : Value} {cs : List (List Value)} (h : RowP B w e k v cs) (hs : SetB b w w') (hb : b < B) : RowP B w' e k v cs :=
  RowP.keep (E := (· = e)) h (fun b' _ _ _ _ hB _ => hs.block b' (by omega)) rfl
theorem FrL.setB {B0 RV b : Nat} {w w1 w' : World} (h : FrL B0 RV w w1) (hs : SetB b w1 w') (hb : w.heap.size ≤ b) (h0 : B0 ≤ w.heap.size) : FrL B0 RV w w' :=
  ⟨hs.os.trans h.os, hs.tape.trans h.tape, hs.output.trans h.output, by rw [hs.size]; exact h.size, fun k hk => (hs.block k (by omega)).trans (h.low k hk), fun k cur e fz hh h1 h2 h3 => (hs.block k (by have := heap_lt hh; omega)).trans (h.cel k cur e fz hh h1 h2 h3)⟩
theorem mid_block (w : World) (o1 o2 o3 : Obj) : (((w.alloc o1).alloc o2).alloc o3).heap[w.heap.size + 1]? = some o2 := by
  have h := two_blocks (w := w) (o1 := o1) (o2 := o2) (Below.refl _ _)
  exact (((Below.refl _ _).alloc (Nat.le_refl _) o3).block _ (heap_lt h.2)).trans h.2
theorem three_blocks (w : World) (o1 o2 o3 : Obj) : Below w.heap.size w (((w.alloc o1).alloc o2).alloc o3) ∧ (((w.alloc o1).alloc o2).alloc o3).heap[w.heap.size]? = some o1 ∧ (((w.alloc o1).alloc o2).alloc o3).heap[w.heap.size + 1 + 1]? = some o3 := by
  have h := two_blocks (w := w) (o1 := o1) (o2 := o2) (Below.refl _ _)
  have hb : Below ((w.alloc o1).alloc o2).heap.size ((w.alloc o1).alloc o2) (((w.alloc o1).alloc o2).alloc o3) := (Below.refl _ _).alloc (Nat.le_refl _) _
  have h2 := below_two w o1 o2
  have h3 := heap_alloc_new ((w.alloc o1).alloc o2) o3
  refine ⟨h2.trans (hb.mono h2.size), (hb.block _ (heap_lt h.1)).trans h.1, ?_⟩
  have : ((w.alloc o1).alloc o2).heap.size = w.heap.size + 1 + 1 := by simp
  rw [this] at h3
  exact h3
theorem numAt_cells {w : World} {M : Nat} {ns : List (List UInt8)} {cur : Array Value} {e : TypeId} {fz : Nat × Nat} (h : NumAt w M ns) (hh : w.heap[M]? = some (.cells cur e fz)) : False := by
  obtain ⟨D, ⟨es, clock, h1, _⟩, _⟩ := h
  rw [h1] at hh
  cases hh
theorem RsI.set {B RV M b : Nat} {st : Sc.St} {va vn vr : Value} {w : World} {cur : Array Value} {fz : Nat × Nat} {e : TypeId} (h : RsI B RV M st va vn vr w) (hb : w.heap[b]? = some (.cells cur e fz)) (h1 : ¬ b = RV) (h2 : ¬ b = M) (h3 : ¬ e = 3 := by decide) (h9 : ¬ e = 9 := by decide) (o : Nat) (v : Value) : RsI B RV M st va vn vr (w.setCell ⟨b, o, none⟩ v) :=
  h.keep (by simp) (Below.heap_setCell _ _ _ _ (fun e => h1 e.symm)) (Below.heap_setCell _ _ _ _ (fun e => h2 e.symm)) fun g cur' e' fz' _ hh he => Below.heap_setCell _ _ _ _ (fun (hg : g = b) => by
    subst hg
    rw [hb] at hh
    injection hh with hh
    injection hh with _ q _
    rcases he with rfl | rfl
    · exact h3 q
    · exact h9 q)
def LitR (B0 B RV M MV : Nat) (st : Sc.St) (vs : List (List UInt8)) (vr : Value) (x : Tr.Lit) (w : World) (e : Ending) (w' : World) : Prop :=
  match Sc.litStep st vs x with
  | .inl y => e = gaveF y.1 y.2 ∧ FrL B0 RV w w'
  | .inr (y, st1, vs1) => ∃ va vn vt, e = .returned (plitVal y vt) ∧ RsV B0 B RV M MV st1 vs1 va vn vr w' ∧ PTermsP B w' vt y.terms ∧ FrL B0 RV w w'

set_option maxRecDepth 100000 in
set_option maxHeartbeats 2000000 in
theorem litR_any (B0 B RV M MV : Nat) (st : Sc.St) (vs : List (List UInt8)) (va vn vr : Value) (x : Tr.Lit) (v : Value) (w : World) (hI : RsV B0 B RV M MV st vs va vn vr w) (hV : ∀ y : World, (∀ k, k < B0 → y.heap[k]? = w.heap[k]?) → TermsV y v x.terms) (hB0 : B0 ≤ B) (hBw : B ≤ w.heap.size) (hs : ∀ t, t ∈ x.terms → t.var.length ≤ 5000) (hnl : x.name.length ≤ 5000) (hl : vs.length + x.terms.length ≤ 1000) (hl2 : st.names.length ≤ 1000) :
    Calls Tryz.prog 109 #[.pointer (some ⟨RV, 0, none⟩), litVal x v, .map (some MV)] w (LitR B0 B RV M MV st vs vr x w) := by
  obtain ⟨kind, at_, op, name, ts⟩ := x
  have HV : Hid (∀ y : World, (∀ k, k < B0 → y.heap[k]? = w.heap[k]?) → TermsV y v ts) := hV
  obtain ⟨ao, cap, rfl, _⟩ := hV w (fun _ _ => rfl)
  have HSS : Hid (∀ t, t ∈ ts → t.var.length ≤ 5000) := hs
  have HW : Hid (B ≤ w.heap.size) := hBw
  have hl : vs.length + ts.length ≤ 1000 := hl
  have hnl : name.length ≤ 5000 := hnl
  have h3 := three_blocks w (.cells #[.int .i64 kind, .int .i64 at_, .int .i64 op, .string ⟨name.toArray⟩, .slice ao ts.length cap] 61) (.cells #[.int .i64 0, .int .i64 0, .int .i64 0, .slice none 0 0] 84) (.cells #[.int .i64 kind, .int .i64 op, .int .i64 0, .slice none 0 0] 84)
  obtain ⟨hb3, hfb, hlb⟩ := h3
  have hzb := mid_block w (.cells #[.int .i64 kind, .int .i64 at_, .int .i64 op, .string ⟨name.toArray⟩, .slice ao ts.length cap] 61) (.cells #[.int .i64 0, .int .i64 0, .int .i64 0, .slice none 0 0] 84) (.cells #[.int .i64 kind, .int .i64 op, .int .i64 0, .slice none 0 0] 84)
  have hRz := hI.below hb3
  have HFz : Hid (FrL B0 RV w (((w.alloc (.cells #[.int .i64 kind, .int .i64 at_, .int .i64 op, .string ⟨name.toArray⟩, .slice ao ts.length cap] 61)).alloc (.cells #[.int .i64 0, .int .i64 0, .int .i64 0, .slice none 0 0] 84)).alloc (.cells #[.int .i64 kind, .int .i64 op, .int .i64 0, .slice none 0 0] 84))) := FrL.of_below hb3 (Nat.le_trans hB0 hBw)
  by_cases hk : kind = 1 ∨ kind = 2
  · have HLS : Hid (Sc.litStep st vs ⟨kind, at_, op, name, ts⟩ = match Sc.predStep st at_ name ts.length with | .inl e => .inl e | .inr (k, st1) => match Sc.termsStep vs at_ ts with | .inl e => .inl e | .inr (l, vs1) => .inr (⟨kind, op, k, l⟩, st1, vs1)) := by
      show _ = _
      unfold Sc.litStep
      rw [if_pos hk]
      rfl
    have HPR : Hid (∀ y, RsI B RV M st va vn vr y → Calls Tryz.prog 107 #[.pointer (some ⟨RV, 0, none⟩), .int .i64 at_, .string ⟨name.toArray⟩, .int .i64 (ts.length : Int)] y (PredEnd B RV M st vr at_ ts.length name y)) := fun y hy => pred_any B RV M st va vn vr at_ ts.length name y hy hnl hl2
    have hkk : (kind == 1) = true ∨ (kind == 1) = false ∧ (kind == 2) = true := by rcases hk with h | h <;> simp [h]
    clear hk hI hb3
    rcases hkk with gk | ⟨gk, gk2⟩
    all_goals
      go_enter Tryz.func109, Tryz.ntmps109
      go_wp2_with fail
      refine Calls.mono (HPR.out _ hRz.rs) ?_
      intro e w4 hPE
      unfold PredEnd at hPE
      rcases hps : Sc.predStep st at_ name ts.length with y | ⟨k, st1⟩
      · rw [hps] at hPE
        obtain ⟨rfl, hf4⟩ := hPE
        have HFin : Hid (LitR B0 B RV M MV st vs vr ⟨kind, at_, op, name, ts⟩ w (gaveF y.1 y.2) w4) := by
          show LitR B0 B RV M MV st vs vr ⟨kind, at_, op, name, ts⟩ w _ _
          unfold LitR
          rw [HLS.out, hps]
          exact ⟨rfl, HFz.out.trans (FrL.of_pred hf4 hRz.rs.num hRz.z0 hRz.z1 hB0 (Nat.le_trans hB0 hRz.rs.sz))⟩
        go_wp2_with fail
        exact ⟨rfl, HFin.out⟩
      · rw [hps] at hPE
        obtain ⟨va2, vn2, rfl, hI4, hf4⟩ := hPE
        have HST : Hid _ := HLS.out.trans (by rw [hps])
        have hF4 := HFz.out.trans (FrL.of_pred hf4 hRz.rs.num hRz.z0 hRz.z1 hB0 (Nat.le_trans hB0 hRz.rs.sz))
        have hWR : ¬ w.heap.size = RV := by have := hRz.rs.rb; omega
        have hWM : ¬ w.heap.size = M := by have := hRz.rs.mb; omega
        have hLR : ¬ w.heap.size + 1 + 1 = RV := by have := hRz.rs.rb; omega
        have hLM : ¬ w.heap.size + 1 + 1 = M := by have := hRz.rs.mb; omega
        have hfb4 := hf4.box hfb hWR hWM (by decide) (by decide)
        have hlb4 := hf4.box hlb hLR hLM (by decide) (by decide)
        have hzb4 := hf4.box hzb (by have := hRz.rs.rb; omega) (by have := hRz.rs.mb; omega) (by decide) (by decide)
        have hvm4 := hRz.vm.pred hf4 (by have := hRz.z3; have := hRz.rs.rb; omega) (by have := hRz.z3; have := hRz.rs.mb; omega)
        have hne4 : ¬ w.heap.size + 1 + 1 = MV := fun e => by rw [← e] at hvm4; exact numAt_cells hvm4 hlb4
        have n2 : w4.cell? ⟨w.heap.size + 1 + 1, 2, none⟩ = some (.int .i64 0) := by rw [Lib.cell_of_heap hlb4]; rfl
        have nf2 : w4.frozen? ⟨w.heap.size + 1 + 1, 2, none⟩ = false := Lib.frozen_of_heap hlb4 2
        have hz0 := hRz.z0
        have hz1 := hRz.z1
        have hz2 := hRz.z2
        have hz3 := hRz.z3
        have hRz : RsV B0 B RV M MV st1 vs va2 vn2 vr (w4.setCell ⟨w.heap.size + 1 + 1, 2, none⟩ (.int .i64 k)) := ⟨hI4.set hlb4 hLR hLM (o := 2) (v := .int .i64 k), hvm4.same (Below.heap_setCell _ _ _ _ (fun e => hne4 e.symm)), hz0, hz1, hz2, hz3⟩
        have HFz : Hid (FrL B0 RV w (w4.setCell ⟨w.heap.size + 1 + 1, 2, none⟩ (.int .i64 k))) := FrL.of_set (by omega) 2 _ hF4 (Nat.le_trans hB0 HW.out)
        have hfb : (w4.setCell ⟨w.heap.size + 1 + 1, 2, none⟩ (.int .i64 k)).heap[w.heap.size]? = _ := (Below.heap_setCell _ _ _ _ (show ¬ w.heap.size = w.heap.size + 1 + 1 by omega)).trans hfb4
        have hlb : (w4.setCell ⟨w.heap.size + 1 + 1, 2, none⟩ (.int .i64 k)).heap[w.heap.size + 1 + 1]? = some (.cells #[.int .i64 kind, .int .i64 op, .int .i64 k, .slice none 0 0] 84 (0, 0)) := by rw [Lib.heap_setCell_same hlb4]; rfl
        have hzb := (Below.heap_setCell w4 ⟨w.heap.size + 1 + 1, 2, none⟩ (.int .i64 k) (w.heap.size + 1) (show ¬ w.heap.size + 1 = w.heap.size + 1 + 1 by omega)).trans hzb4
        clear hfb4 hlb4 hzb4 hf4 hI4 hvm4 hF4
        have HTV : Hid (TermsV (w4.setCell ⟨w.heap.size + 1 + 1, 2, none⟩ (.int .i64 k)) (.slice ao ts.length cap) ts) := HV.out _ HFz.out.low
        have hBz : B ≤ (w4.setCell ⟨w.heap.size + 1 + 1, 2, none⟩ (.int .i64 k)).heap.size := hRz.rs.sz
        have m0 : (w4.setCell ⟨w.heap.size + 1 + 1, 2, none⟩ (.int .i64 k)).cell? ⟨w.heap.size, 1, none⟩ = some (.int .i64 at_) := by rw [Lib.cell_of_heap hfb]; rfl
        have m1 : (w4.setCell ⟨w.heap.size + 1 + 1, 2, none⟩ (.int .i64 k)).cell? ⟨w.heap.size, 4, none⟩ = some (.slice ao ts.length cap) := by rw [Lib.cell_of_heap hfb]; rfl
        go_wp2_with fail
        refine Calls.mono (termsR_any MV vs at_ ts _ _ HTV.out hRz.vm HSS.out hl) ?_
        intro e w6 hTR
        unfold TermsR at hTR
        rcases hts : Sc.termsStep vs at_ ts with y | ⟨tl, vs1⟩
        · rw [hts] at hTR
          obtain ⟨rfl, hg6⟩ := hTR
          have HFin : Hid (LitR B0 B RV M MV st vs vr ⟨kind, at_, op, name, ts⟩ w (gaveF y.1 y.2) w6) := by
            show LitR B0 B RV M MV st vs vr ⟨kind, at_, op, name, ts⟩ w _ _
            unfold LitR
            rw [HST.out, hts]
            exact ⟨rfl, HFz.out.trans (FrL.of_vars hg6 hRz.vm (Nat.le_trans hB0 hRz.z3) (Nat.le_trans hB0 hBz))⟩
          go_wp2_with fail
          exact ⟨rfl, HFin.out⟩
        · rw [hts] at hTR
          obtain ⟨v6, rfl, hown6, hn6, hg6⟩ := hTR
          obtain ⟨ao6, cap6, rfl⟩ := own_slice hown6
          have hne : ¬ w.heap.size + 1 + 1 = MV := fun e => by have := hRz.vm; rw [← e] at this; exact numAt_cells this hlb
          have hlb6 := (hg6.block _ (heap_lt hlb) (fun e => hne (by injection e))).trans hlb
          have n3 : w6.cell? ⟨w.heap.size + 1 + 1, 3, none⟩ = some (.slice none 0 0) := by rw [Lib.cell_of_heap hlb6]; rfl
          have nf : w6.frozen? ⟨w.heap.size + 1 + 1, 3, none⟩ = false := Lib.frozen_of_heap hlb6 3
          have n0 : w6.cell? ⟨w.heap.size + 1 + 1, 0, none⟩ = some (.int .i64 kind) := by rw [Lib.cell_of_heap hlb6]; rfl
          have n1 : w6.cell? ⟨w.heap.size + 1 + 1, 1, none⟩ = some (.int .i64 op) := by rw [Lib.cell_of_heap hlb6]; rfl
          have n2 : w6.cell? ⟨w.heap.size + 1 + 1, 2, none⟩ = some (.int .i64 k) := by rw [Lib.cell_of_heap hlb6]; rfl
          have hne2 : ¬ w.heap.size + 1 = MV := fun e => by have := hRz.vm; rw [← e] at this; exact numAt_cells this hzb
          have hzb6 := (hg6.block _ (heap_lt hzb) (fun e => hne2 (by injection e))).trans hzb
          have o0 : w6.cell? ⟨w.heap.size + 1, 0, none⟩ = some (.int .i64 0) := by rw [Lib.cell_of_heap hzb6]; rfl
          have o1 : w6.cell? ⟨w.heap.size + 1, 1, none⟩ = some (.int .i64 0) := by rw [Lib.cell_of_heap hzb6]; rfl
          have o2 : w6.cell? ⟨w.heap.size + 1, 2, none⟩ = some (.int .i64 0) := by rw [Lib.cell_of_heap hzb6]; rfl
          have o3 : w6.cell? ⟨w.heap.size + 1, 3, none⟩ = some (.slice none 0 0) := by rw [Lib.cell_of_heap hzb6]; rfl
          have of0 : w6.frozen? ⟨w.heap.size + 1, 0, none⟩ = false := Lib.frozen_of_heap hzb6 0
          have of1 : w6.frozen? ⟨w.heap.size + 1, 1, none⟩ = false := Lib.frozen_of_heap hzb6 1
          have of2 : w6.frozen? ⟨w.heap.size + 1, 2, none⟩ = false := Lib.frozen_of_heap hzb6 2
          have of3 : w6.frozen? ⟨w.heap.size + 1, 3, none⟩ = false := Lib.frozen_of_heap hzb6 3
          have HFin : Hid (∀ w9, SetB (w.heap.size + 1) (w6.setCell ⟨w.heap.size + 1 + 1, 3, none⟩ (.slice ao6 tl.length cap6)) w9 → LitR B0 B RV M MV st vs vr ⟨kind, at_, op, name, ts⟩ w (.returned (plitVal ⟨kind, op, k, tl⟩ (.slice ao6 tl.length cap6))) w9) := by
            intro w9 hs9
            unfold LitR
            rw [HST.out, hts]
            have hlbw := heap_lt hlb
            have hzbw := heap_lt hzb
            have hs8 := SetB.one (w.heap.size + 1 + 1) w6 3 (.slice ao6 tl.length cap6)
            have r0 := hRz.rs.rb
            have r1 := hRz.rs.mb
            have r2 := hRz.z3
            have r3 := HW.out
            have hR6 : RsV B0 B RV M MV st1 vs1 va2 vn2 vr w6 := ⟨hRz.rs.vars hRz.vm hg6 (by omega), hn6, hRz.z0, hRz.z1, hRz.z2, hRz.z3⟩
            have hR8 := hR6.setB hs8 hlb6 (by omega) (by omega) (by decide) (by decide)
            have hzb8 := (hs8.block (w.heap.size + 1) (by omega)).trans hzb6
            refine ⟨va2, vn2, _, rfl, hR8.setB hs9 hzb8 (by omega) (by omega) (by decide) (by decide), ?_, ?_⟩
            · have hr : RowP _ w6 130 2 _ (tl.map ptCells) := rowP_own (k := 2) (cs := tl.map ptCells) (by intro c hc; obtain ⟨t, _, rfl⟩ := List.mem_map.mp hc; rfl) (by rw [List.length_map]; exact hown6)
              exact ⟨RowP.mono ((hr.setB hs8 hlbw).setB hs9 hzbw) hBz, capV_own hown6⟩
            · exact ((HFz.out.trans (FrL.of_vars hg6 hRz.vm (Nat.le_trans hB0 hRz.z3) (Nat.le_trans hB0 hBz))).setB hs8 (by omega) (by omega)).setB hs9 (by omega) (by omega)
          clear hown6 hn6 hg6 hlb6 hzb6
          go_wp2_with fail
          refine bodyPost_ret (v := plitVal ⟨kind, op, k, tl⟩ (.slice ao6 tl.length cap6)) (by simp [results, Tryz.results109, go_sem, o0, o1, o2, o3]) rfl (HFin.out _ ?_)
          exact (((SetB.one _ _ _ _).trans (SetB.one _ _ _ _)).trans (SetB.one _ _ _ _)).trans (SetB.one _ _ _ _)

  · have HST : Hid (Sc.litStep st vs ⟨kind, at_, op, name, ts⟩ = match Sc.termsStep vs at_ ts with | .inl e => .inl e | .inr (l, vs1) => .inr (⟨kind, op, 0, l⟩, st, vs1)) := by
      show _ = _
      unfold Sc.litStep
      rw [if_neg hk]
      rfl
    have gk1 : (kind == 1) = false := by simp; exact fun e => hk (.inl e)
    have gk2 : (kind == 2) = false := by simp; exact fun e => hk (.inr e)
    clear hk hI hb3
    go_enter Tryz.func109, Tryz.ntmps109
    have HTV : Hid (TermsV (((w.alloc (.cells #[.int .i64 kind, .int .i64 at_, .int .i64 op, .string ⟨name.toArray⟩, .slice ao ts.length cap] 61)).alloc (.cells #[.int .i64 0, .int .i64 0, .int .i64 0, .slice none 0 0] 84)).alloc (.cells #[.int .i64 kind, .int .i64 op, .int .i64 0, .slice none 0 0] 84)) (.slice ao ts.length cap) ts) := HV.out _ HFz.out.low
    have hBz : B ≤ (((w.alloc (.cells #[.int .i64 kind, .int .i64 at_, .int .i64 op, .string ⟨name.toArray⟩, .slice ao ts.length cap] 61)).alloc (.cells #[.int .i64 0, .int .i64 0, .int .i64 0, .slice none 0 0] 84)).alloc (.cells #[.int .i64 kind, .int .i64 op, .int .i64 0, .slice none 0 0] 84)).heap.size := hRz.rs.sz
    have m0 : (((w.alloc (.cells #[.int .i64 kind, .int .i64 at_, .int .i64 op, .string ⟨name.toArray⟩, .slice ao ts.length cap] 61)).alloc (.cells #[.int .i64 0, .int .i64 0, .int .i64 0, .slice none 0 0] 84)).alloc (.cells #[.int .i64 kind, .int .i64 op, .int .i64 0, .slice none 0 0] 84)).cell? ⟨w.heap.size, 1, none⟩ = some (.int .i64 at_) := by rw [Lib.cell_of_heap hfb]; rfl
    have m1 : (((w.alloc (.cells #[.int .i64 kind, .int .i64 at_, .int .i64 op, .string ⟨name.toArray⟩, .slice ao ts.length cap] 61)).alloc (.cells #[.int .i64 0, .int .i64 0, .int .i64 0, .slice none 0 0] 84)).alloc (.cells #[.int .i64 kind, .int .i64 op, .int .i64 0, .slice none 0 0] 84)).cell? ⟨w.heap.size, 4, none⟩ = some (.slice ao ts.length cap) := by rw [Lib.cell_of_heap hfb]; rfl
    go_wp2_with fail
    refine Calls.mono (termsR_any MV vs at_ ts _ _ HTV.out hRz.vm HSS.out hl) ?_
    intro e w6 hTR
    unfold TermsR at hTR
    rcases hts : Sc.termsStep vs at_ ts with y | ⟨tl, vs1⟩
    · rw [hts] at hTR
      obtain ⟨rfl, hg6⟩ := hTR
      have HFin : Hid (LitR B0 B RV M MV st vs vr ⟨kind, at_, op, name, ts⟩ w (gaveF y.1 y.2) w6) := by
        show LitR B0 B RV M MV st vs vr ⟨kind, at_, op, name, ts⟩ w _ _
        unfold LitR
        rw [HST.out, hts]
        exact ⟨rfl, HFz.out.trans (FrL.of_vars hg6 hRz.vm (Nat.le_trans hB0 hRz.z3) (Nat.le_trans hB0 hBz))⟩
      go_wp2_with fail
      exact ⟨rfl, HFin.out⟩
    · rw [hts] at hTR
      obtain ⟨v6, rfl, hown6, hn6, hg6⟩ := hTR
      obtain ⟨ao6, cap6, rfl⟩ := own_slice hown6
      have hne : ¬ w.heap.size + 1 + 1 = MV := fun e => by have := hRz.vm; rw [← e] at this; exact numAt_cells this hlb
      have hlb6 := (hg6.block _ (heap_lt hlb) (fun e => hne (by injection e))).trans hlb
      have n3 : w6.cell? ⟨w.heap.size + 1 + 1, 3, none⟩ = some (.slice none 0 0) := by rw [Lib.cell_of_heap hlb6]; rfl
      have nf : w6.frozen? ⟨w.heap.size + 1 + 1, 3, none⟩ = false := Lib.frozen_of_heap hlb6 3
      have n0 : w6.cell? ⟨w.heap.size + 1 + 1, 0, none⟩ = some (.int .i64 kind) := by rw [Lib.cell_of_heap hlb6]; rfl
      have n1 : w6.cell? ⟨w.heap.size + 1 + 1, 1, none⟩ = some (.int .i64 op) := by rw [Lib.cell_of_heap hlb6]; rfl
      have n2 : w6.cell? ⟨w.heap.size + 1 + 1, 2, none⟩ = some (.int .i64 0) := by rw [Lib.cell_of_heap hlb6]; rfl
      have hne2 : ¬ w.heap.size + 1 = MV := fun e => by have := hRz.vm; rw [← e] at this; exact numAt_cells this hzb
      have hzb6 := (hg6.block _ (heap_lt hzb) (fun e => hne2 (by injection e))).trans hzb
      have o0 : w6.cell? ⟨w.heap.size + 1, 0, none⟩ = some (.int .i64 0) := by rw [Lib.cell_of_heap hzb6]; rfl
      have o1 : w6.cell? ⟨w.heap.size + 1, 1, none⟩ = some (.int .i64 0) := by rw [Lib.cell_of_heap hzb6]; rfl
      have o2 : w6.cell? ⟨w.heap.size + 1, 2, none⟩ = some (.int .i64 0) := by rw [Lib.cell_of_heap hzb6]; rfl
      have o3 : w6.cell? ⟨w.heap.size + 1, 3, none⟩ = some (.slice none 0 0) := by rw [Lib.cell_of_heap hzb6]; rfl
      have of0 : w6.frozen? ⟨w.heap.size + 1, 0, none⟩ = false := Lib.frozen_of_heap hzb6 0
      have of1 : w6.frozen? ⟨w.heap.size + 1, 1, none⟩ = false := Lib.frozen_of_heap hzb6 1
      have of2 : w6.frozen? ⟨w.heap.size + 1, 2, none⟩ = false := Lib.frozen_of_heap hzb6 2
      have of3 : w6.frozen? ⟨w.heap.size + 1, 3, none⟩ = false := Lib.frozen_of_heap hzb6 3
      have HFin : Hid (∀ w9, SetB (w.heap.size + 1) (w6.setCell ⟨w.heap.size + 1 + 1, 3, none⟩ (.slice ao6 tl.length cap6)) w9 → LitR B0 B RV M MV st vs vr ⟨kind, at_, op, name, ts⟩ w (.returned (plitVal ⟨kind, op, 0, tl⟩ (.slice ao6 tl.length cap6))) w9) := by
        intro w9 hs9
        unfold LitR
        rw [HST.out, hts]
        have hlbw := heap_lt hlb
        have hzbw := heap_lt hzb
        have hs8 := SetB.one (w.heap.size + 1 + 1) w6 3 (.slice ao6 tl.length cap6)
        have r0 := hRz.rs.rb
        have r1 := hRz.rs.mb
        have r2 := hRz.z3
        have r3 := HW.out
        have hR6 : RsV B0 B RV M MV st vs1 va vn vr w6 := ⟨hRz.rs.vars hRz.vm hg6 (by omega), hn6, hRz.z0, hRz.z1, hRz.z2, hRz.z3⟩
        have hR8 := hR6.setB hs8 hlb6 (by omega) (by omega) (by decide) (by decide)
        have hzb8 := (hs8.block (w.heap.size + 1) (by omega)).trans hzb6
        refine ⟨va, vn, _, rfl, hR8.setB hs9 hzb8 (by omega) (by omega) (by decide) (by decide), ?_, ?_⟩
        · have hr : RowP _ w6 130 2 _ (tl.map ptCells) := rowP_own (k := 2) (cs := tl.map ptCells) (by intro c hc; obtain ⟨t, _, rfl⟩ := List.mem_map.mp hc; rfl) (by rw [List.length_map]; exact hown6)
          exact ⟨RowP.mono ((hr.setB hs8 hlbw).setB hs9 hzbw) hBz, capV_own hown6⟩
        · exact ((HFz.out.trans (FrL.of_vars hg6 hRz.vm (Nat.le_trans hB0 hRz.z3) (Nat.le_trans hB0 hBz))).setB hs8 (by omega) (by omega)).setB hs9 (by omega) (by omega)
      clear hown6 hn6 hg6 hlb6 hzb6
      go_wp2_with fail
      refine bodyPost_ret (v := plitVal ⟨kind, op, 0, tl⟩ (.slice ao6 tl.length cap6)) (by simp [results, Tryz.results109, go_sem, o0, o1, o2, o3]) rfl (HFin.out _ ?_)
      exact (((SetB.one _ _ _ _).trans (SetB.one _ _ _ _)).trans (SetB.one _ _ _ _)).trans (SetB.one _ _ _ _)

end Go.Proofs.YtgpaleifhcdjnaaGreatDoor

