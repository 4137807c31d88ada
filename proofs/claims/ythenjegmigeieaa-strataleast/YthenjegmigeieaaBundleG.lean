/- Own texts, one behind the other (part 7). -/
import Derived.Test.YthenjegmigeieaaBundleF
import Derived.Test.YthenjegmigeieaaRows
import Derived.Deep.QuietTactic
import Derived.BigQuiet
import Derived.Deep.RegionHeld3
import Derived.Deep.DeepCutAuto
import Derived.Deep.RegionLaw
import Derived.ProofKit
import Derived.Deep.Slices
import Derived.Deep.Strs
/- The document's check of a rule. -/
namespace Go.Proofs.Ythenjegmigeieaa
open Go.RowKit

theorem ints_cell {w y : World} {b off : Nat} {ar : List Int} (h : IntsAt w (some ⟨b, off, none⟩) ar) (n : Nat) (hn : n < ar.length) (hb : Below w.heap.size w y) : y.cell? ⟨b, off + n, none⟩ = some (.int .i64 (Sc.intD ar n)) := by
  obtain ⟨b', off', e, hc⟩ := ints_at h n hn
  obtain ⟨rfl, rfl⟩ : b = b' ∧ off = off' := by simpa using e
  exact cell_below hb hc

set_option maxRecDepth 100000 in
set_option maxHeartbeats 8000000 in
theorem rpRule_any (ar : List Int) (va vn vr : Value) (r : Sc.Rule) (vt vb : Value) (w : World) (har : ar.length ≤ 9223372036854775807) (hA : IntsV w va ar) (hT : PTermsV w vt r.terms) (hL : PLitsV w vb r.body) (hF : RuleFit r) :
    Calls Try.prog 21 #[progVal va vn vr, pruleVal r vt vb] w fun e w' => e = .returned (.int .i64 (Sc.ruleErr ar r)) ∧ Below w.heap.size w w' := by
  obtain ⟨ao, cap, rfl, hA⟩ := hA
  obtain ⟨pred, ts, fold, body, vars⟩ := r
  have HT : Hid (PTermsV w vt ts) := hT
  have HL : Hid (PLitsV w vb body) := hL
  have HFT : Hid (ts.length ≤ 9223372036854775807) := hF.1
  have HFB : Hid (∀ i, i < body.length → LitFit (Sc.litD body i)) := hF.2.2
  have hfb : body.length ≤ 9223372036854775807 := hF.2.1
  obtain ⟨at_, ct, rfl, _, _⟩ := hT
  obtain ⟨ab, cb, rfl, hLA⟩ := hL
  have hLA : PLitsAt w ab body := hLA
  have hA : IntsAt w ao ar := hA
  simp only at HT HL
  clear hF
  have hR := RB.start w (.cells #[.slice ao ar.length cap, vn, vr] 26) (.cells #[.int .i64 pred, .slice at_ ts.length ct, .int .i64 fold, .slice ab body.length cb, .int .i64 vars] 48)
  have HE0 : Hid (Sc.ruleErr ar ⟨pred, ts, fold, body, vars⟩ = if Sc.isPred ar pred then
    Sc.thn (if (ts.length : Int) ≠ Sc.intD ar pred.toNat then 1 else 0) (
    Sc.thn (if Tr.between vars 0 8 then 0 else 3) (
    Sc.thn (Sc.termsErr vars ts) (
    Sc.thn (if Tr.between fold 0 4 then 0 else 7) (
    Sc.thn (if fold ≠ 0 ∧ (ts.length = 0 ∨ body.length = 0) then 1 else 0) (
    Sc.thn (if 4 < body.length then 2 else 0) (
    Sc.thn (Sc.first (Sc.litAll ar vars) body) (if Sc.safe ⟨pred, ts, fold, body, vars⟩ then 0 else 4)))))))
  else 5) := rfl
  go_enter Try.func21, Try.ntmps21
  go_wp2_with fail
  refine (btw_any _ _ _ _).mono ?_
  rintro e w2 ⟨he, hw2⟩
  subst hw2
  cases g1 : Sc.isPred ar pred
  · have hbt : Tr.between pred 0 ((ar.length : Int) - 1) = false := g1
    rw [hbt] at he
    subst he
    have HV : Hid (Sc.ruleErr ar ⟨pred, ts, fold, body, vars⟩ = 5) := by show _ = _; rw [HE0.out, g1]; rfl
    clear HE0 hLA hA hbt
    go_wp2_with fail
    go_ret
    exact ⟨by rw [HV.out]; rfl, hR.bel⟩
  have hbt : Tr.between pred 0 ((ar.length : Int) - 1) = true := g1
  rw [hbt] at he
  subst he
  clear hbt
  obtain ⟨k, rfl, hk⟩ := nat_of g1
  obtain ⟨b, off, rfl, hc⟩ := ints_at hA k hk
  have HA2 : Hid (IntsAt w (some ⟨b, off, none⟩) ar) := hA
  have hq := cell_below hR.bel hc
  rw [g1, if_pos rfl, Int.toNat_natCast] at HE0
  clear hc hA
  go_upto_region 4 with fail
  generalize (w.alloc (.cells #[.slice (some ⟨b, off, none⟩) ar.length cap, vn, vr] 26)).alloc (.cells #[.int .i64 k, .slice at_ ts.length ct, .int .i64 fold, .slice ab body.length cb, .int .i64 vars] 48) = w1 at *
  have c1 : w1.cell? ⟨w.heap.size, 0, none⟩ = some (.slice (some ⟨b, off, none⟩) ar.length cap) := by rw [Lib.cell_of_heap hR.b1]; rfl
  have d0 : w1.cell? ⟨w.heap.size + 1, 0, none⟩ = some (.int .i64 k) := by rw [Lib.cell_of_heap hR.b2]; rfl
  have d1 : w1.cell? ⟨w.heap.size + 1, 1, none⟩ = some (.slice at_ ts.length ct) := by rw [Lib.cell_of_heap hR.b2]; rfl
  have d2 : w1.cell? ⟨w.heap.size + 1, 2, none⟩ = some (.int .i64 fold) := by rw [Lib.cell_of_heap hR.b2]; rfl
  have d3 : w1.cell? ⟨w.heap.size + 1, 3, none⟩ = some (.slice ab body.length cb) := by rw [Lib.cell_of_heap hR.b2]; rfl
  have d4 : w1.cell? ⟨w.heap.size + 1, 4, none⟩ = some (.int .i64 vars) := by rw [Lib.cell_of_heap hR.b2]; rfl
  cases g2 : ((ts.length : Int) != Sc.intD ar k)
  rotate_left
  · have h2 : ¬ (ts.length : Int) = Sc.intD ar k := by simpa using g2
    have HV : Hid (Sc.ruleErr ar ⟨k, ts, fold, body, vars⟩ = 1) := by show _ = _; rw [HE0.out, if_pos h2]; rfl
    clear HE0 h2
    go_region_held3 (fun y => y.cell? ⟨w.heap.size, 0, none⟩ = some (.slice (some ⟨b, off, none⟩) ar.length cap) ∧ y.cell? ⟨w.heap.size + 1, 0, none⟩ = some (.int .i64 k) ∧ y.cell? ⟨w.heap.size + 1, 1, none⟩ = some (.slice at_ ts.length ct) ∧ y.cell? ⟨b, off + k, none⟩ = some (.int .i64 (Sc.intD ar k))) (go_keep) (fail)
    have hbd := hR.bel.drew
    go_wp2_with fail
    go_ret
    exact ⟨by rw [HV.out]; rfl, hbd⟩
  have h2 : (ts.length : Int) = Sc.intD ar k := by simpa using g2
  rw [if_neg (by simp [h2]), Sc.thn_zero] at HE0
  clear h2
  go_region_held3 (fun y => y.cell? ⟨w.heap.size, 0, none⟩ = some (.slice (some ⟨b, off, none⟩) ar.length cap) ∧ y.cell? ⟨w.heap.size + 1, 0, none⟩ = some (.int .i64 k) ∧ y.cell? ⟨w.heap.size + 1, 1, none⟩ = some (.slice at_ ts.length ct) ∧ y.cell? ⟨b, off + k, none⟩ = some (.int .i64 (Sc.intD ar k))) (go_keep) (fail)
  have hR := hR.drew
  clear c1 d0 d1 d2 d3 d4 hq
  generalize w1.drew = wd at *
  have c1 : wd.cell? ⟨w.heap.size, 0, none⟩ = some (.slice (some ⟨b, off, none⟩) ar.length cap) := by rw [Lib.cell_of_heap hR.b1]; rfl
  have d0 : wd.cell? ⟨w.heap.size + 1, 0, none⟩ = some (.int .i64 k) := by rw [Lib.cell_of_heap hR.b2]; rfl
  have d1 : wd.cell? ⟨w.heap.size + 1, 1, none⟩ = some (.slice at_ ts.length ct) := by rw [Lib.cell_of_heap hR.b2]; rfl
  have d2 : wd.cell? ⟨w.heap.size + 1, 2, none⟩ = some (.int .i64 fold) := by rw [Lib.cell_of_heap hR.b2]; rfl
  have d3 : wd.cell? ⟨w.heap.size + 1, 3, none⟩ = some (.slice ab body.length cb) := by rw [Lib.cell_of_heap hR.b2]; rfl
  have d4 : wd.cell? ⟨w.heap.size + 1, 4, none⟩ = some (.int .i64 vars) := by rw [Lib.cell_of_heap hR.b2]; rfl
  go_wp2_with fail
  refine (btw_any _ _ _ _).mono ?_
  rintro e w2 ⟨he, rfl⟩
  cases g3 : Tr.between vars 0 8
  · rw [g3] at he
    subst he
    have HV : Hid (Sc.ruleErr ar ⟨k, ts, fold, body, vars⟩ = 3) := by show _ = _; rw [HE0.out, g3]; rfl
    clear HE0
    go_wp2_with fail
    go_ret
    exact ⟨by rw [HV.out]; rfl, hR.bel⟩
  rw [g3] at he
  subst he
  rw [g3, if_pos rfl, Sc.thn_zero] at HE0
  have hv08 : 0 ≤ vars ∧ vars ≤ 8 := by
    simp [Tr.between] at g3
    exact g3
  obtain ⟨hv0, hv8⟩ := hv08
  go_wp2_with fail
  refine Calls.mono (rpTerms_any ts vars _ _ ⟨hv0, hv8⟩ HFT.out (ptermsV_below HT.out hR.bel)) ?_
  rintro e w3 ⟨rfl, rfl⟩
  by_cases h4 : Sc.termsErr vars ts = 0
  rotate_left
  · have g4 : (Sc.termsErr vars ts != 0) = true := by simpa using h4
    have HV : Hid (Sc.ruleErr ar ⟨k, ts, fold, body, vars⟩ = Sc.termsErr vars ts) := by show _ = _; rw [HE0.out, Sc.thn_ne _ h4]
    clear HE0
    go_wp2_with fail
    go_ret
    exact ⟨by rw [HV.out]; rfl, hR.bel⟩
  have g4 : (Sc.termsErr vars ts != 0) = false := by simpa using h4
  rw [h4, Sc.thn_zero] at HE0
  rw [h4]
  clear h4 HFT HT g4
  go_wp2_with fail
  refine (btw_any _ _ _ _).mono ?_
  rintro e w2 ⟨he, rfl⟩
  cases g5 : Tr.between fold 0 4
  · rw [g5] at he
    subst he
    have HV : Hid (Sc.ruleErr ar ⟨k, ts, fold, body, vars⟩ = 7) := by show _ = _; rw [HE0.out, g5]; rfl
    clear HE0
    go_wp2_with fail
    go_ret
    exact ⟨by rw [HV.out]; rfl, hR.bel⟩
  rw [g5] at he
  subst he
  rw [g5, if_pos rfl, Sc.thn_zero] at HE0
  have hf0 : 0 ≤ fold := by
    simp [Tr.between] at g5
    exact g5.1
  by_cases h6 : fold ≠ 0 ∧ (ts.length = 0 ∨ body.length = 0)
  · have HV : Hid (Sc.ruleErr ar ⟨k, ts, fold, body, vars⟩ = 1) := by show _ = _; rw [HE0.out, if_pos h6]; rfl
    clear HE0
    have g6 : decide (0 < fold) = true := decide_eq_true (by omega)
    by_cases h7 : ts.length = 0
    · have g7 : ((ts.length : Int) == 0) = true := by simp [h7]
      clear h6 h7
      go_wp2_with fail
      go_ret
      exact ⟨by rw [HV.out]; rfl, hR.bel⟩
    · have g7 : ((ts.length : Int) == 0) = false := by simp; exact fun e => h7 (by rw [e]; rfl)
      have h8 : body.length = 0 := h6.2.resolve_left h7
      have g8 : ((body.length : Int) == 0) = true := by simp [h8]
      clear h6 h7 h8
      go_wp2_with fail
      go_ret
      exact ⟨by rw [HV.out]; rfl, hR.bel⟩
  rw [if_neg h6, Sc.thn_zero] at HE0
  go_upto_region 13 with fail
  go_cut [59] (fun v wx => v = .bool false ∧ wx = w2)
  case first =>
    by_cases g6 : 0 < fold
    · have g6' : decide (0 < fold) = true := decide_eq_true g6
      have h9 : ¬ (ts.length = 0 ∨ body.length = 0) := fun h => h6 ⟨by omega, h⟩
      have g7 : ((ts.length : Int) == 0) = false := by simp; exact fun e => h9 (.inl (by rw [e]; rfl))
      have g8 : ((body.length : Int) == 0) = false := by simp; exact fun e => h9 (.inr (by rw [e]; rfl))
      clear h6 h9
      go_wp2_with fail
      go_meet
      exact ⟨rfl, rfl⟩
    · have g6' : decide (0 < fold) = false := decide_eq_false g6
      clear h6
      go_wp2_with fail
      go_meet
      exact ⟨rfl, rfl⟩
  case rest =>
    obtain ⟨rfl, rfl⟩ := hcut
    clear h6
    by_cases h8 : 4 < body.length
    · have HV : Hid (Sc.ruleErr ar ⟨k, ts, fold, body, vars⟩ = 2) := by show _ = _; rw [HE0.out, if_pos h8]; rfl
      have g8 : decide (4 < body.length) = true := decide_eq_true h8
      have g8' : decide ((4 : Int) < (body.length : Int)) = true := decide_eq_true (by omega)
      clear HE0
      go_wp2_with fail
      go_ret
      exact ⟨by rw [HV.out]; rfl, hR.bel⟩
    have g8 : decide (4 < body.length) = false := decide_eq_false h8
    have g8' : decide ((4 : Int) < (body.length : Int)) = false := decide_eq_false (by omega)
    rw [if_neg h8, Sc.thn_zero] at HE0
    go_wp2_with fail
    clear c1 d0 d1 d2 d3 d4
    go_loopw [7] (fun i wr => ∃ j : Nat, j ≤ body.length ∧ i = .int .i64 j ∧ RB w (.cells #[.slice (some ⟨b, off, none⟩) ar.length cap, vn, vr] 26) (.cells #[.int .i64 k, .slice at_ ts.length ct, .int .i64 fold, .slice ab body.length cb, .int .i64 vars] 48) wr ∧ Sc.first (Sc.litAll ar vars) body = Sc.first (Sc.litAll ar vars) (body.drop j)) (fun i _ => body.length - (intOf i).toNat)
    case atStart => exact ⟨0, Nat.zero_le _, rfl, hR, rfl⟩
    case round =>
      clear hR
      obtain ⟨j, hj, rfl, hR, hfj⟩ := hrel
      have HFJ : Hid _ := hfj
      clear hfj
      have c1 : wr.cell? ⟨w.heap.size, 0, none⟩ = some (.slice (some ⟨b, off, none⟩) ar.length cap) := by rw [Lib.cell_of_heap hR.b1]; rfl
      have d0 : wr.cell? ⟨w.heap.size + 1, 0, none⟩ = some (.int .i64 k) := by rw [Lib.cell_of_heap hR.b2]; rfl
      have d1 : wr.cell? ⟨w.heap.size + 1, 1, none⟩ = some (.slice at_ ts.length ct) := by rw [Lib.cell_of_heap hR.b2]; rfl
      have d2 : wr.cell? ⟨w.heap.size + 1, 2, none⟩ = some (.int .i64 fold) := by rw [Lib.cell_of_heap hR.b2]; rfl
      have d3 : wr.cell? ⟨w.heap.size + 1, 3, none⟩ = some (.slice ab body.length cb) := by rw [Lib.cell_of_heap hR.b2]; rfl
      have d4 : wr.cell? ⟨w.heap.size + 1, 4, none⟩ = some (.int .i64 vars) := by rw [Lib.cell_of_heap hR.b2]; rfl
      by_cases hjl : j < body.length
      · obtain ⟨b3, off3, rfl, p0, p1, p2, v, p3, hTv⟩ := plits_at hLA j hjl
        have HTV : Hid (PTermsV w v (Sc.litD body j).terms) := hTv
        obtain ⟨av, cv, rfl, _, _⟩ := hTv
        have q0 := cell_below hR.bel p0
        have q1 := cell_below hR.bel p1
        have q2 := cell_below hR.bel p2
        have q3 := cell_below hR.bel p3
        have HFD : Hid (Sc.first (Sc.litAll ar vars) body = Sc.thn (Sc.litAll ar vars (Sc.litD body j)) (Sc.first (Sc.litAll ar vars) (body.drop (j + 1)))) := HFJ.out.trans (Sc.first_drop _ _ _ j hjl)
        have HFI : Hid (LitFit (Sc.litD body j)) := HFB.out j hjl
        have hb1 : Below wr.heap.size wr (wr.alloc (.cells #[.int .i64 (Sc.litD body j).kind, .int .i64 (Sc.litD body j).op, .int .i64 (Sc.litD body j).pred, .slice av (Sc.litD body j).terms.length cv] 52)) := (Below.refl _ _).alloc (Nat.le_refl _) _
        have hlb := heap_alloc_new wr (.cells #[.int .i64 (Sc.litD body j).kind, .int .i64 (Sc.litD body j).op, .int .i64 (Sc.litD body j).pred, .slice av (Sc.litD body j).terms.length cv] 52)
        have hR1 := hR.below hb1
        clear p0 p1 p2 p3 hb1 HFJ hLA HL
        generalize hx : Sc.litD body j = x at *
        clear hx
        obtain ⟨kind, op, pd, xt⟩ := x
        simp only at *
        go_upto_region 21 with fail
        clear hR c1 d0 d1 d2 d3 d4 q0 q1 q2 q3
        generalize wr.alloc (.cells #[.int .i64 kind, .int .i64 op, .int .i64 pd, .slice av xt.length cv] 52) = wz at *
        generalize hLB : wr.heap.size = LB at *
        clear hLB
        have hR := hR1
        have c1 : wz.cell? ⟨w.heap.size, 0, none⟩ = some (.slice (some ⟨b, off, none⟩) ar.length cap) := by rw [Lib.cell_of_heap hR.b1]; rfl
        have d0 : wz.cell? ⟨w.heap.size + 1, 0, none⟩ = some (.int .i64 k) := by rw [Lib.cell_of_heap hR.b2]; rfl
        have d1 : wz.cell? ⟨w.heap.size + 1, 1, none⟩ = some (.slice at_ ts.length ct) := by rw [Lib.cell_of_heap hR.b2]; rfl
        have d2 : wz.cell? ⟨w.heap.size + 1, 2, none⟩ = some (.int .i64 fold) := by rw [Lib.cell_of_heap hR.b2]; rfl
        have d3 : wz.cell? ⟨w.heap.size + 1, 3, none⟩ = some (.slice (some ⟨b3, off3, none⟩) body.length cb) := by rw [Lib.cell_of_heap hR.b2]; rfl
        have d4 : wz.cell? ⟨w.heap.size + 1, 4, none⟩ = some (.int .i64 vars) := by rw [Lib.cell_of_heap hR.b2]; rfl
        clear hR
        have l0 : wz.cell? ⟨LB, 0, none⟩ = some (.int .i64 kind) := by rw [Lib.cell_of_heap hlb]; rfl
        have l1 : wz.cell? ⟨LB, 1, none⟩ = some (.int .i64 op) := by rw [Lib.cell_of_heap hlb]; rfl
        have l2 : wz.cell? ⟨LB, 2, none⟩ = some (.int .i64 pd) := by rw [Lib.cell_of_heap hlb]; rfl
        have l3 : wz.cell? ⟨LB, 3, none⟩ = some (.slice av xt.length cv) := by rw [Lib.cell_of_heap hlb]; rfl
        go_wp2_with fail
        refine (btw_any _ _ _ _).mono ?_
        rintro e w2 ⟨he, rfl⟩
        cases g9 : Tr.between kind 1 4
        · rw [g9] at he
          subst he
          have hkk : ¬ kind = 1 ∧ ¬ kind = 2 ∧ ¬ kind = 3 ∧ ¬ kind = 4 := by
            simp [Tr.between] at g9
            omega
          have HLE : Sc.litErr ar ⟨kind, op, pd, xt⟩ = 7 := by simp [Sc.litErr, hkk.1, hkk.2.1, hkk.2.2.1, hkk.2.2.2]
          have HV : Hid (Sc.ruleErr ar ⟨k, ts, fold, body, vars⟩ = 7) := by show _ = _; rw [HE0.out, HFD.out, Sc.litAll, HLE]; rfl
          clear HE0 HFD HLE
          go_wp2_with fail
          go_ret
          exact ⟨by rw [HV.out]; rfl, hR1.bel⟩
        rw [g9] at he
        subst he
        have hkk : kind = 1 ∨ kind = 2 ∨ kind = 3 ∨ kind = 4 := by
          simp [Tr.between] at g9
          omega
        clear g9
        rcases hkk with rfl | rfl | rfl | rfl
        · skip
          cases g3 : (op != 0)
          rotate_left
          · have h3 : ¬ op = 0 := by simpa using g3
            have HLE : Sc.litErr ar ⟨1, op, pd, xt⟩ = 3 := by rw [Sc.litErr, if_pos (by simp), if_pos h3]
            have HV : Hid (Sc.ruleErr ar ⟨k, ts, fold, body, vars⟩ = 3) := by show _ = _; rw [HE0.out, HFD.out, Sc.litAll, HLE]; rfl
            clear HE0 HFD HLE
            go_wp2_with fail
            go_ret
            exact ⟨by rw [HV.out]; rfl, hR1.bel⟩
          have h3 : op = 0 := by simpa using g3
          go_wp2_with fail
          refine (btw_any _ _ _ _).mono ?_
          rintro e w2 ⟨he, rfl⟩
          cases g4 : Sc.isPred ar pd
          · have hbt : Tr.between pd 0 ((ar.length : Int) - 1) = false := g4
            rw [hbt] at he
            subst he
            clear hbt
            have HLE : Sc.litErr ar ⟨1, op, pd, xt⟩ = 5 := by rw [Sc.litErr, if_pos (by simp), if_neg (by simpa using h3)]; simp only [g4]; rfl
            have HV : Hid (Sc.ruleErr ar ⟨k, ts, fold, body, vars⟩ = 5) := by show _ = _; rw [HE0.out, HFD.out, Sc.litAll, HLE]; rfl
            clear HE0 HFD HLE
            go_wp2_with fail
            go_ret
            exact ⟨by rw [HV.out]; rfl, hR1.bel⟩
          have hbt : Tr.between pd 0 ((ar.length : Int) - 1) = true := g4
          rw [hbt] at he
          subst he
          clear hbt
          obtain ⟨kp, rfl, hkp⟩ := nat_of g4
          have hq := ints_cell HA2.out kp hkp hR1.bel
          have HL1 : Sc.litErr ar ⟨1, op, kp, xt⟩ = if (xt.length : Int) ≠ Sc.intD ar kp then 1 else 0 := by
            rw [Sc.litErr, if_pos (by simp), if_neg (by simpa using h3)]
            simp only [g4]
            rfl
          go_upto_region 28 with fail
          cases g5 : ((xt.length : Int) != Sc.intD ar kp)
          · have h5 : (xt.length : Int) = Sc.intD ar kp := by simpa using g5
            have HL0 : Sc.litErr ar ⟨1, op, kp, xt⟩ = 0 := by rw [HL1, if_neg (by simp [h5])]
            clear HL1 h5
            go_region_held3 (fun y => y.cell? ⟨w.heap.size, 0, none⟩ = some (.slice (some ⟨b, off, none⟩) ar.length cap) ∧ y.cell? ⟨LB, 2, none⟩ = some (.int .i64 kp) ∧ y.cell? ⟨LB, 3, none⟩ = some (.slice av xt.length cv) ∧ y.cell? ⟨b, off + kp, none⟩ = some (.int .i64 (Sc.intD ar kp))) (go_keep) (fail)
            have hRd := hR1.drew
            have hld := (show w2.drew.heap[LB]? = _ from hlb)
            clear c1 d0 d1 d2 d3 d4 hq l0 l1 l2 l3 hlb hR1
            generalize w2.drew = wy at *
            have l3 : wy.cell? ⟨LB, 3, none⟩ = some (.slice av xt.length cv) := by rw [Lib.cell_of_heap hld]; rfl
            have d4 : wy.cell? ⟨w.heap.size + 1, 4, none⟩ = some (.int .i64 vars) := by rw [Lib.cell_of_heap hRd.b2]; rfl
            have HLE : Sc.litErr ar ⟨1, op, kp, xt⟩ = 0 := by exact HL0
            go_wp2_with fail
            refine Calls.mono (rpTerms_any xt vars _ _ ⟨by omega, by omega⟩ HFI.out (ptermsV_below HTV.out hRd.bel)) ?_
            rintro e w5 ⟨rfl, rfl⟩
            by_cases h10 : Sc.termsErr vars xt = 0
            rotate_left
            · have g10 : (Sc.termsErr vars xt != 0) = true := by simpa using h10
              have HV : Hid (Sc.ruleErr ar ⟨k, ts, fold, body, vars⟩ = Sc.termsErr vars xt) := by show _ = _; rw [HE0.out, HFD.out, Sc.litAll, HLE, Sc.thn_zero, Sc.thn_ne _ h10, Sc.thn_ne _ h10]
              clear HE0 HFD HLE
              go_wp2_with fail
              go_ret
              exact ⟨by rw [HV.out]; rfl, hRd.bel⟩
            have g10 : (Sc.termsErr vars xt != 0) = false := by simpa using h10
            have HV : Hid (Sc.first (Sc.litAll ar vars) body = Sc.first (Sc.litAll ar vars) (body.drop (j + 1))) := by show _ = _; rw [HFD.out, Sc.litAll, HLE, Sc.thn_zero, h10, Sc.thn_zero]
            clear HFD HLE
            rw [h10]
            go_wp2_with fail
            go_roundw
            case rel => exact ⟨j + 1, by omega, by go_num, hRd, HV.out⟩
            case measure => simp [intOf]; omega
          · have h5 : ¬ (xt.length : Int) = Sc.intD ar kp := by simpa using g5
            have HL0 : Sc.litErr ar ⟨1, op, kp, xt⟩ = 1 := by rw [HL1, if_pos h5]
            clear HL1 h5
            have HV : Hid (Sc.ruleErr ar ⟨k, ts, fold, body, vars⟩ = 1) := by show _ = _; rw [HE0.out, HFD.out, Sc.litAll, HL0]; rfl
            clear HE0 HFD HL0
            go_region_held3 (fun y => y.cell? ⟨w.heap.size, 0, none⟩ = some (.slice (some ⟨b, off, none⟩) ar.length cap) ∧ y.cell? ⟨LB, 2, none⟩ = some (.int .i64 kp) ∧ y.cell? ⟨LB, 3, none⟩ = some (.slice av xt.length cv) ∧ y.cell? ⟨b, off + kp, none⟩ = some (.int .i64 (Sc.intD ar kp))) (go_keep) (fail)
            have hbd := hR1.bel.drew
            go_wp2_with fail
            go_ret
            exact ⟨by rw [HV.out]; rfl, hbd⟩
        · skip
          cases g3 : (op != 0)
          rotate_left
          · have h3 : ¬ op = 0 := by simpa using g3
            have HLE : Sc.litErr ar ⟨2, op, pd, xt⟩ = 3 := by rw [Sc.litErr, if_pos (by simp), if_pos h3]
            have HV : Hid (Sc.ruleErr ar ⟨k, ts, fold, body, vars⟩ = 3) := by show _ = _; rw [HE0.out, HFD.out, Sc.litAll, HLE]; rfl
            clear HE0 HFD HLE
            go_wp2_with fail
            go_ret
            exact ⟨by rw [HV.out]; rfl, hR1.bel⟩
          have h3 : op = 0 := by simpa using g3
          go_wp2_with fail
          refine (btw_any _ _ _ _).mono ?_
          rintro e w2 ⟨he, rfl⟩
          cases g4 : Sc.isPred ar pd
          · have hbt : Tr.between pd 0 ((ar.length : Int) - 1) = false := g4
            rw [hbt] at he
            subst he
            clear hbt
            have HLE : Sc.litErr ar ⟨2, op, pd, xt⟩ = 5 := by rw [Sc.litErr, if_pos (by simp), if_neg (by simpa using h3)]; simp only [g4]; rfl
            have HV : Hid (Sc.ruleErr ar ⟨k, ts, fold, body, vars⟩ = 5) := by show _ = _; rw [HE0.out, HFD.out, Sc.litAll, HLE]; rfl
            clear HE0 HFD HLE
            go_wp2_with fail
            go_ret
            exact ⟨by rw [HV.out]; rfl, hR1.bel⟩
          have hbt : Tr.between pd 0 ((ar.length : Int) - 1) = true := g4
          rw [hbt] at he
          subst he
          clear hbt
          obtain ⟨kp, rfl, hkp⟩ := nat_of g4
          have hq := ints_cell HA2.out kp hkp hR1.bel
          have HL1 : Sc.litErr ar ⟨2, op, kp, xt⟩ = if (xt.length : Int) ≠ Sc.intD ar kp then 1 else 0 := by
            rw [Sc.litErr, if_pos (by simp), if_neg (by simpa using h3)]
            simp only [g4]
            rfl
          go_upto_region 28 with fail
          cases g5 : ((xt.length : Int) != Sc.intD ar kp)
          · have h5 : (xt.length : Int) = Sc.intD ar kp := by simpa using g5
            have HL0 : Sc.litErr ar ⟨2, op, kp, xt⟩ = 0 := by rw [HL1, if_neg (by simp [h5])]
            clear HL1 h5
            go_region_held3 (fun y => y.cell? ⟨w.heap.size, 0, none⟩ = some (.slice (some ⟨b, off, none⟩) ar.length cap) ∧ y.cell? ⟨LB, 2, none⟩ = some (.int .i64 kp) ∧ y.cell? ⟨LB, 3, none⟩ = some (.slice av xt.length cv) ∧ y.cell? ⟨b, off + kp, none⟩ = some (.int .i64 (Sc.intD ar kp))) (go_keep) (fail)
            have hRd := hR1.drew
            have hld := (show w2.drew.heap[LB]? = _ from hlb)
            clear c1 d0 d1 d2 d3 d4 hq l0 l1 l2 l3 hlb hR1
            generalize w2.drew = wy at *
            have l3 : wy.cell? ⟨LB, 3, none⟩ = some (.slice av xt.length cv) := by rw [Lib.cell_of_heap hld]; rfl
            have d4 : wy.cell? ⟨w.heap.size + 1, 4, none⟩ = some (.int .i64 vars) := by rw [Lib.cell_of_heap hRd.b2]; rfl
            have HLE : Sc.litErr ar ⟨2, op, kp, xt⟩ = 0 := by exact HL0
            go_wp2_with fail
            refine Calls.mono (rpTerms_any xt vars _ _ ⟨by omega, by omega⟩ HFI.out (ptermsV_below HTV.out hRd.bel)) ?_
            rintro e w5 ⟨rfl, rfl⟩
            by_cases h10 : Sc.termsErr vars xt = 0
            rotate_left
            · have g10 : (Sc.termsErr vars xt != 0) = true := by simpa using h10
              have HV : Hid (Sc.ruleErr ar ⟨k, ts, fold, body, vars⟩ = Sc.termsErr vars xt) := by show _ = _; rw [HE0.out, HFD.out, Sc.litAll, HLE, Sc.thn_zero, Sc.thn_ne _ h10, Sc.thn_ne _ h10]
              clear HE0 HFD HLE
              go_wp2_with fail
              go_ret
              exact ⟨by rw [HV.out]; rfl, hRd.bel⟩
            have g10 : (Sc.termsErr vars xt != 0) = false := by simpa using h10
            have HV : Hid (Sc.first (Sc.litAll ar vars) body = Sc.first (Sc.litAll ar vars) (body.drop (j + 1))) := by show _ = _; rw [HFD.out, Sc.litAll, HLE, Sc.thn_zero, h10, Sc.thn_zero]
            clear HFD HLE
            rw [h10]
            go_wp2_with fail
            go_roundw
            case rel => exact ⟨j + 1, by omega, by go_num, hRd, HV.out⟩
            case measure => simp [intOf]; omega
          · have h5 : ¬ (xt.length : Int) = Sc.intD ar kp := by simpa using g5
            have HL0 : Sc.litErr ar ⟨2, op, kp, xt⟩ = 1 := by rw [HL1, if_pos h5]
            clear HL1 h5
            have HV : Hid (Sc.ruleErr ar ⟨k, ts, fold, body, vars⟩ = 1) := by show _ = _; rw [HE0.out, HFD.out, Sc.litAll, HL0]; rfl
            clear HE0 HFD HL0
            go_region_held3 (fun y => y.cell? ⟨w.heap.size, 0, none⟩ = some (.slice (some ⟨b, off, none⟩) ar.length cap) ∧ y.cell? ⟨LB, 2, none⟩ = some (.int .i64 kp) ∧ y.cell? ⟨LB, 3, none⟩ = some (.slice av xt.length cv) ∧ y.cell? ⟨b, off + kp, none⟩ = some (.int .i64 (Sc.intD ar kp))) (go_keep) (fail)
            have hbd := hR1.bel.drew
            go_wp2_with fail
            go_ret
            exact ⟨by rw [HV.out]; rfl, hbd⟩
        · skip
          go_wp2_with fail
          refine (btw_any _ _ _ _).mono ?_
          rintro e w2 ⟨he, rfl⟩
          cases g3 : Tr.between op 1 4
          · rw [g3] at he
            subst he
            have HLE : Sc.litErr ar ⟨3, op, pd, xt⟩ = 3 := by rw [Sc.litErr, if_neg (by simp), if_pos rfl]; simp only [g3]; rfl
            have HV : Hid (Sc.ruleErr ar ⟨k, ts, fold, body, vars⟩ = 3) := by show _ = _; rw [HE0.out, HFD.out, Sc.litAll, HLE]; rfl
            clear HE0 HFD HLE
            go_wp2_with fail
            go_ret
            exact ⟨by rw [HV.out]; rfl, hR1.bel⟩
          rw [g3] at he
          subst he
          cases g4 : (pd != 0)
          rotate_left
          · have h4 : ¬ pd = 0 := by simpa using g4
            have HLE : Sc.litErr ar ⟨3, op, pd, xt⟩ = 1 := by rw [Sc.litErr, if_neg (by simp), if_pos rfl]; simp only [g3]; simp [h4]
            have HV : Hid (Sc.ruleErr ar ⟨k, ts, fold, body, vars⟩ = 1) := by show _ = _; rw [HE0.out, HFD.out, Sc.litAll, HLE]; rfl
            clear HE0 HFD HLE
            go_wp2_with fail
            go_ret
            exact ⟨by rw [HV.out]; rfl, hR1.bel⟩
          have h4 : pd = 0 := by simpa using g4
          by_cases h5 : xt.length = 2
          rotate_left
          · have g5 : ((xt.length : Int) != 2) = true := by simp; omega
            have HLE : Sc.litErr ar ⟨3, op, pd, xt⟩ = 1 := by rw [Sc.litErr, if_neg (by simp), if_pos rfl]; simp only [g3]; simp [h5]
            have HV : Hid (Sc.ruleErr ar ⟨k, ts, fold, body, vars⟩ = 1) := by show _ = _; rw [HE0.out, HFD.out, Sc.litAll, HLE]; rfl
            clear HE0 HFD HLE
            go_wp2_with fail
            go_ret
            exact ⟨by rw [HV.out]; rfl, hR1.bel⟩
          have g5 : ((xt.length : Int) != 2) = false := by rw [h5]; rfl
          have HL0 : Sc.litErr ar ⟨3, op, pd, xt⟩ = 0 := by rw [Sc.litErr, if_neg (by simp), if_pos rfl]; simp only [g3]; simp [h4, h5]
          clear h4 h5
          have HLE : Sc.litErr ar ⟨3, op, pd, xt⟩ = 0 := by exact HL0
          go_wp2_with fail
          refine Calls.mono (rpTerms_any xt vars _ _ ⟨by omega, by omega⟩ HFI.out (ptermsV_below HTV.out hR1.bel)) ?_
          rintro e w5 ⟨rfl, rfl⟩
          by_cases h10 : Sc.termsErr vars xt = 0
          rotate_left
          · have g10 : (Sc.termsErr vars xt != 0) = true := by simpa using h10
            have HV : Hid (Sc.ruleErr ar ⟨k, ts, fold, body, vars⟩ = Sc.termsErr vars xt) := by show _ = _; rw [HE0.out, HFD.out, Sc.litAll, HLE, Sc.thn_zero, Sc.thn_ne _ h10, Sc.thn_ne _ h10]
            clear HE0 HFD HLE
            go_wp2_with fail
            go_ret
            exact ⟨by rw [HV.out]; rfl, hR1.bel⟩
          have g10 : (Sc.termsErr vars xt != 0) = false := by simpa using h10
          have HV : Hid (Sc.first (Sc.litAll ar vars) body = Sc.first (Sc.litAll ar vars) (body.drop (j + 1))) := by show _ = _; rw [HFD.out, Sc.litAll, HLE, Sc.thn_zero, h10, Sc.thn_zero]
          clear HFD HLE
          rw [h10]
          go_wp2_with fail
          go_roundw
          case rel => exact ⟨j + 1, by omega, by go_num, hR1, HV.out⟩
          case measure => simp [intOf]; omega
        · skip
          go_wp2_with fail
          refine (btw_any _ _ _ _).mono ?_
          rintro e w2 ⟨he, rfl⟩
          cases g3 : Tr.between op 5 7
          · rw [g3] at he
            subst he
            have HLE : Sc.litErr ar ⟨4, op, pd, xt⟩ = 3 := by rw [Sc.litErr, if_neg (by simp), if_neg (by simp), if_pos rfl]; simp only [g3]; rfl
            have HV : Hid (Sc.ruleErr ar ⟨k, ts, fold, body, vars⟩ = 3) := by show _ = _; rw [HE0.out, HFD.out, Sc.litAll, HLE]; rfl
            clear HE0 HFD HLE
            go_wp2_with fail
            go_ret
            exact ⟨by rw [HV.out]; rfl, hR1.bel⟩
          rw [g3] at he
          subst he
          cases g4 : (pd != 0)
          rotate_left
          · have h4 : ¬ pd = 0 := by simpa using g4
            have HLE : Sc.litErr ar ⟨4, op, pd, xt⟩ = 1 := by rw [Sc.litErr, if_neg (by simp), if_neg (by simp), if_pos rfl]; simp only [g3]; simp [h4]
            have HV : Hid (Sc.ruleErr ar ⟨k, ts, fold, body, vars⟩ = 1) := by show _ = _; rw [HE0.out, HFD.out, Sc.litAll, HLE]; rfl
            clear HE0 HFD HLE
            go_wp2_with fail
            go_ret
            exact ⟨by rw [HV.out]; rfl, hR1.bel⟩
          have h4 : pd = 0 := by simpa using g4
          by_cases h5 : xt.length = 3
          rotate_left
          · have g5 : ((xt.length : Int) != 3) = true := by simp; omega
            have HLE : Sc.litErr ar ⟨4, op, pd, xt⟩ = 1 := by rw [Sc.litErr, if_neg (by simp), if_neg (by simp), if_pos rfl]; simp only [g3]; simp [h5]
            have HV : Hid (Sc.ruleErr ar ⟨k, ts, fold, body, vars⟩ = 1) := by show _ = _; rw [HE0.out, HFD.out, Sc.litAll, HLE]; rfl
            clear HE0 HFD HLE
            go_wp2_with fail
            go_ret
            exact ⟨by rw [HV.out]; rfl, hR1.bel⟩
          have g5 : ((xt.length : Int) != 3) = false := by rw [h5]; rfl
          have HL0 : Sc.litErr ar ⟨4, op, pd, xt⟩ = 0 := by rw [Sc.litErr, if_neg (by simp), if_neg (by simp), if_pos rfl]; simp only [g3]; simp [h4, h5]
          clear h4 h5
          have HLE : Sc.litErr ar ⟨4, op, pd, xt⟩ = 0 := by exact HL0
          go_wp2_with fail
          refine Calls.mono (rpTerms_any xt vars _ _ ⟨by omega, by omega⟩ HFI.out (ptermsV_below HTV.out hR1.bel)) ?_
          rintro e w5 ⟨rfl, rfl⟩
          by_cases h10 : Sc.termsErr vars xt = 0
          rotate_left
          · have g10 : (Sc.termsErr vars xt != 0) = true := by simpa using h10
            have HV : Hid (Sc.ruleErr ar ⟨k, ts, fold, body, vars⟩ = Sc.termsErr vars xt) := by show _ = _; rw [HE0.out, HFD.out, Sc.litAll, HLE, Sc.thn_zero, Sc.thn_ne _ h10, Sc.thn_ne _ h10]
            clear HE0 HFD HLE
            go_wp2_with fail
            go_ret
            exact ⟨by rw [HV.out]; rfl, hR1.bel⟩
          have g10 : (Sc.termsErr vars xt != 0) = false := by simpa using h10
          have HV : Hid (Sc.first (Sc.litAll ar vars) body = Sc.first (Sc.litAll ar vars) (body.drop (j + 1))) := by show _ = _; rw [HFD.out, Sc.litAll, HLE, Sc.thn_zero, h10, Sc.thn_zero]
          clear HFD HLE
          rw [h10]
          go_wp2_with fail
          go_roundw
          case rel => exact ⟨j + 1, by omega, by go_num, hR1, HV.out⟩
          case measure => simp [intOf]; omega
      · have hz : Sc.first (Sc.litAll ar vars) body = 0 := by rw [HFJ.out, List.drop_of_length_le (by omega)]; rfl
        have hgood : RuleGood ⟨k, ts, fold, body, vars⟩ := ⟨by show 0 ≤ vars; omega, by show vars ≤ 8; omega, by show body.length ≤ 4; omega, fun i hi => lit_good (first_zero hz _ (litD_mem hi)) (by show 0 ≤ vars; omega) (HFB.out i hi)⟩
        rw [hz, Sc.thn_zero] at HE0
        clear HFJ hz hLA
        go_wp2_with fail
        refine Calls.mono (rpSafe_any ⟨k, ts, fold, body, vars⟩ _ _ _ (plitsV_below HL.out hR.bel) hgood) ?_
        rintro e w2 ⟨he, hb2⟩
        have hbb := hR.bel.trans (hb2.mono hR.bel.size)
        cases h11 : Sc.safe ⟨k, ts, fold, body, vars⟩
        · rw [h11] at he HE0
          subst he
          have HV : Hid (Sc.ruleErr ar ⟨k, ts, fold, body, vars⟩ = 4) := by show _ = _; rw [HE0.out]; rfl
          clear HE0 hgood h11
          go_wp2_with fail
          go_ret
          exact ⟨by rw [HV.out]; rfl, hbb⟩
        · rw [h11] at he HE0
          subst he
          have HV : Hid (Sc.ruleErr ar ⟨k, ts, fold, body, vars⟩ = 0) := by show _ = _; rw [HE0.out]; rfl
          clear HE0 hgood h11
          go_wp2_with fail
          go_ret
          exact ⟨by rw [HV.out]; rfl, hbb⟩

end Go.Proofs.Ythenjegmigeieaa

/- The document's answer: is a text just one token of a kind? -/
namespace Go.Proofs.Ythenjegmigeieaa
open Go.RowKit

set_option maxRecDepth 100000 in
set_option maxHeartbeats 400000 in
theorem refTok_empty (k : Int) (w : World) : Calls Try.prog 29 #[.int .i64 k, .string ⟨#[]⟩] w fun e w' => e = .returned (.bool false) ∧ w' = w := by
  go_enter Try.func29, Try.ntmps29
  go_wp2_with fail
  go_ret
  exact ⟨rfl, rfl⟩

set_option maxRecDepth 100000 in
set_option maxHeartbeats 400000 in
theorem refTok_long (k : Int) (s : ByteArray) (w : World) (h0 : s.toList.isEmpty = false) (hs : 5000 < s.size) : Calls Try.prog 29 #[.int .i64 k, .string s] w fun e w' => e = .returned (.bool false) ∧ w' = w := by
  go_enter Try.func29, Try.ntmps29
  go_wp2_with fail
  go_ret
  exact ⟨rfl, rfl⟩

set_option maxRecDepth 100000 in
set_option maxHeartbeats 400000 in
theorem refTok_zero (s : ByteArray) (w : World) (h0 : s.toList.isEmpty = false) (hs : s.size ≤ 5000) : Calls Try.prog 29 #[.int .i64 0, .string s] w fun e w' => e = .returned (.bool false) ∧ w' = w := by
  have hd : decide ((5000 : Int) < (s.size : Int)) = false := by simp; omega
  go_enter Try.func29, Try.ntmps29
  go_wp2_with fail
  go_ret
  exact ⟨rfl, rfl⟩

set_option maxRecDepth 100000 in
set_option maxHeartbeats 1000000 in
theorem refTok_off (s : ByteArray) (w : World) (h0 : s.toList.isEmpty = false) (hs : s.size ≤ 5000) (hpos : 0 < s.size) (k K : Int) (hk : (k == 0) = false) (g1 : (K == k) = false) (hR : refKind s.data.toList = K) :
    Calls Try.prog 29 #[.int .i64 k, .string s] w fun e w' => e = .returned (.bool false) ∧ w' = w := by
  have hd5 : decide ((5000 : Int) < (s.size : Int)) = false := by simp; omega
  have HA : Hid (Calls Try.prog 39 #[.string s, .int .i64 0] w fun e w' => e = .returned (.tuple #[.int .i64 K, .int .i64 (Tk.lenOf s.data.toList : Nat)]) ∧ w' = w) := by
    have h := refAt_any s 0 w (by omega) hpos
    rw [List.drop_zero, hR] at h
    exact h
  clear hR
  go_enter Try.func29, Try.ntmps29
  go_wp2_with fail
  refine Calls.mono HA.out ?_
  rintro e w1 ⟨rfl, rfl⟩
  go_wp2_with fail
  go_ret
  exact ⟨rfl, rfl⟩

set_option maxRecDepth 100000 in
set_option maxHeartbeats 1000000 in
theorem refTok_part (s : ByteArray) (w : World) (h0 : s.toList.isEmpty = false) (hs : s.size ≤ 5000) (hpos : 0 < s.size) (k K : Int) (hk : (k == 0) = false) (g1 : (K == k) = true) (g2 : ((Tk.lenOf s.data.toList : Int) == (s.size : Int)) = false) (hR : refKind s.data.toList = K) :
    Calls Try.prog 29 #[.int .i64 k, .string s] w fun e w' => e = .returned (.bool false) ∧ w' = w := by
  have hd5 : decide ((5000 : Int) < (s.size : Int)) = false := by simp; omega
  have HA : Hid (Calls Try.prog 39 #[.string s, .int .i64 0] w fun e w' => e = .returned (.tuple #[.int .i64 K, .int .i64 (Tk.lenOf s.data.toList : Nat)]) ∧ w' = w) := by
    have h := refAt_any s 0 w (by omega) hpos
    rw [List.drop_zero, hR] at h
    exact h
  clear hR
  go_enter Try.func29, Try.ntmps29
  go_wp2_with fail
  refine Calls.mono HA.out ?_
  rintro e w1 ⟨rfl, rfl⟩
  go_wp2_with fail
  go_ret
  exact ⟨rfl, rfl⟩

set_option maxRecDepth 100000 in
set_option maxHeartbeats 1000000 in
theorem refTok_long1 (s : ByteArray) (w : World) (h0 : s.toList.isEmpty = false) (hs : s.size ≤ 5000) (hpos : 0 < s.size) (g2 : ((Tk.lenOf s.data.toList : Int) == (s.size : Int)) = true) (hl : 12 < Tk.lenOf s.data.toList) (hR : refKind s.data.toList = 1) :
    Calls Try.prog 29 #[.int .i64 1, .string s] w fun e w' => e = .returned (.bool false) ∧ w' = w := by
  have hd5 : decide ((5000 : Int) < (s.size : Int)) = false := by simp; omega
  have HA : Hid (Calls Try.prog 39 #[.string s, .int .i64 0] w fun e w' => e = .returned (.tuple #[.int .i64 1, .int .i64 (Tk.lenOf s.data.toList : Nat)]) ∧ w' = w) := by
    have h := refAt_any s 0 w (by omega) hpos
    rw [List.drop_zero, hR] at h
    exact h
  clear hR
  have hd12 : decide ((12 : Int) < ((Tk.lenOf s.data.toList : Nat) : Int)) = true := by simp; omega
  go_enter Try.func29, Try.ntmps29
  go_wp2_with fail
  refine Calls.mono HA.out ?_
  rintro e w1 ⟨rfl, rfl⟩
  go_wp2_with fail
  go_ret
  exact ⟨rfl, rfl⟩

set_option maxRecDepth 100000 in
set_option maxHeartbeats 1000000 in
theorem refTok_yes1 (s : ByteArray) (w : World) (h0 : s.toList.isEmpty = false) (hs : s.size ≤ 5000) (hpos : 0 < s.size) (g2 : ((Tk.lenOf s.data.toList : Int) == (s.size : Int)) = true) (hl : Tk.lenOf s.data.toList ≤ 12) (hR : refKind s.data.toList = 1) :
    Calls Try.prog 29 #[.int .i64 1, .string s] w fun e w' => e = .returned (.bool true) ∧ w' = w := by
  have hd5 : decide ((5000 : Int) < (s.size : Int)) = false := by simp; omega
  have HA : Hid (Calls Try.prog 39 #[.string s, .int .i64 0] w fun e w' => e = .returned (.tuple #[.int .i64 1, .int .i64 (Tk.lenOf s.data.toList : Nat)]) ∧ w' = w) := by
    have h := refAt_any s 0 w (by omega) hpos
    rw [List.drop_zero, hR] at h
    exact h
  clear hR
  have hd12 : decide ((12 : Int) < ((Tk.lenOf s.data.toList : Nat) : Int)) = false := by simp; omega
  go_enter Try.func29, Try.ntmps29
  go_wp2_with fail
  refine Calls.mono HA.out ?_
  rintro e w1 ⟨rfl, rfl⟩
  go_wp2_with fail
  go_ret
  exact ⟨rfl, rfl⟩

set_option maxRecDepth 100000 in
set_option maxHeartbeats 1000000 in
theorem refTok_long2 (s : ByteArray) (w : World) (h0 : s.toList.isEmpty = false) (hs : s.size ≤ 5000) (hpos : 0 < s.size) (g2 : ((Tk.lenOf s.data.toList : Int) == (s.size : Int)) = true) (hl : 12 < Tk.lenOf s.data.toList) (hR : refKind s.data.toList = 2) :
    Calls Try.prog 29 #[.int .i64 2, .string s] w fun e w' => e = .returned (.bool false) ∧ w' = w := by
  have hd5 : decide ((5000 : Int) < (s.size : Int)) = false := by simp; omega
  have HA : Hid (Calls Try.prog 39 #[.string s, .int .i64 0] w fun e w' => e = .returned (.tuple #[.int .i64 2, .int .i64 (Tk.lenOf s.data.toList : Nat)]) ∧ w' = w) := by
    have h := refAt_any s 0 w (by omega) hpos
    rw [List.drop_zero, hR] at h
    exact h
  clear hR
  have hd12 : decide ((12 : Int) < ((Tk.lenOf s.data.toList : Nat) : Int)) = true := by simp; omega
  go_enter Try.func29, Try.ntmps29
  go_wp2_with fail
  refine Calls.mono HA.out ?_
  rintro e w1 ⟨rfl, rfl⟩
  go_wp2_with fail
  go_ret
  exact ⟨rfl, rfl⟩

set_option maxRecDepth 100000 in
set_option maxHeartbeats 1000000 in
theorem refTok_yes2 (s : ByteArray) (w : World) (h0 : s.toList.isEmpty = false) (hs : s.size ≤ 5000) (hpos : 0 < s.size) (g2 : ((Tk.lenOf s.data.toList : Int) == (s.size : Int)) = true) (hl : Tk.lenOf s.data.toList ≤ 12) (hR : refKind s.data.toList = 2) :
    Calls Try.prog 29 #[.int .i64 2, .string s] w fun e w' => e = .returned (.bool true) ∧ w' = w := by
  have hd5 : decide ((5000 : Int) < (s.size : Int)) = false := by simp; omega
  have HA : Hid (Calls Try.prog 39 #[.string s, .int .i64 0] w fun e w' => e = .returned (.tuple #[.int .i64 2, .int .i64 (Tk.lenOf s.data.toList : Nat)]) ∧ w' = w) := by
    have h := refAt_any s 0 w (by omega) hpos
    rw [List.drop_zero, hR] at h
    exact h
  clear hR
  have hd12 : decide ((12 : Int) < ((Tk.lenOf s.data.toList : Nat) : Int)) = false := by simp; omega
  go_enter Try.func29, Try.ntmps29
  go_wp2_with fail
  refine Calls.mono HA.out ?_
  rintro e w1 ⟨rfl, rfl⟩
  go_wp2_with fail
  go_ret
  exact ⟨rfl, rfl⟩

set_option maxRecDepth 100000 in
set_option maxHeartbeats 1000000 in
theorem refTok_long3 (s : ByteArray) (w : World) (h0 : s.toList.isEmpty = false) (hs : s.size ≤ 5000) (hpos : 0 < s.size) (g2 : ((Tk.lenOf s.data.toList : Int) == (s.size : Int)) = true) (hl : 7 < Tk.lenOf s.data.toList) (hR : refKind s.data.toList = 3) :
    Calls Try.prog 29 #[.int .i64 3, .string s] w fun e w' => e = .returned (.bool false) ∧ w' = w := by
  have hd5 : decide ((5000 : Int) < (s.size : Int)) = false := by simp; omega
  have HA : Hid (Calls Try.prog 39 #[.string s, .int .i64 0] w fun e w' => e = .returned (.tuple #[.int .i64 3, .int .i64 (Tk.lenOf s.data.toList : Nat)]) ∧ w' = w) := by
    have h := refAt_any s 0 w (by omega) hpos
    rw [List.drop_zero, hR] at h
    exact h
  clear hR
  have hd7 : decide ((7 : Int) < ((Tk.lenOf s.data.toList : Nat) : Int)) = true := by simp; omega
  go_enter Try.func29, Try.ntmps29
  go_wp2_with fail
  refine Calls.mono HA.out ?_
  rintro e w1 ⟨rfl, rfl⟩
  go_wp2_with fail
  go_ret
  exact ⟨rfl, rfl⟩

set_option maxRecDepth 100000 in
set_option maxHeartbeats 1000000 in
theorem refTok_form3 (s : ByteArray) (w : World) (h0 : s.toList.isEmpty = false) (hs : s.size ≤ 5000) (hpos : 0 < s.size) (g2 : ((Tk.lenOf s.data.toList : Int) == (s.size : Int)) = true) (hl : Tk.lenOf s.data.toList ≤ 7) (hl1 : 1 < Tk.lenOf s.data.toList) (h48 : ((s[0].toNat : Int) == 48) = true) (hR : refKind s.data.toList = 3) :
    Calls Try.prog 29 #[.int .i64 3, .string s] w fun e w' => e = .returned (.bool false) ∧ w' = w := by
  have hd5 : decide ((5000 : Int) < (s.size : Int)) = false := by simp; omega
  have HA : Hid (Calls Try.prog 39 #[.string s, .int .i64 0] w fun e w' => e = .returned (.tuple #[.int .i64 3, .int .i64 (Tk.lenOf s.data.toList : Nat)]) ∧ w' = w) := by
    have h := refAt_any s 0 w (by omega) hpos
    rw [List.drop_zero, hR] at h
    exact h
  clear hR
  have hd7 : decide ((7 : Int) < ((Tk.lenOf s.data.toList : Nat) : Int)) = false := by simp; omega
  have hd1 : decide ((1 : Int) < ((Tk.lenOf s.data.toList : Nat) : Int)) = true := by simp; omega
  go_enter Try.func29, Try.ntmps29
  go_wp2_with fail
  refine Calls.mono HA.out ?_
  rintro e w1 ⟨rfl, rfl⟩
  go_wp2_with fail
  go_ret
  exact ⟨rfl, rfl⟩

set_option maxRecDepth 100000 in
set_option maxHeartbeats 1000000 in
theorem refTok_yes3a (s : ByteArray) (w : World) (h0 : s.toList.isEmpty = false) (hs : s.size ≤ 5000) (hpos : 0 < s.size) (g2 : ((Tk.lenOf s.data.toList : Int) == (s.size : Int)) = true) (hl1 : Tk.lenOf s.data.toList ≤ 1) (hR : refKind s.data.toList = 3) :
    Calls Try.prog 29 #[.int .i64 3, .string s] w fun e w' => e = .returned (.bool true) ∧ w' = w := by
  have hd5 : decide ((5000 : Int) < (s.size : Int)) = false := by simp; omega
  have HA : Hid (Calls Try.prog 39 #[.string s, .int .i64 0] w fun e w' => e = .returned (.tuple #[.int .i64 3, .int .i64 (Tk.lenOf s.data.toList : Nat)]) ∧ w' = w) := by
    have h := refAt_any s 0 w (by omega) hpos
    rw [List.drop_zero, hR] at h
    exact h
  clear hR
  have hd7 : decide ((7 : Int) < ((Tk.lenOf s.data.toList : Nat) : Int)) = false := by simp; omega
  have hd1 : decide ((1 : Int) < ((Tk.lenOf s.data.toList : Nat) : Int)) = false := by simp; omega
  go_enter Try.func29, Try.ntmps29
  go_wp2_with fail
  refine Calls.mono HA.out ?_
  rintro e w1 ⟨rfl, rfl⟩
  go_wp2_with fail
  go_ret
  exact ⟨rfl, rfl⟩

set_option maxRecDepth 100000 in
set_option maxHeartbeats 1000000 in
theorem refTok_yes3b (s : ByteArray) (w : World) (h0 : s.toList.isEmpty = false) (hs : s.size ≤ 5000) (hpos : 0 < s.size) (g2 : ((Tk.lenOf s.data.toList : Int) == (s.size : Int)) = true) (hl : Tk.lenOf s.data.toList ≤ 7) (hl1 : 1 < Tk.lenOf s.data.toList) (h48 : ((s[0].toNat : Int) == 48) = false) (hR : refKind s.data.toList = 3) :
    Calls Try.prog 29 #[.int .i64 3, .string s] w fun e w' => e = .returned (.bool true) ∧ w' = w := by
  have hd5 : decide ((5000 : Int) < (s.size : Int)) = false := by simp; omega
  have HA : Hid (Calls Try.prog 39 #[.string s, .int .i64 0] w fun e w' => e = .returned (.tuple #[.int .i64 3, .int .i64 (Tk.lenOf s.data.toList : Nat)]) ∧ w' = w) := by
    have h := refAt_any s 0 w (by omega) hpos
    rw [List.drop_zero, hR] at h
    exact h
  clear hR
  have hd7 : decide ((7 : Int) < ((Tk.lenOf s.data.toList : Nat) : Int)) = false := by simp; omega
  have hd1 : decide ((1 : Int) < ((Tk.lenOf s.data.toList : Nat) : Int)) = true := by simp; omega
  go_enter Try.func29, Try.ntmps29
  go_wp2_with fail
  refine Calls.mono HA.out ?_
  rintro e w1 ⟨rfl, rfl⟩
  go_wp2_with fail
  go_ret
  exact ⟨rfl, rfl⟩

set_option maxRecDepth 100000 in
set_option maxHeartbeats 1000000 in
theorem refTok_yes4 (s : ByteArray) (w : World) (h0 : s.toList.isEmpty = false) (hs : s.size ≤ 5000) (hpos : 0 < s.size) (g2 : ((Tk.lenOf s.data.toList : Int) == (s.size : Int)) = true) (hR : refKind s.data.toList = 4) :
    Calls Try.prog 29 #[.int .i64 4, .string s] w fun e w' => e = .returned (.bool true) ∧ w' = w := by
  have hd5 : decide ((5000 : Int) < (s.size : Int)) = false := by simp; omega
  have HA : Hid (Calls Try.prog 39 #[.string s, .int .i64 0] w fun e w' => e = .returned (.tuple #[.int .i64 4, .int .i64 (Tk.lenOf s.data.toList : Nat)]) ∧ w' = w) := by
    have h := refAt_any s 0 w (by omega) hpos
    rw [List.drop_zero, hR] at h
    exact h
  clear hR
  go_enter Try.func29, Try.ntmps29
  go_wp2_with fail
  refine Calls.mono HA.out ?_
  rintro e w1 ⟨rfl, rfl⟩
  go_wp2_with fail
  go_ret
  exact ⟨rfl, rfl⟩

/-- IsToken, whatever it is handed. -/
theorem refTok_any (k : Int) (s : ByteArray) (w : World) : Calls Try.prog 29 #[.int .i64 k, .string s] w fun e w' => e = .returned (.bool (Tk.isTok k s.data.toList)) ∧ w' = w := by
  have hsz : s.data.toList.length = s.size := by simp
  by_cases hpos : 0 < s.size
  · have hd := drop_at s 0 hpos
    rw [List.drop_zero] at hd
    have h0 : s.toList.isEmpty = false := by rw [Lib.toList_data, hd]; rfl
    by_cases h5 : 5000 < s.size
    · have hV : Tk.isTok k s.data.toList = false := decide_eq_false (fun h => by omega)
      rw [hV]
      exact refTok_long k s w h0 h5
    · have TC := tok_cases s[0] (s.data.toList.drop (0 + 1))
      rw [← hd] at TC
      by_cases hk0 : k = 0
      · subst hk0
        have hV : Tk.isTok 0 s.data.toList = false := decide_eq_false (fun h => by
          obtain ⟨_, _, h3, h4, _⟩ := h
          rcases TC with ⟨c1, cE⟩ | ⟨c1, cK, c3, cE⟩ | ⟨c1, cK, c3, cE⟩ | ⟨c1, cK, c3, cE⟩ | ⟨c1, cK, c3, c4, c5, cE⟩ | ⟨c1, cK, c3, cE⟩ | ⟨c1, cK, c3, c4, c5, cE⟩ | ⟨c1, cK, cE⟩ <;> omega)
        rw [hV]
        exact refTok_zero s w h0 (by omega)
      · have hkb : (k == 0) = false := beq_eq_false_iff_ne.2 hk0
        have hRK : 1 ≤ Tk.lenOf s.data.toList → refKind s.data.toList = Tk.kindOf s.data.toList := fun h => by unfold refKind; rw [if_neg (by omega)]
        have hne : s.data.toList ≠ [] := by rw [hd]; simp
        by_cases hl0 : Tk.lenOf s.data.toList = 0
        · have hV : Tk.isTok k s.data.toList = false := decide_eq_false (fun h => by omega)
          rw [hV]
          exact refTok_off s w h0 (by omega) hpos k 0 hkb (beq_eq_false_iff_ne.2 (fun e => hk0 e.symm)) (by unfold refKind; rw [if_pos hl0])
        · have hR := hRK (by omega)
          by_cases hK : Tk.kindOf s.data.toList = k
          · by_cases hn : Tk.lenOf s.data.toList = s.size
            · have g2 : ((Tk.lenOf s.data.toList : Int) == (s.size : Int)) = true := beq_iff_eq.2 (by omega)
              subst hK
              have yes : Tk.errOf s.data.toList = 0 → Tk.isTok (Tk.kindOf s.data.toList) s.data.toList = true := fun he => decide_eq_true ⟨hne, by omega, he, rfl, by omega⟩
              have no : ¬ Tk.errOf s.data.toList = 0 → Tk.isTok (Tk.kindOf s.data.toList) s.data.toList = false := fun he => decide_eq_false (fun h => he h.2.2.1)
              rcases TC with ⟨c1, cE⟩ | ⟨c1, cK, c3, cE⟩ | ⟨c1, cK, c3, cE⟩ | ⟨c1, cK, c3, cE⟩ | ⟨c1, cK, c3, c4, c5, cE⟩ | ⟨c1, cK, c3, cE⟩ | ⟨c1, cK, c3, c4, c5, cE⟩ | ⟨c1, cK, cE⟩
              · exact absurd c1 hl0
              · rw [no (by omega)]
                rcases cK with cK | cK
                · rw [cK] at hR ⊢; exact refTok_long1 s w h0 (by omega) hpos g2 c3 hR
                · rw [cK] at hR ⊢; exact refTok_long2 s w h0 (by omega) hpos g2 c3 hR
              · rw [yes cE]
                rcases cK with cK | cK
                · rw [cK] at hR ⊢; exact refTok_yes1 s w h0 (by omega) hpos g2 c3 hR
                · rw [cK] at hR ⊢; exact refTok_yes2 s w h0 (by omega) hpos g2 c3 hR
              · rw [no (by omega), cK]; rw [cK] at hR; exact refTok_long3 s w h0 (by omega) hpos g2 c3 hR
              · rw [no (by omega), cK]; rw [cK] at hR; exact refTok_form3 s w h0 (by omega) hpos g2 c4 c3 (beq_iff_eq.2 c5) hR
              · rw [yes cE, cK]; rw [cK] at hR; exact refTok_yes3a s w h0 (by omega) hpos g2 c3 hR
              · rw [yes cE, cK]; rw [cK] at hR; exact refTok_yes3b s w h0 (by omega) hpos g2 c4 c3 (beq_eq_false_iff_ne.2 c5) hR
              · rw [yes cE, cK]; rw [cK] at hR; exact refTok_yes4 s w h0 (by omega) hpos g2 hR
            · have hV : Tk.isTok k s.data.toList = false := decide_eq_false (fun h => by omega)
              rw [hV]
              exact refTok_part s w h0 (by omega) hpos k _ hkb (beq_iff_eq.2 hK) (beq_eq_false_iff_ne.2 (by omega)) hR
          · have hV : Tk.isTok k s.data.toList = false := decide_eq_false (fun h => hK h.2.2.2.1)
            rw [hV]
            exact refTok_off s w h0 (by omega) hpos k _ hkb (beq_eq_false_iff_ne.2 hK) hR
  · have hz : s.data.toList = [] := List.eq_nil_of_length_eq_zero (by omega)
    have hse : s = ⟨#[]⟩ := by
      apply ByteArray.ext
      exact Array.eq_empty_of_size_eq_zero (by show s.size = 0; omega)
    rw [hz, hse]
    exact refTok_empty k w

end Go.Proofs.Ythenjegmigeieaa

/- The document's answer: names and terms that are right. -/
namespace Go.Proofs.Ythenjegmigeieaa
open Go.RowKit

theorem isTok_at (k : Int) (s : List UInt8) (w : World) : Calls Try.prog 29 #[.int .i64 k, .string ⟨s.toArray⟩] w fun e w' => e = .returned (.bool (Tk.isTok k s)) ∧ w' = w := by
  have h := refTok_any k ⟨s.toArray⟩ w
  rw [List.toList_toArray] at h
  exact h

theorem word_eq (s : List UInt8) : Tr.isWord s = ((s == [110, 111, 116]) || (s == [99, 111, 117, 110, 116]) || (s == [115, 117, 109]) || (s == [108, 101, 97, 115, 116]) || (s == [109, 111, 115, 116])) := by
  unfold Tr.isWord Tr.foldOf
  cases h1 : (s == [99, 111, 117, 110, 116])
  · cases h2 : (s == [115, 117, 109])
    · cases h3 : (s == [108, 101, 97, 115, 116])
      · cases h4 : (s == [109, 111, 115, 116]) <;> simp
      · simp
    · simp
  · simp

set_option maxRecDepth 100000 in
set_option maxHeartbeats 400000 in
theorem refWord_any (s : List UInt8) (w : World) : Calls Try.prog 30 #[.string ⟨s.toArray⟩] w fun e w' => e = .returned (.bool (Tr.isWord s)) ∧ w' = w := by
  rw [word_eq]
  cases h0 : (s == [110, 111, 116])
  · cases h1 : (s == [99, 111, 117, 110, 116])
    · cases h2 : (s == [115, 117, 109])
      · cases h3 : (s == [108, 101, 97, 115, 116])
        · go_enter Try.func30, Try.ntmps30
          go_wp2
          go_ret
          exact ⟨rfl, rfl⟩
        · go_enter Try.func30, Try.ntmps30
          go_wp2
          go_ret
          exact ⟨rfl, rfl⟩
      · go_enter Try.func30, Try.ntmps30
        go_wp2
        go_ret
        exact ⟨rfl, rfl⟩
    · go_enter Try.func30, Try.ntmps30
      go_wp2
      go_ret
      exact ⟨rfl, rfl⟩
  · go_enter Try.func30, Try.ntmps30
    go_wp2
    go_ret
    exact ⟨rfl, rfl⟩

set_option maxRecDepth 100000 in
set_option maxHeartbeats 400000 in
theorem refName_any (s : List UInt8) (w : World) : Calls Try.prog 20 #[.string ⟨s.toArray⟩] w fun e w' => e = .returned (.bool (Tr.isName s)) ∧ w' = w := by
  unfold Tr.isName
  cases h1 : Tk.isTok 1 s
  · go_enter Try.func20, Try.ntmps20
    go_wp2_with (go_at_call 29; refine (isTok_at _ _ _).mono ?_; rintro e w' ⟨rfl, rfl⟩)
    go_ret
    exact ⟨rfl, rfl⟩
  · go_enter Try.func20, Try.ntmps20
    go_wp2_with (first | (go_at_call 29; refine (isTok_at _ _ _).mono ?_; rintro e w' ⟨rfl, rfl⟩) | (go_at_call 30; refine (refWord_any _ _).mono ?_; rintro e w' ⟨rfl, rfl⟩))
    go_ret
    exact ⟨rfl, rfl⟩

end Go.Proofs.Ythenjegmigeieaa

/- The document's check of a program. -/
namespace Go.Proofs.Ythenjegmigeieaa
open Go.RowKit

/-- A box that stands. -/
structure PB (w : World) (o : Obj) (wr : World) : Prop where
  bel : Below w.heap.size w wr
  box : wr.heap[w.heap.size]? = some o
theorem PB.below {w wr w2 : World} {o : Obj} (h : PB w o wr) (hb : Below wr.heap.size wr w2) : PB w o w2 :=
  ⟨h.bel.trans (hb.mono h.bel.size), (hb.block _ (heap_lt h.box)).trans h.box⟩
theorem PB.start (w : World) (o : Obj) : PB w o (w.alloc o) := ⟨(Below.refl _ _).alloc (Nat.le_refl _) _, heap_alloc_new w o⟩
theorem PB.drew {w wr : World} {o : Obj} (h : PB w o wr) : PB w o wr.drew := ⟨h.bel.drew, h.box⟩
theorem contains_drop (l : List (List UInt8)) (s : List UInt8) (k : Nat) (h : k < l.length) : (l.drop k).contains s = ((Sc.strD l k == s) || (l.drop (k + 1)).contains s) := by
  rw [List.drop_eq_getElem_cons h, List.contains_cons]
  have : Sc.strD l k = l[k] := by simp [Sc.strD, List.getD_eq_getElem?_getD, h]
  rw [this, Bool.beq_comm]
theorem strD_take (ns : List (List UInt8)) (j m : Nat) (h : m < j) : Sc.strD (ns.take j) m = Sc.strD ns m := by
  simp [Sc.strD, List.getD_eq_getElem?_getD, h]

set_option maxRecDepth 100000 in
set_option maxHeartbeats 4000000 in
theorem CheckProgram_any (p : Sc.Prog) (va vn vr : Value) (w : World) (hP : ProgV w va vn vr p) (hF : ProgFit p) :
    Calls Try.prog 8 #[progVal va vn vr] w fun e w' => e = .returned (.int .i64 (Sc.check p)) ∧ Below w.heap.size w w' := by
  obtain ⟨ar, ns, rs⟩ := p
  obtain ⟨hA, hN, hL⟩ := hP
  have HA : Hid (IntsV w va ar) := hA
  obtain ⟨ao, cap, rfl, hA⟩ := hA
  obtain ⟨an, cn, rfl, hN⟩ := hN
  obtain ⟨al, cl, rfl, hL⟩ := hL
  have hA : IntsAt w ao ar := hA
  have hN : StrsAt w an ns := hN
  have hL : PRulesAt w al rs := hL
  have HFR : Hid (∀ i, i < rs.length → RuleFit (Sc.ruleD rs i)) := hF.rs
  clear hF
  have hst := PB.start w (.cells #[.slice ao ar.length cap, .slice an ns.length cn, .slice al rs.length cl] 26)
  have HE0 : Hid (Sc.check ⟨ar, ns, rs⟩ = if 10 < ar.length ∨ 12 < rs.length then 2 else if ¬ ns.length = ar.length then 1 else Sc.thn (Sc.first (Sc.predErr ar ns) (List.range ns.length)) (Sc.first (Sc.ruleErr ar) rs)) := rfl
  by_cases h1 : 10 < ar.length
  · have HV : Hid (Sc.check ⟨ar, ns, rs⟩ = 2) := by show _ = _; rw [HE0.out, if_pos (.inl h1)]
    have g1 : decide (10 < ar.length) = true := decide_eq_true h1
    have g1' : decide ((10 : Int) < (ar.length : Int)) = true := decide_eq_true (by omega)
    clear HE0 hA hN hL
    go_enter Try.func8, Try.ntmps8
    go_wp2_with fail
    go_ret
    exact ⟨by rw [HV.out]; rfl, hst.bel⟩
  have g1 : decide (10 < ar.length) = false := decide_eq_false h1
  have g1' : decide ((10 : Int) < (ar.length : Int)) = false := decide_eq_false (by omega)
  by_cases h2 : 12 < rs.length
  · have HV : Hid (Sc.check ⟨ar, ns, rs⟩ = 2) := by show _ = _; rw [HE0.out, if_pos (.inr h2)]
    have g2 : decide (12 < rs.length) = true := decide_eq_true h2
    have g2' : decide ((12 : Int) < (rs.length : Int)) = true := decide_eq_true (by omega)
    clear HE0 hA hN hL
    go_enter Try.func8, Try.ntmps8
    go_wp2_with fail
    go_ret
    exact ⟨by rw [HV.out]; rfl, hst.bel⟩
  have g2 : decide (12 < rs.length) = false := decide_eq_false h2
  have g2' : decide ((12 : Int) < (rs.length : Int)) = false := decide_eq_false (by omega)
  rw [if_neg (fun h => h.elim h1 h2)] at HE0
  by_cases h3 : ns.length = ar.length
  rotate_left
  · have HV : Hid (Sc.check ⟨ar, ns, rs⟩ = 1) := by show _ = _; rw [HE0.out, if_pos h3]
    have g3 : ((ns.length : Int) != (ar.length : Int)) = true := by simp; omega
    have g3' : (ns.length != ar.length) = true := by simp; omega
    clear HE0 hA hN hL
    go_enter Try.func8, Try.ntmps8
    go_wp2_with fail
    go_ret
    exact ⟨by rw [HV.out]; rfl, hst.bel⟩
  rw [if_neg (fun h => h h3)] at HE0
  have H3 : Hid (ns.length = ar.length) := h3
  have g3 : ((ns.length : Int) != (ar.length : Int)) = false := by simp; omega
  have g3' : (ns.length != ar.length) = false := by simp; omega
  have h10 : ns.length ≤ 10 := by omega
  clear h3
  go_enter Try.func8, Try.ntmps8
  go_wp2_with fail
  go_loopw [3] (fun i wr => ∃ j : Nat, j ≤ ns.length ∧ i = .int .i64 j ∧ PB w (.cells #[.slice ao ar.length cap, .slice an ns.length cn, .slice al rs.length cl] 26) wr ∧ Sc.first (Sc.predErr ar ns) (List.range ns.length) = Sc.first (Sc.predErr ar ns) ((List.range ns.length).drop j)) (fun i _ => ns.length - (intOf i).toNat)
  case atStart => exact ⟨0, Nat.zero_le _, rfl, hst, rfl⟩
  case round =>
    clear hst
    obtain ⟨j, hj, rfl, hR, hfj⟩ := hrel
    have HFJ : Hid _ := hfj
    clear hfj
    have c0 : wr.cell? ⟨w.heap.size, 0, none⟩ = some (.slice ao ar.length cap) := by rw [Lib.cell_of_heap hR.box]; rfl
    have c1 : wr.cell? ⟨w.heap.size, 1, none⟩ = some (.slice an ns.length cn) := by rw [Lib.cell_of_heap hR.box]; rfl
    by_cases hjl : j < ns.length
    · obtain ⟨b, off, rfl, p0⟩ := strs_at hN j hjl
      have hja : j < ar.length := by rw [← H3.out]; exact hjl
      obtain ⟨b2, off2, rfl, p1⟩ := ints_at hA j hja
      have q0 := cell_below hR.bel p0
      have q1 := cell_below hR.bel p1
      have HNC : Hid (∀ y m, Below w.heap.size w y → m < ns.length → y.cell? ⟨b, off + m, none⟩ = some (.string ⟨(Sc.strD ns m).toArray⟩)) := by
        intro y m hy hm
        obtain ⟨b', off', e, hc⟩ := strs_at hN m hm
        obtain ⟨rfl, rfl⟩ : b = b' ∧ off = off' := by simpa using e
        exact cell_below hy hc
      have HFD : Hid (Sc.first (Sc.predErr ar ns) (List.range ns.length) = Sc.thn (Sc.predErr ar ns j) (Sc.first (Sc.predErr ar ns) ((List.range ns.length).drop (j + 1)))) := HFJ.out.trans (pred_drop ar ns j hjl)
      have HPE : Hid (Sc.predErr ar ns j = Sc.thn (if Tr.between (Sc.intD ar j) 0 3 then 0 else 3) (Sc.thn (if Tr.isName (Sc.strD ns j) then 0 else 1) (if (ns.take j).contains (Sc.strD ns j) then 6 else 0))) := rfl
      clear p0 p1 hA hN hL HFJ
      generalize Sc.intD ar j = a at *
      generalize hs : Sc.strD ns j = s at *
      have HSJ : Hid _ := hs
      clear hs
      go_wp2_with fail
      refine (btw_any _ _ _ _).mono ?_
      rintro e w2 ⟨he, rfl⟩
      cases g4 : Tr.between a 0 3
      · rw [g4] at he
        subst he
        have HV : Hid (Sc.check ⟨ar, ns, rs⟩ = 3) := by show _ = _; rw [HE0.out, HFD.out, HPE.out, g4]; rfl
        clear HE0 HFD HPE
        go_wp2_with fail
        go_ret
        exact ⟨by rw [HV.out]; rfl, hR.bel⟩
      rw [g4] at he
      subst he
      rw [g4, if_pos rfl, Sc.thn_zero] at HPE
      go_wp2_with fail
      refine (refName_any s _).mono ?_
      rintro e w3 ⟨he, rfl⟩
      cases h5 : Tr.isName s
      · rw [h5] at he
        subst he
        have HV : Hid (Sc.check ⟨ar, ns, rs⟩ = 1) := by show _ = _; rw [HE0.out, HFD.out, HPE.out, h5]; rfl
        clear HE0 HFD HPE
        go_wp2_with fail
        go_ret
        exact ⟨by rw [HV.out]; rfl, hR.bel⟩
      rw [h5] at he
      subst he
      rw [h5, if_pos rfl, Sc.thn_zero] at HPE
      clear c0 c1 q0 q1 g4 h5
      go_wp2_with fail
      go_loopw [4] (fun i wq => ∃ m : Nat, m ≤ j ∧ i = .int .i64 m ∧ PB w (.cells #[.slice (some ⟨b2, off2, none⟩) ar.length cap, .slice (some ⟨b, off, none⟩) ns.length cn, .slice al rs.length cl] 26) wq ∧ (ns.take j).contains s = ((ns.take j).drop m).contains s) (fun i _ => j - (intOf i).toNat)
      case atStart => exact ⟨0, Nat.zero_le _, rfl, hR, rfl⟩
      case round =>
        clear hR
        obtain ⟨m, hm, rfl, hR, hct⟩ := hrel
        have HCT : Hid _ := hct
        clear hct
        have c1 : wr.cell? ⟨w.heap.size, 1, none⟩ = some (.slice (some ⟨b, off, none⟩) ns.length cn) := by rw [Lib.cell_of_heap hR.box]; rfl
        by_cases hml : m < j
        · have q0 := HNC.out _ m hR.bel (by omega)
          have q1 := HNC.out _ j hR.bel hjl
          rw [HSJ.out] at q1
          have hlt2 : m < (ns.take j).length := by rw [List.length_take]; omega
          have HCD : Hid ((ns.take j).contains s = ((Sc.strD ns m == s) || ((ns.take j).drop (m + 1)).contains s)) := by
            show _ = _
            rw [HCT.out, contains_drop _ _ m hlt2, strD_take ns j m hml]
          clear HCT hlt2
          have hml2 : m < ns.length := by omega
          go_upto_region 15 with fail
          cases g6 : (Sc.strD ns m == s)
          · have HV : Hid ((ns.take j).contains s = ((ns.take j).drop (m + 1)).contains s) := by show _ = _; rw [HCD.out, g6]; rfl
            clear HCD
            go_region_held3 (fun y => y.cell? ⟨w.heap.size, 1, none⟩ = some (.slice (some ⟨b, off, none⟩) ns.length cn) ∧ y.cell? ⟨b, off + m, none⟩ = some (.string ⟨(Sc.strD ns m).toArray⟩) ∧ y.cell? ⟨b, off + j, none⟩ = some (.string ⟨s.toArray⟩)) (go_keep) (fail)
            have hRd := hR.drew
            go_wp2_with fail
            go_roundw
            case rel => exact ⟨m + 1, by omega, by go_num, hRd, HV.out⟩
            case measure => simp [intOf]; omega
          · have HV : Hid (Sc.check ⟨ar, ns, rs⟩ = 6) := by show _ = _; rw [HE0.out, HFD.out, HPE.out, HCD.out, g6]; rfl
            clear HCD HE0 HFD HPE
            go_region_held3 (fun y => y.cell? ⟨w.heap.size, 1, none⟩ = some (.slice (some ⟨b, off, none⟩) ns.length cn) ∧ y.cell? ⟨b, off + m, none⟩ = some (.string ⟨(Sc.strD ns m).toArray⟩) ∧ y.cell? ⟨b, off + j, none⟩ = some (.string ⟨s.toArray⟩)) (go_keep) (fail)
            have hRd := hR.drew.bel
            go_wp2_with fail
            go_ret
            exact ⟨by rw [HV.out]; rfl, hRd⟩
        · have hz : (ns.take j).contains s = false := by rw [HCT.out, List.drop_of_length_le (by rw [List.length_take]; omega)]; rfl
          have HV : Hid (Sc.first (Sc.predErr ar ns) (List.range ns.length) = Sc.first (Sc.predErr ar ns) ((List.range ns.length).drop (j + 1))) := by show _ = _; rw [HFD.out, HPE.out, hz]; rfl
          clear HFD HPE HCT hz
          go_wp2_with fail
          go_roundw
          case rel => exact ⟨j + 1, by omega, by go_num, hR, HV.out⟩
          case measure => simp [intOf]; omega
    · have hz : Sc.first (Sc.predErr ar ns) (List.range ns.length) = 0 := by rw [HFJ.out, List.drop_of_length_le (by simp; omega)]; rfl
      rw [hz, Sc.thn_zero] at HE0
      have har : ar.length ≤ 9223372036854775807 := by omega
      clear HFJ hz hA hN
      go_wp2_with fail
      go_loopw [5] (fun i wr => ∃ j : Nat, j ≤ rs.length ∧ i = .int .i64 j ∧ PB w (.cells #[.slice ao ar.length cap, .slice an ns.length cn, .slice al rs.length cl] 26) wr ∧ Sc.first (Sc.ruleErr ar) rs = Sc.first (Sc.ruleErr ar) (rs.drop j)) (fun i _ => rs.length - (intOf i).toNat)
      case atStart => exact ⟨0, Nat.zero_le _, rfl, hR, rfl⟩
      case round =>
        clear hR c0 c1
        obtain ⟨j, hj, rfl, hR, hfj⟩ := hrel
        have HFJ : Hid _ := hfj
        clear hfj
        have c0 : wr.cell? ⟨w.heap.size, 0, none⟩ = some (.slice ao ar.length cap) := by rw [Lib.cell_of_heap hR.box]; rfl
        have c1 : wr.cell? ⟨w.heap.size, 1, none⟩ = some (.slice an ns.length cn) := by rw [Lib.cell_of_heap hR.box]; rfl
        have c2 : wr.cell? ⟨w.heap.size, 2, none⟩ = some (.slice al rs.length cl) := by rw [Lib.cell_of_heap hR.box]; rfl
        by_cases hjl : j < rs.length
        · obtain ⟨b, off, rfl, p0, ⟨vt, p1, hT⟩, p2, ⟨vb, p3, hB⟩, p4⟩ := prules_at hL j hjl
          have HT : Hid (PTermsV w vt (Sc.ruleD rs j).terms) := hT
          have HB : Hid (PLitsV w vb (Sc.ruleD rs j).body) := hB
          obtain ⟨at_, ct, rfl, _, _⟩ := hT
          obtain ⟨ab, cb, rfl, _⟩ := hB
          have q0 := cell_below hR.bel p0
          have q1 := cell_below hR.bel p1
          have q2 := cell_below hR.bel p2
          have q3 := cell_below hR.bel p3
          have q4 := cell_below hR.bel p4
          have HFD : Hid (Sc.first (Sc.ruleErr ar) rs = Sc.thn (Sc.ruleErr ar (Sc.ruleD rs j)) (Sc.first (Sc.ruleErr ar) (rs.drop (j + 1)))) := HFJ.out.trans (Sc.first_drop _ _ _ j hjl)
          have HFI : Hid (RuleFit (Sc.ruleD rs j)) := HFR.out j hjl
          clear p0 p1 p2 p3 p4 HFJ hL
          generalize hx : Sc.ruleD rs j = x at *
          clear hx
          have HRU : Hid (∀ y, (PB w (.cells #[.slice ao ar.length cap, .slice an ns.length cn, .slice (some ⟨b, off, none⟩) rs.length cl] 26) y ∧ y.cell? ⟨w.heap.size, 0, none⟩ = some (.slice ao ar.length cap) ∧ y.cell? ⟨w.heap.size, 1, none⟩ = some (.slice an ns.length cn) ∧ y.cell? ⟨w.heap.size, 2, none⟩ = some (.slice (some ⟨b, off, none⟩) rs.length cl) ∧ y.cell? ⟨b, off + j * 5, none⟩ = some (.int .i64 x.pred) ∧ y.cell? ⟨b, off + j * 5 + 1, none⟩ = some (.slice at_ x.terms.length ct) ∧ y.cell? ⟨b, off + j * 5 + 2, none⟩ = some (.int .i64 x.fold) ∧ y.cell? ⟨b, off + j * 5 + 3, none⟩ = some (.slice ab x.body.length cb) ∧ y.cell? ⟨b, off + j * 5 + 4, none⟩ = some (.int .i64 x.vars)) → Calls Try.prog 21 #[progVal (.slice ao ar.length cap) (.slice an ns.length cn) (.slice (some ⟨b, off, none⟩) rs.length cl), pruleVal x (.slice at_ x.terms.length ct) (.slice ab x.body.length cb)] y fun e w' => e = .returned (.int .i64 (Sc.ruleErr ar x)) ∧ (PB w (.cells #[.slice ao ar.length cap, .slice an ns.length cn, .slice (some ⟨b, off, none⟩) rs.length cl] 26) w' ∧ w'.cell? ⟨w.heap.size, 0, none⟩ = some (.slice ao ar.length cap) ∧ w'.cell? ⟨w.heap.size, 1, none⟩ = some (.slice an ns.length cn) ∧ w'.cell? ⟨w.heap.size, 2, none⟩ = some (.slice (some ⟨b, off, none⟩) rs.length cl) ∧ w'.cell? ⟨b, off + j * 5, none⟩ = some (.int .i64 x.pred) ∧ w'.cell? ⟨b, off + j * 5 + 1, none⟩ = some (.slice at_ x.terms.length ct) ∧ w'.cell? ⟨b, off + j * 5 + 2, none⟩ = some (.int .i64 x.fold) ∧ w'.cell? ⟨b, off + j * 5 + 3, none⟩ = some (.slice ab x.body.length cb) ∧ w'.cell? ⟨b, off + j * 5 + 4, none⟩ = some (.int .i64 x.vars))) := by
            rintro y ⟨hPB, k0, k1, k2, k3, k4, k5, k6, k7⟩
            refine Calls.mono (rpRule_any ar _ _ _ x _ _ y har (intsV_below HA.out hPB.bel) (ptermsV_below HT.out hPB.bel) (plitsV_below HB.out hPB.bel) HFI.out) ?_
            rintro e w' ⟨rfl, hb⟩
            exact ⟨rfl, hPB.below hb, cell_below hb k0, cell_below hb k1, cell_below hb k2, cell_below hb k3, cell_below hb k4, cell_below hb k5, cell_below hb k6, cell_below hb k7⟩
          have hRd := hR.drew
          clear HT HB HFI
          go_upto_region 20 with fail
          go_region_held3 (fun y => (PB w (.cells #[.slice ao ar.length cap, .slice an ns.length cn, .slice (some ⟨b, off, none⟩) rs.length cl] 26) y ∧ y.cell? ⟨w.heap.size, 0, none⟩ = some (.slice ao ar.length cap) ∧ y.cell? ⟨w.heap.size, 1, none⟩ = some (.slice an ns.length cn) ∧ y.cell? ⟨w.heap.size, 2, none⟩ = some (.slice (some ⟨b, off, none⟩) rs.length cl) ∧ y.cell? ⟨b, off + j * 5, none⟩ = some (.int .i64 x.pred) ∧ y.cell? ⟨b, off + j * 5 + 1, none⟩ = some (.slice at_ x.terms.length ct) ∧ y.cell? ⟨b, off + j * 5 + 2, none⟩ = some (.int .i64 x.fold) ∧ y.cell? ⟨b, off + j * 5 + 3, none⟩ = some (.slice ab x.body.length cb) ∧ y.cell? ⟨b, off + j * 5 + 4, none⟩ = some (.int .i64 x.vars))) (go_keep) ((go_at_call 21; refine Calls.mono (HRU.out _ ?_) ?_; (simp [*]); rintro e w2 ⟨rfl, h1, h2, h3, h4, h5, h6, h7, h8, h9⟩))
          have hR2 := h1
          clear h2 h3 h4 h5 h6 h7 h8 h9 HRU
          by_cases h9 : Sc.ruleErr ar x = 0
          rotate_left
          · have HV : Hid (Sc.check ⟨ar, ns, rs⟩ = Sc.ruleErr ar x) := by show _ = _; rw [HE0.out, HFD.out, Sc.thn_ne _ h9]
            have g9 : (Sc.ruleErr ar x != 0) = true := by simpa using h9
            clear HE0 HFD h9
            go_wp2_with fail
            go_ret
            exact ⟨by rw [HV.out]; rfl, hR2.bel⟩
          have HV : Hid (Sc.first (Sc.ruleErr ar) rs = Sc.first (Sc.ruleErr ar) (rs.drop (j + 1))) := by show _ = _; rw [HFD.out, h9, Sc.thn_zero]
          rw [h9]
          clear HFD h9
          go_wp2_with fail
          go_roundw
          case rel => exact ⟨j + 1, by omega, by go_num, hR2, HV.out⟩
          case measure => simp [intOf]; omega
        · have HV : Hid (Sc.check ⟨ar, ns, rs⟩ = 0) := by show _ = _; rw [HE0.out, HFJ.out, List.drop_of_length_le (by omega)]; rfl
          clear HE0 hL
          go_wp2_with fail
          go_ret
          exact ⟨by rw [HV.out]; rfl, hR.bel⟩

end Go.Proofs.Ythenjegmigeieaa

/- The document's comparison of two lists of terms. -/
namespace Go.Proofs.Ythenjegmigeieaa
open Go.RowKit

namespace Tr
/-- Two lists, thing by thing. -/
def listEq {α : Type} (f : α → α → Bool) : List α → List α → Bool
  | [], [] => true
  | a :: l, b :: m => f a b && listEq f l m
  | _, _ => false
theorem listEq_len {α : Type} (f : α → α → Bool) : ∀ (l m : List α), ¬ l.length = m.length → listEq f l m = false := by
  intro l
  induction l with
  | nil =>
    intro m h
    cases m with
    | nil => exact absurd rfl h
    | cons y b => rfl
  | cons x a ih =>
    intro m h
    cases m with
    | nil => rfl
    | cons y b => rw [listEq, ih b (by simpa using h), Bool.and_false]
theorem listEq_drop {α : Type} (f : α → α → Bool) (d : α) (l m : List α) (i : Nat) (h : i < l.length) (h2 : i < m.length) :
    listEq f (l.drop i) (m.drop i) = (f (l.getD i d) (m.getD i d) && listEq f (l.drop (i + 1)) (m.drop (i + 1))) := by
  rw [List.drop_eq_getElem_cons h, List.drop_eq_getElem_cons h2, listEq]
  simp [List.getD_eq_getElem?_getD, List.getElem?_eq_getElem h, List.getElem?_eq_getElem h2]
def termEq (a b : Term) : Bool := (a.var == b.var) && (a.n == b.n)
def termsEq (l m : List Term) : Bool := listEq termEq l m
end Tr

end Go.Proofs.Ythenjegmigeieaa

/- The document's comparison of two trees. -/
namespace Go.Proofs.Ythenjegmigeieaa
open Go.RowKit

namespace Tr
def headEq (q : Bool) (a b : Rule) : Bool := !((q && (a.at_ != b.at_)) || !(a.name == b.name) || (a.fold != b.fold) || !(termsEq a.terms b.terms) || ((a.body.length : Int) != (b.body.length : Int)))
def litEq (q : Bool) (x y : Lit) : Bool := !((q && (x.at_ != y.at_)) || (x.kind != y.kind) || (x.op != y.op) || !(x.name == y.name) || !(termsEq x.terms y.terms))
def ruleEq (q : Bool) (a b : Rule) : Bool := headEq q a b && listEq (litEq q) a.body b.body
def treeEq (q : Bool) (l m : List Rule) : Bool := listEq (ruleEq q) l m
end Tr

theorem Tr.headEq_len {q : Bool} {a b : Tr.Rule} (h : Tr.headEq q a b = true) : a.body.length = b.body.length := by
  unfold Tr.headEq at h
  simp only [Bool.not_eq_true', Bool.or_eq_false_iff, bne_eq_false_iff_eq] at h
  have := h.2
  omega

/-- Lists of terms that an int can count. -/
def FitsB (l : List Tr.Lit) : Prop := ∀ i, i < l.length → (Tr.litD l i).terms.length ≤ 9223372036854775807
abbrev rulObj (r : Tr.Rule) (v u : Value) : Obj := .cells #[.int .i64 r.at_, .string ⟨r.name.toArray⟩, v, .int .i64 r.fold, u] 85
theorem rul_cells {w : World} {b : Nat} {r : Tr.Rule} {v u : Value} (h : w.heap[b]? = some (rulObj r v u)) :
    w.cell? ⟨b, 0, none⟩ = some (.int .i64 r.at_) ∧ w.cell? ⟨b, 1, none⟩ = some (.string ⟨r.name.toArray⟩) ∧ w.cell? ⟨b, 2, none⟩ = some v ∧ w.cell? ⟨b, 3, none⟩ = some (.int .i64 r.fold) ∧ w.cell? ⟨b, 4, none⟩ = some u :=
  ⟨by rw [Lib.cell_of_heap h]; rfl, by rw [Lib.cell_of_heap h]; rfl, by rw [Lib.cell_of_heap h]; rfl, by rw [Lib.cell_of_heap h]; rfl, by rw [Lib.cell_of_heap h]; rfl⟩

theorem heap_two (u : World) (o1 o2 : Obj) : ((u.alloc o1).alloc o2).drew.heap[u.heap.size]? = some o1 ∧ ((u.alloc o1).alloc o2).drew.heap[u.heap.size + 1]? = some o2 ∧ Below u.heap.size u ((u.alloc o1).alloc o2).drew := by
  refine ⟨?_, ?_, (((Below.refl _ _).alloc (Nat.le_refl _) _).alloc (by simp) _).drew⟩
  · exact (((Below.refl _ (u.alloc o1)).alloc (Nat.le_refl _) o2).block _ (by simp)).trans (heap_alloc_new u o1)
  · have := heap_alloc_new (u.alloc o1) o2
    simpa [World.drew] using this
theorem lit_cells {w : World} {b : Nat} {x : Tr.Lit} {v : Value} (h : w.heap[b]? = some (litObj x v)) :
    w.cell? ⟨b, 0, none⟩ = some (.int .i64 x.kind) ∧ w.cell? ⟨b, 1, none⟩ = some (.int .i64 x.at_) ∧ w.cell? ⟨b, 2, none⟩ = some (.int .i64 x.op) ∧ w.cell? ⟨b, 3, none⟩ = some (.string ⟨x.name.toArray⟩) ∧ w.cell? ⟨b, 4, none⟩ = some v :=
  ⟨by rw [Lib.cell_of_heap h]; rfl, by rw [Lib.cell_of_heap h]; rfl, by rw [Lib.cell_of_heap h]; rfl, by rw [Lib.cell_of_heap h]; rfl, by rw [Lib.cell_of_heap h]; rfl⟩

/-- Trees that are not too great for the machine's counters. -/
def Fine (l : List Tr.Rule) : Prop := l.length ≤ 9223372036854775807 ∧ ∀ i, i < l.length → (Tr.ruleD l i).terms.length ≤ 9223372036854775807 ∧ (Tr.ruleD l i).body.length ≤ 9223372036854775807 ∧ FitsB (Tr.ruleD l i).body

end Go.Proofs.Ythenjegmigeieaa

/- The document's SameProgram, of what is the same. -/
namespace Go.Proofs.Ythenjegmigeieaa
open Go.RowKit

set_option maxRecDepth 100000 in
set_option maxHeartbeats 1000000 in
theorem sameInts_some (l : List Int) (w : World) (n ca cb ba oa bb ob : Nat) (hmax : n ≤ 9223372036854775807)
    (hA : ∀ i, i < n → w.cell? ⟨ba, oa + i, none⟩ = some (.int .i64 (Sc.intD l i))) (hB : ∀ i, i < n → w.cell? ⟨bb, ob + i, none⟩ = some (.int .i64 (Sc.intD l i))) :
    Calls Try.prog 12 #[.slice (some ⟨ba, oa, none⟩) n ca, .slice (some ⟨bb, ob, none⟩) n cb] w fun e w' => e = .returned (.bool true) ∧ Below w.heap.size w w' := by
  have hne : ((n : Int) != (n : Int)) = false := by simp
  go_enter Try.func12, Try.ntmps12
  go_wp2_with fail
  go_loopw [5] (fun i wr => ∃ k nq : Nat, k ≤ n ∧ i = .int .i64 k ∧ wr = w.drewN nq) (fun i _ => n - (intOf i).toNat)
  case atStart => exact ⟨0, 0, Nat.zero_le _, rfl, rfl⟩
  case round =>
    obtain ⟨k, nq, hk, rfl, rfl⟩ := hrel
    by_cases hlt : k < n
    · have a0 := hA k hlt; have b0 := hB k hlt
      clear hA hB
      generalize Sc.intD l k = x at *
      go_wp2_with fail
      go_quiet (fail)
      go_wp2_with fail
      go_roundw
      case rel => exact ⟨k + 1, _, by omega, by go_num, rfl⟩
      case measure => simp [intOf]; omega
    · clear hA hB
      go_wp2_with fail
      go_ret
      exact ⟨rfl, below_drewN (Below.refl _ _) _⟩

set_option maxRecDepth 100000 in
set_option maxHeartbeats 400000 in
theorem sameInts_none (w : World) (a b : Option Addr) (ca cb : Nat) : Calls Try.prog 12 #[.slice a 0 ca, .slice b 0 cb] w fun e w' => e = .returned (.bool true) ∧ Below w.heap.size w w' := by
  go_enter Try.func12, Try.ntmps12
  go_wp2_with fail
  refine wp_loop_rounds 1 ?_
  rw [rounds_succ]
  go_wp2_with fail
  go_ret
  exact ⟨rfl, Below.refl _ _⟩
theorem sameInts_refl (l : List Int) (w : World) (va vb : Value) (hmax : l.length ≤ 9223372036854775807) (hA : IntsV w va l) (hB : IntsV w vb l) :
    Calls Try.prog 12 #[va, vb] w fun e w' => e = .returned (.bool true) ∧ Below w.heap.size w w' := by
  obtain ⟨ao, ca, rfl, hA⟩ := hA
  obtain ⟨bo, cb, rfl, hB⟩ := hB
  rcases hA with rfl | ⟨ba, oa, rfl, hA⟩
  · exact sameInts_none w ao bo ca cb
  · rcases hB with rfl | ⟨bb, ob, rfl, hB⟩
    · exact sameInts_none w _ bo ca cb
    · exact sameInts_some l w l.length ca cb ba oa bb ob hmax hA hB

set_option maxRecDepth 100000 in
set_option maxHeartbeats 1000000 in
theorem sameOwn_some (l : List Sc.Term) (w : World) (n ca cb ba oa bb ob : Nat) (hmax : n ≤ 9223372036854775807)
    (hA : ∀ i, i < n → PTermIn w ba (oa + i * 2) (Sc.termD l i)) (hB : ∀ i, i < n → PTermIn w bb (ob + i * 2) (Sc.termD l i)) :
    Calls Try.prog 18 #[.slice (some ⟨ba, oa, none⟩) n ca, .slice (some ⟨bb, ob, none⟩) n cb] w fun e w' => e = .returned (.bool true) ∧ Below w.heap.size w w' := by
  have hne : ((n : Int) != (n : Int)) = false := by simp
  go_enter Try.func18, Try.ntmps18
  go_wp2_with fail
  go_loopw [5] (fun i wr => ∃ k nq : Nat, k ≤ n ∧ i = .int .i64 k ∧ wr = w.drewN nq) (fun i _ => n - (intOf i).toNat)
  case atStart => exact ⟨0, 0, Nat.zero_le _, rfl, rfl⟩
  case round =>
    obtain ⟨k, nq, hk, rfl, rfl⟩ := hrel
    by_cases hlt : k < n
    · obtain ⟨a0, a1⟩ := hA k hlt; obtain ⟨b0, b1⟩ := hB k hlt
      clear hA hB
      generalize Sc.termD l k = x at *
      go_wp2_with fail
      go_quiet (fail)
      go_wp2_with fail
      go_roundw
      case rel => exact ⟨k + 1, _, by omega, by go_num, rfl⟩
      case measure => simp [intOf]; omega
    · clear hA hB
      go_wp2_with fail
      go_ret
      exact ⟨rfl, below_drewN (Below.refl _ _) _⟩

set_option maxRecDepth 100000 in
set_option maxHeartbeats 400000 in
theorem sameOwn_none (w : World) (a b : Option Addr) (ca cb : Nat) : Calls Try.prog 18 #[.slice a 0 ca, .slice b 0 cb] w fun e w' => e = .returned (.bool true) ∧ Below w.heap.size w w' := by
  go_enter Try.func18, Try.ntmps18
  go_wp2_with fail
  refine wp_loop_rounds 1 ?_
  rw [rounds_succ]
  go_wp2_with fail
  go_ret
  exact ⟨rfl, Below.refl _ _⟩
theorem sameOwn_refl (l : List Sc.Term) (w : World) (va vb : Value) (hmax : l.length ≤ 9223372036854775807) (hA : PTermsV w va l) (hB : PTermsV w vb l) :
    Calls Try.prog 18 #[va, vb] w fun e w' => e = .returned (.bool true) ∧ Below w.heap.size w w' := by
  obtain ⟨ao, ca, rfl, _, hA⟩ := hA
  obtain ⟨bo, cb, rfl, _, hB⟩ := hB
  rcases hA with rfl | ⟨ba, oa, rfl, hA⟩
  · exact sameOwn_none w ao bo ca cb
  · rcases hB with rfl | ⟨bb, ob, rfl, hB⟩
    · exact sameOwn_none w _ bo ca cb
    · exact sameOwn_some l w l.length ca cb ba oa bb ob hmax hA hB

abbrev pruObj (r : Sc.Rule) (v u : Value) : Obj := .cells #[.int .i64 r.pred, v, .int .i64 r.fold, u, .int .i64 r.vars] 48
abbrev pliObj (x : Sc.Lit) (v : Value) : Obj := .cells #[.int .i64 x.kind, .int .i64 x.op, .int .i64 x.pred, v] 52
set_option maxRecDepth 100000 in
set_option maxHeartbeats 4000000 in
theorem sameProg_refl (p : Sc.Prog) (va vn vr ua un ur : Value) (w : World) (hP : ProgV w va vn vr p) (hQ : ProgV w ua un ur p) (hF : ProgFit p) :
    Calls Try.prog 7 #[progVal va vn vr, progVal ua un ur] w fun e w' => e = .returned (.bool true) ∧ Below w.heap.size w w' := by
  obtain ⟨ar, ns, rs⟩ := p
  have HA1 : Hid (IntsV w va ar) := hP.ar
  have HA2 : Hid (IntsV w ua ar) := hQ.ar
  obtain ⟨a0, n0, rfl, _⟩ := id hP.ar
  obtain ⟨a1, n1, rfl, hN1⟩ := id hP.nm
  obtain ⟨a2, n2, rfl, hL1⟩ := id hP.rl
  obtain ⟨b0, m0, rfl, _⟩ := id hQ.ar
  obtain ⟨b1, m1, rfl, hN2⟩ := id hQ.nm
  obtain ⟨b2, m2, rfl, hL2⟩ := id hQ.rl
  have hN1 : StrsAt w a1 ns := hN1
  have hN2 : StrsAt w b1 ns := hN2
  have hL1 : PRulesAt w a2 rs := hL1
  have hL2 : PRulesAt w b2 rs := hL2
  have HFR : Hid (∀ i, i < rs.length → RuleFit (Sc.ruleD rs i)) := hF.rs
  have HFA : Hid (ar.length ≤ 9223372036854775807) := hF.ar
  have hfn : ns.length ≤ 9223372036854775807 := hF.nm
  have hfr : rs.length ≤ 9223372036854775807 := hF.rl
  clear hP hQ hF
  have hR := RB.start w (.cells #[.slice a0 ar.length n0, .slice a1 ns.length n1, .slice a2 rs.length n2] 26) (.cells #[.slice b0 ar.length m0, .slice b1 ns.length m1, .slice b2 rs.length m2] 26)
  have hne1 : ((ns.length : Int) != (ns.length : Int)) = false := by simp
  have hne2 : ((rs.length : Int) != (rs.length : Int)) = false := by simp
  go_enter Try.func7, Try.ntmps7
  go_wp2_with fail
  refine Calls.mono (sameInts_refl ar _ _ _ HFA.out (intsV_below HA1.out hR.bel) (intsV_below HA2.out hR.bel)) ?_
  rintro e w2 ⟨rfl, hb2⟩
  have hR := hR.below hb2
  have c1 : w2.cell? ⟨w.heap.size, 1, none⟩ = some (.slice a1 ns.length n1) := by rw [Lib.cell_of_heap hR.b1]; rfl
  have c2 : w2.cell? ⟨w.heap.size, 2, none⟩ = some (.slice a2 rs.length n2) := by rw [Lib.cell_of_heap hR.b1]; rfl
  have d1 : w2.cell? ⟨w.heap.size + 1, 1, none⟩ = some (.slice b1 ns.length m1) := by rw [Lib.cell_of_heap hR.b2]; rfl
  have d2 : w2.cell? ⟨w.heap.size + 1, 2, none⟩ = some (.slice b2 rs.length m2) := by rw [Lib.cell_of_heap hR.b2]; rfl
  go_wp2_with fail
  clear c1 c2 d1 d2 hb2
  go_loopw [5] (fun i wr => ∃ j : Nat, j ≤ ns.length ∧ i = .int .i64 j ∧ RB w (.cells #[.slice a0 ar.length n0, .slice a1 ns.length n1, .slice a2 rs.length n2] 26) (.cells #[.slice b0 ar.length m0, .slice b1 ns.length m1, .slice b2 rs.length m2] 26) wr) (fun i _ => ns.length - (intOf i).toNat)
  case atStart => exact ⟨0, Nat.zero_le _, rfl, hR⟩
  case round =>
    clear hR
    obtain ⟨j, hj, rfl, hR⟩ := hrel
    have c1 : wr.cell? ⟨w.heap.size, 1, none⟩ = some (.slice a1 ns.length n1) := by rw [Lib.cell_of_heap hR.b1]; rfl
    have d1 : wr.cell? ⟨w.heap.size + 1, 1, none⟩ = some (.slice b1 ns.length m1) := by rw [Lib.cell_of_heap hR.b2]; rfl
    by_cases hjl : j < ns.length
    · obtain ⟨xb, xo, rfl, p0⟩ := strs_at hN1 j hjl
      obtain ⟨yb, yo, rfl, p1⟩ := strs_at hN2 j hjl
      have q0 := cell_below hR.bel p0
      have q1 := cell_below hR.bel p1
      have hRd := hR.drew
      clear p0 p1 hN1 hN2 hL1 hL2 hR
      generalize Sc.strD ns j = s at *
      go_upto_region 6 with fail
      go_region_held3 (fun y => y.cell? ⟨w.heap.size, 1, none⟩ = some (.slice (some ⟨xb, xo, none⟩) ns.length n1) ∧ y.cell? ⟨w.heap.size + 1, 1, none⟩ = some (.slice (some ⟨yb, yo, none⟩) ns.length m1) ∧ y.cell? ⟨xb, xo + j, none⟩ = some (.string ⟨s.toArray⟩) ∧ y.cell? ⟨yb, yo + j, none⟩ = some (.string ⟨s.toArray⟩)) (go_keep) (fail)
      go_wp2_with fail
      go_roundw
      case rel => exact ⟨j + 1, by omega, by go_num, hRd⟩
      case measure => simp [intOf]; omega
    · clear hN1 hN2
      have c2 : wr.cell? ⟨w.heap.size, 2, none⟩ = some (.slice a2 rs.length n2) := by rw [Lib.cell_of_heap hR.b1]; rfl
      go_wp2_with fail
      clear c1 d1 c2
      go_loopw [6] (fun i wr => ∃ j : Nat, j ≤ rs.length ∧ i = .int .i64 j ∧ RB w (.cells #[.slice a0 ar.length n0, .slice a1 ns.length n1, .slice a2 rs.length n2] 26) (.cells #[.slice b0 ar.length m0, .slice b1 ns.length m1, .slice b2 rs.length m2] 26) wr) (fun i _ => rs.length - (intOf i).toNat)
      case atStart => exact ⟨0, Nat.zero_le _, rfl, hR⟩
      case round =>
        clear hR
        obtain ⟨i, hi, rfl, hR⟩ := hrel
        have c2 : wr.cell? ⟨w.heap.size, 2, none⟩ = some (.slice a2 rs.length n2) := by rw [Lib.cell_of_heap hR.b1]; rfl
        have d2 : wr.cell? ⟨w.heap.size + 1, 2, none⟩ = some (.slice b2 rs.length m2) := by rw [Lib.cell_of_heap hR.b2]; rfl
        by_cases hil : i < rs.length
        · obtain ⟨xb, xo, rfl, p0, ⟨vt, p1, hT1⟩, p2, ⟨vb, p3, hB1⟩, p4⟩ := prules_at hL1 i hil
          obtain ⟨yb, yo, rfl, r0, ⟨ut, r1, hT2⟩, r2, ⟨ub, r3, hB2⟩, r4⟩ := prules_at hL2 i hil
          have HT1 : Hid (PTermsV w vt (Sc.ruleD rs i).terms) := hT1
          have HT2 : Hid (PTermsV w ut (Sc.ruleD rs i).terms) := hT2
          have HFI : Hid (RuleFit (Sc.ruleD rs i)) := HFR.out i hil
          obtain ⟨at1, ct1, rfl, _, _⟩ := hT1
          obtain ⟨at2, ct2, rfl, _, _⟩ := hT2
          obtain ⟨ab1, cb1, rfl, hLA1⟩ := hB1
          obtain ⟨ab2, cb2, rfl, hLA2⟩ := hB2
          have q0 := cell_below hR.bel p0
          have q1 := cell_below hR.bel p1
          have q2 := cell_below hR.bel p2
          have q3 := cell_below hR.bel p3
          have q4 := cell_below hR.bel p4
          have s0 := cell_below hR.bel r0
          have s1 := cell_below hR.bel r1
          have s2 := cell_below hR.bel r2
          have s3 := cell_below hR.bel r3
          have s4 := cell_below hR.bel r4
          clear p0 p1 p2 p3 p4 r0 r1 r2 r3 r4 hL1 hL2
          generalize hx : Sc.ruleD rs i = x at *
          clear hx
          go_upto_region 11 with fail
          go_cut [7, 8] (fun v8 v9 wx => ∃ pa pb : Nat, v8 = .pointer (some ⟨pa, 0, none⟩) ∧ v9 = .pointer (some ⟨pb, 0, none⟩) ∧ wx.heap[pa]? = some (pruObj x (.slice at1 x.terms.length ct1) (.slice ab1 x.body.length cb1)) ∧ wx.heap[pb]? = some (pruObj x (.slice at2 x.terms.length ct2) (.slice ab2 x.body.length cb2)) ∧ Below wr.heap.size wr wx)
          case first =>
            go_region_held3 (fun w' => w'.cell? ⟨w.heap.size, 2, none⟩ = some (.slice (some ⟨xb, xo, none⟩) rs.length n2) ∧ w'.cell? ⟨w.heap.size + 1, 2, none⟩ = some (.slice (some ⟨yb, yo, none⟩) rs.length m2) ∧ w'.cell? ⟨xb, xo + i * 5, none⟩ = some (.int .i64 x.pred) ∧ w'.cell? ⟨xb, xo + i * 5 + 1, none⟩ = some (.slice at1 x.terms.length ct1) ∧ w'.cell? ⟨xb, xo + i * 5 + 2, none⟩ = some (.int .i64 x.fold) ∧ w'.cell? ⟨xb, xo + i * 5 + 3, none⟩ = some (.slice ab1 x.body.length cb1) ∧ w'.cell? ⟨xb, xo + i * 5 + 4, none⟩ = some (.int .i64 x.vars) ∧
              w'.cell? ⟨yb, yo + i * 5, none⟩ = some (.int .i64 x.pred) ∧ w'.cell? ⟨yb, yo + i * 5 + 1, none⟩ = some (.slice at2 x.terms.length ct2) ∧ w'.cell? ⟨yb, yo + i * 5 + 2, none⟩ = some (.int .i64 x.fold) ∧ w'.cell? ⟨yb, yo + i * 5 + 3, none⟩ = some (.slice ab2 x.body.length cb2) ∧ w'.cell? ⟨yb, yo + i * 5 + 4, none⟩ = some (.int .i64 x.vars)) (go_keep) (fail)
            all_goals (go_wp2_with fail; go_meet)
            · exact ⟨_, _, rfl, rfl, (heap_two wr _ _).1, (heap_two wr _ _).2.1, (heap_two wr _ _).2.2⟩
            · exact ⟨_, _, rfl, rfl, (heap_two wr _ _).2.1, (heap_two wr _ _).1, (heap_two wr _ _).2.2⟩
          case rest =>
            obtain ⟨pa, pb, rfl, rfl, hpa, hpb, hbx⟩ := hcut
            generalize wc = wx at *
            have hRx := hR.below hbx
            clear c2 d2 q0 q1 q2 q3 q4 s0 s1 s2 s3 s4 hR hbx
            have k0 : wx.cell? ⟨pa, 0, none⟩ = some (.int .i64 x.pred) := by rw [Lib.cell_of_heap hpa]; rfl
            have k1 : wx.cell? ⟨pa, 1, none⟩ = some (.slice at1 x.terms.length ct1) := by rw [Lib.cell_of_heap hpa]; rfl
            have k2 : wx.cell? ⟨pa, 2, none⟩ = some (.int .i64 x.fold) := by rw [Lib.cell_of_heap hpa]; rfl
            have k3 : wx.cell? ⟨pa, 3, none⟩ = some (.slice ab1 x.body.length cb1) := by rw [Lib.cell_of_heap hpa]; rfl
            have k4 : wx.cell? ⟨pa, 4, none⟩ = some (.int .i64 x.vars) := by rw [Lib.cell_of_heap hpa]; rfl
            have t0 : wx.cell? ⟨pb, 0, none⟩ = some (.int .i64 x.pred) := by rw [Lib.cell_of_heap hpb]; rfl
            have t1 : wx.cell? ⟨pb, 1, none⟩ = some (.slice at2 x.terms.length ct2) := by rw [Lib.cell_of_heap hpb]; rfl
            have t2 : wx.cell? ⟨pb, 2, none⟩ = some (.int .i64 x.fold) := by rw [Lib.cell_of_heap hpb]; rfl
            have t3 : wx.cell? ⟨pb, 3, none⟩ = some (.slice ab2 x.body.length cb2) := by rw [Lib.cell_of_heap hpb]; rfl
            have t4 : wx.cell? ⟨pb, 4, none⟩ = some (.int .i64 x.vars) := by rw [Lib.cell_of_heap hpb]; rfl
            have e0 : (x.pred != x.pred) = false := by simp
            have e1 : (x.fold != x.fold) = false := by simp
            have e2 : (x.vars != x.vars) = false := by simp
            have e3 : ((x.body.length : Int) != (x.body.length : Int)) = false := by simp
            go_wp2_with fail
            refine Calls.mono (sameOwn_refl x.terms _ _ _ HFI.out.1 (ptermsV_below HT1.out hRx.bel) (ptermsV_below HT2.out hRx.bel)) ?_
            rintro e w3 ⟨rfl, hb3⟩
            have hR3 := hRx.below hb3
            have hpa3 := (hb3.block _ (heap_lt hpa)).trans hpa
            have hpb3 := (hb3.block _ (heap_lt hpb)).trans hpb
            clear k0 k1 k2 k3 k4 t0 t1 t2 t3 t4 hRx hb3 hpa hpb
            have k3 : w3.cell? ⟨pa, 3, none⟩ = some (.slice ab1 x.body.length cb1) := by rw [Lib.cell_of_heap hpa3]; rfl
            have t3 : w3.cell? ⟨pb, 3, none⟩ = some (.slice ab2 x.body.length cb2) := by rw [Lib.cell_of_heap hpb3]; rfl
            have hfb := HFI.out.2.1
            go_wp2_with fail
            clear k3 t3
            go_loopw [9] (fun v wq => ∃ m : Nat, m ≤ x.body.length ∧ v = .int .i64 m ∧ RB w (.cells #[.slice a0 ar.length n0, .slice a1 ns.length n1, .slice (some ⟨xb, xo, none⟩) rs.length n2] 26) (.cells #[.slice b0 ar.length m0, .slice b1 ns.length m1, .slice (some ⟨yb, yo, none⟩) rs.length m2] 26) wq ∧ wq.heap[pa]? = some (pruObj x (.slice at1 x.terms.length ct1) (.slice ab1 x.body.length cb1)) ∧ wq.heap[pb]? = some (pruObj x (.slice at2 x.terms.length ct2) (.slice ab2 x.body.length cb2))) (fun v _ => x.body.length - (intOf v).toNat)
            case atStart => exact ⟨0, Nat.zero_le _, rfl, hR3, hpa3, hpb3⟩
            case round =>
              clear hR3 hpa3 hpb3
              obtain ⟨m, hm, rfl, hR, hpa, hpb⟩ := hrel
              have k3 : wr.cell? ⟨pa, 3, none⟩ = some (.slice ab1 x.body.length cb1) := by rw [Lib.cell_of_heap hpa]; rfl
              have t3 : wr.cell? ⟨pb, 3, none⟩ = some (.slice ab2 x.body.length cb2) := by rw [Lib.cell_of_heap hpb]; rfl
              by_cases hml : m < x.body.length
              · obtain ⟨xb2, xo2, rfl, p0, p1, p2, vt, p3, hT1⟩ := plits_at hLA1 m hml
                obtain ⟨yb2, yo2, rfl, r0, r1, r2, ut, r3, hT2⟩ := plits_at hLA2 m hml
                have HT3 : Hid (PTermsV w vt (Sc.litD x.body m).terms) := hT1
                have HT4 : Hid (PTermsV w ut (Sc.litD x.body m).terms) := hT2
                have HFL : Hid (LitFit (Sc.litD x.body m)) := HFI.out.2.2 m hml
                obtain ⟨at3, ct3, rfl, _, _⟩ := hT1
                obtain ⟨at4, ct4, rfl, _, _⟩ := hT2
                have q0 := cell_below hR.bel p0
                have q1 := cell_below hR.bel p1
                have q2 := cell_below hR.bel p2
                have q3 := cell_below hR.bel p3
                have s0 := cell_below hR.bel r0
                have s1 := cell_below hR.bel r1
                have s2 := cell_below hR.bel r2
                have s3 := cell_below hR.bel r3
                clear p0 p1 p2 p3 r0 r1 r2 r3 hLA1 hLA2 HT1 HT2
                generalize hy : Sc.litD x.body m = y at *
                clear hy
                go_upto_region 17 with fail
                go_cut [10, 11] (fun v8 v9 wx => ∃ pc pd : Nat, v8 = .pointer (some ⟨pc, 0, none⟩) ∧ v9 = .pointer (some ⟨pd, 0, none⟩) ∧ wx.heap[pc]? = some (pliObj y (.slice at3 y.terms.length ct3)) ∧ wx.heap[pd]? = some (pliObj y (.slice at4 y.terms.length ct4)) ∧ Below wr.heap.size wr wx)
                case first =>
                  go_region_held3 (fun w' => w'.cell? ⟨pa, 3, none⟩ = some (.slice (some ⟨xb2, xo2, none⟩) x.body.length cb1) ∧ w'.cell? ⟨pb, 3, none⟩ = some (.slice (some ⟨yb2, yo2, none⟩) x.body.length cb2) ∧ w'.cell? ⟨xb2, xo2 + m * 4, none⟩ = some (.int .i64 y.kind) ∧ w'.cell? ⟨xb2, xo2 + m * 4 + 1, none⟩ = some (.int .i64 y.op) ∧ w'.cell? ⟨xb2, xo2 + m * 4 + 2, none⟩ = some (.int .i64 y.pred) ∧ w'.cell? ⟨xb2, xo2 + m * 4 + 3, none⟩ = some (.slice at3 y.terms.length ct3) ∧
                    w'.cell? ⟨yb2, yo2 + m * 4, none⟩ = some (.int .i64 y.kind) ∧ w'.cell? ⟨yb2, yo2 + m * 4 + 1, none⟩ = some (.int .i64 y.op) ∧ w'.cell? ⟨yb2, yo2 + m * 4 + 2, none⟩ = some (.int .i64 y.pred) ∧ w'.cell? ⟨yb2, yo2 + m * 4 + 3, none⟩ = some (.slice at4 y.terms.length ct4)) (go_keep) (fail)
                  all_goals (go_wp2_with fail; go_meet)
                  · exact ⟨_, _, rfl, rfl, (heap_two wr _ _).1, (heap_two wr _ _).2.1, (heap_two wr _ _).2.2⟩
                  · exact ⟨_, _, rfl, rfl, (heap_two wr _ _).2.1, (heap_two wr _ _).1, (heap_two wr _ _).2.2⟩
                case rest =>
                  obtain ⟨pc, pd, rfl, rfl, hpc, hpd, hbx⟩ := hcut
                  generalize wc = wx2 at *
                  have hRx := hR.below hbx
                  have hpax := (hbx.block _ (heap_lt hpa)).trans hpa
                  have hpbx := (hbx.block _ (heap_lt hpb)).trans hpb
                  clear k3 t3 q0 q1 q2 q3 s0 s1 s2 s3 hR hbx hpa hpb
                  have k0 : wx2.cell? ⟨pc, 0, none⟩ = some (.int .i64 y.kind) := by rw [Lib.cell_of_heap hpc]; rfl
                  have k1 : wx2.cell? ⟨pc, 1, none⟩ = some (.int .i64 y.op) := by rw [Lib.cell_of_heap hpc]; rfl
                  have k2 : wx2.cell? ⟨pc, 2, none⟩ = some (.int .i64 y.pred) := by rw [Lib.cell_of_heap hpc]; rfl
                  have k3 : wx2.cell? ⟨pc, 3, none⟩ = some (.slice at3 y.terms.length ct3) := by rw [Lib.cell_of_heap hpc]; rfl
                  have t0 : wx2.cell? ⟨pd, 0, none⟩ = some (.int .i64 y.kind) := by rw [Lib.cell_of_heap hpd]; rfl
                  have t1 : wx2.cell? ⟨pd, 1, none⟩ = some (.int .i64 y.op) := by rw [Lib.cell_of_heap hpd]; rfl
                  have t2 : wx2.cell? ⟨pd, 2, none⟩ = some (.int .i64 y.pred) := by rw [Lib.cell_of_heap hpd]; rfl
                  have t3 : wx2.cell? ⟨pd, 3, none⟩ = some (.slice at4 y.terms.length ct4) := by rw [Lib.cell_of_heap hpd]; rfl
                  have f0 : (y.kind != y.kind) = false := by simp
                  have f1 : (y.op != y.op) = false := by simp
                  have f2 : (y.pred != y.pred) = false := by simp
                  go_wp2_with fail
                  refine Calls.mono (sameOwn_refl y.terms _ _ _ HFL.out (ptermsV_below HT3.out hRx.bel) (ptermsV_below HT4.out hRx.bel)) ?_
                  rintro e w3 ⟨rfl, hb3⟩
                  have hR3 := hRx.below hb3
                  have hpa3 := (hb3.block _ (heap_lt hpax)).trans hpax
                  have hpb3 := (hb3.block _ (heap_lt hpbx)).trans hpbx
                  clear k0 k1 k2 k3 t0 t1 t2 t3 hRx hb3 hpax hpbx hpc hpd
                  go_wp2_with fail
                  go_roundw
                  case rel => exact ⟨m + 1, by omega, by go_num, hR3, hpa3, hpb3⟩
                  case measure => simp [intOf]; omega
              · go_wp2_with fail
                go_roundw
                case rel => exact ⟨i + 1, by omega, by go_num, hR⟩
                case measure => simp [intOf]; omega
        · have hbb := hR.bel
          clear hL1 hL2
          go_wp2_with fail
          go_ret
          exact ⟨rfl, hbb⟩

end Go.Proofs.Ythenjegmigeieaa

/- What must be in any case: the small program's levels, needs and focus. -/
namespace Go.Proofs.Ythenjegmigeieaa
open Go.RowKit

theorem smallQ_levOut : St.levOut smallQ = [0, 0] := by kernel_rfl
theorem smallQ_needOut : St.needOut smallQ 1 = [true, true] := by kernel_rfl
theorem smallQ_need0 : St.needErr smallQ 0 = 0 := by kernel_rfl
theorem smallQ_focR : (St.focOut smallQ 0).rules = [] := by kernel_rfl
theorem smallQ_focA : (St.focOut smallQ 0).arity = [2, 2] := by kernel_rfl
theorem smallQ_focN : (St.focOut smallQ 0).names.length = 2 := by kernel_rfl
theorem smallQ_fit : ProgFit smallQ := by
  refine ⟨by decide, by decide, by decide, fun i hi => ?_⟩
  match i, hi with
  | 0, _ =>
    refine ⟨by decide, by decide, fun j hj => ?_⟩
    match j, hj with
    | 0, _ => exact (by decide : (2 : Nat) ≤ 9223372036854775807)
  | 1, _ =>
    refine ⟨by decide, by decide, fun j hj => ?_⟩
    match j, hj with
    | 0, _ => exact (by decide : (2 : Nat) ≤ 9223372036854775807)
    | 1, _ => exact (by decide : (2 : Nat) ≤ 9223372036854775807)
theorem ints_zero2 (y : World) : IntsV (y.alloc (.cells #[.int .i64 0, .int .i64 0] 3)) (.slice (some ⟨y.heap.size, 0, none⟩) 2 2) [0, 0] := by
  refine ⟨_, _, rfl, .inr ⟨_, 0, rfl, fun i hi => ?_⟩⟩
  match i, hi with
  | 0, _ => rw [Lib.cell_of_heap (rl_new y _)]; rfl
  | 1, _ => rw [Lib.cell_of_heap (rl_new y _)]; rfl

set_option maxRecDepth 100000 in
set_option maxHeartbeats 2000000 in
theorem strataBegun_any (w : World) : Calls Try.prog 4 #[] w fun e w' => e = .returned (.bool true) ∧ Below w.heap.size w w' := by
  have HS : Hid (∀ w, Calls Try.prog 10 #[] w fun e w' => ∃ ua un ur, e = .returned (progVal ua un ur) ∧ ProgV w' ua un ur smallQ ∧ Below w.heap.size w w') := small_any
  have HL : Hid (∀ w ua un ur, ProgV w ua un ur smallQ → Calls Try.prog 5 #[progVal ua un ur] w fun e w' => ∃ ao cap, e = .returned (.tuple #[.slice ao 2 cap, .int .i64 0]) ∧ IntsV w' (.slice ao 2 cap) [0, 0] ∧ Below w.heap.size w w') := by
    intro w ua un ur hP
    have h := Levels_any smallQ ua un ur w hP smallQ_fit
    rw [smallQ_levErr, smallQ_levOut] at h
    refine h.mono ?_
    rintro e w' ⟨v, rfl, hv, hb⟩
    obtain ⟨ao, cap, rfl, _⟩ := id hv
    exact ⟨ao, cap, rfl, hv, hb⟩
  have HN : Hid (∀ w ua un ur, ProgV w ua un ur smallQ → Calls Try.prog 11 #[progVal ua un ur, .int .i64 1] w fun e w' => ∃ b off cap, e = .returned (.tuple #[.slice (some ⟨b, off, none⟩) 2 cap, .int .i64 0]) ∧ (w'.cell? ⟨b, off, none⟩ = some (.bool true) ∧ w'.cell? ⟨b, off + 1, none⟩ = some (.bool true)) ∧ Below w.heap.size w w') := by
    intro w ua un ur hP
    have h := Needs_any smallQ 1 ua un ur w hP smallQ_fit
    rw [smallQ_needErr, smallQ_needOut] at h
    refine h.mono ?_
    rintro e w' ⟨v, rfl, ⟨ao, cap, rfl, _, hA⟩, hb⟩
    rcases hA with h0 | ⟨b, off, rfl, hc⟩
    · cases h0
    · exact ⟨b, off, cap, rfl, ⟨hc 0 (by decide), hc 1 (by decide)⟩, hb⟩
  have HF : Hid (∀ w ua un ur, ProgV w ua un ur smallQ → Calls Try.prog 6 #[progVal ua un ur, .int .i64 0] w fun e w' => ∃ a0 n0 a1 n1 a2 n2, e = .returned (.tuple #[progVal (.slice a0 2 n0) (.slice a1 2 n1) (.slice a2 0 n2), .int .i64 0]) ∧ Below w.heap.size w w') := by
    intro w ua un ur hP
    have h := Focus_any smallQ 0 ua un ur w hP smallQ_fit
    rw [smallQ_need0] at h
    refine h.mono ?_
    rintro e w' ⟨va, vn, vr, rfl, hR, hb⟩
    obtain ⟨a0, n0, rfl, _⟩ := id hR.ar
    obtain ⟨a1, n1, rfl, _⟩ := id hR.nm
    obtain ⟨a2, n2, rfl, _⟩ := id hR.rl
    rw [smallQ_focA, smallQ_focR, smallQ_focN]
    exact ⟨a0, n0, a1, n1, a2, n2, rfl, hb⟩
  go_enter Try.func4, Try.ntmps4
  go_wp2_with fail
  refine Calls.mono (HS.out _) ?_
  rintro e w1 ⟨ua, un, ur, rfl, hP1, hb1⟩
  go_wp2_with fail
  refine Calls.mono (HL.out _ _ _ _ hP1) ?_
  rintro e w2 ⟨la, lc, rfl, hL, hb2⟩
  have hbw2 := hb1.trans (hb2.mono hb1.size)
  clear hP1 hb1 hb2
  go_wp2_with fail
  refine Calls.mono (HS.out _) ?_
  rintro e w3 ⟨ua, un, ur, rfl, hP3, hb3⟩
  have hL3 := intsV_below hL hb3
  have hbw3 := hbw2.trans (hb3.mono hbw2.size)
  clear hL hb3 hbw2
  go_wp2_with fail
  refine Calls.mono (HN.out _ _ _ _ hP3) ?_
  rintro e w4 ⟨nb, no, nc, rfl, ⟨q0, q1⟩, hb4⟩
  have hL4 := intsV_below hL3 hb4
  have hbw4 := hbw3.trans (hb4.mono hbw3.size)
  clear hL3 hb4 hbw3 hP3
  go_wp2_with fail
  refine Calls.mono (HS.out _) ?_
  rintro e w5 ⟨ua, un, ur, rfl, hP5, hb5⟩
  have hL5 := intsV_below hL4 hb5
  have hbw5 := hbw4.trans (hb5.mono hbw4.size)
  have q05 := cell_below hb5 q0
  have q15 := cell_below hb5 q1
  clear hL4 hb5 hbw4 q0 q1
  go_wp2_with fail
  refine Calls.mono (HF.out _ _ _ _ hP5) ?_
  rintro e w6 ⟨fa, fc, fn, fo, fr, fm, rfl, hb6⟩
  have bX : Below w6.heap.size w6 (w6.alloc (.cells #[.slice fa 2 fc, .slice fn 2 fo, .slice fr 0 fm] 26)) := (Below.refl _ _).alloc (Nat.le_refl _) _
  have hX := rl_new w6 (.cells #[.slice fa 2 fc, .slice fn 2 fo, .slice fr 0 fm] 26)
  have hb7 := hb6.trans (bX.mono hb6.size)
  have hL7 := intsV_below hL5 hb7
  have hbw7 := hbw5.trans (hb7.mono hbw5.size)
  have q07 := cell_below hb7 q05
  have q17 := cell_below hb7 q15
  clear hL5 hb6 hb7 hbw5 q05 q15 hP5 bX
  have d0 : (w6.alloc (.cells #[.slice fa 2 fc, .slice fn 2 fo, .slice fr 0 fm] 26)).cell? ⟨w6.heap.size, 0, none⟩ = some (.slice fa 2 fc) := by rw [Lib.cell_of_heap hX]; rfl
  have d2 : (w6.alloc (.cells #[.slice fa 2 fc, .slice fn 2 fo, .slice fr 0 fm] 26)).cell? ⟨w6.heap.size, 2, none⟩ = some (.slice fr 0 fm) := by rw [Lib.cell_of_heap hX]; rfl
  go_wp2_with fail
  have hs7 : (w6.alloc (.cells #[.slice fa 2 fc, .slice fn 2 fo, .slice fr 0 fm] 26)).heap.size = w6.heap.size + 1 := by simp
  generalize hXB : w6.heap.size = XB at *
  generalize w6.alloc (.cells #[.slice fa 2 fc, .slice fn 2 fo, .slice fr 0 fm] 26) = w7 at *
  have bY : Below w7.heap.size w7 (w7.alloc (.cells #[.int .i64 0, .int .i64 0] 3)) := (Below.refl _ _).alloc (Nat.le_refl _) _
  have hz := ints_zero2 w7
  rw [hs7] at hz
  have hL8 := intsV_below hL7 bY
  refine Calls.mono (sameInts_refl [0, 0] _ _ _ (by decide) hL8 hz) ?_
  rintro e w9 ⟨rfl, hb9⟩
  have hb8 := bY.trans (hb9.mono bY.size)
  have e0 := cell_below hb8 q07
  have e1 := cell_below hb8 q17
  have f0 := cell_below hb8 d0
  have f2 := cell_below hb8 d2
  have hbw9 := hbw7.trans (hb8.mono hbw7.size)
  clear hz hL8 hL7 hb9 q07 q17 d0 d2 hX
  go_wp2_with fail
  exact bodyPost_ret (v := .bool true) (by simp [results, Try.results4, go_sem]) rfl ⟨rfl, hbw9⟩
end Go.Proofs.Ythenjegmigeieaa

/- The law StrataLeast. -/
namespace Go.Proofs.Ythenjegmigeieaa
open Go.RowKit

theorem focOut_fit {p : Sc.Prog} (k : Int) (h : ProgFit p) : ProgFit (St.focOut p k) := by
  unfold St.focOut
  split
  · refine ⟨h.ar, h.nm, Nat.le_trans (List.length_filter_le _ _) h.rl, fun i hi => ?_⟩
    have hm : Sc.ruleD (St.focus p k.toNat).rules i ∈ p.rules := by
      have h1 : Sc.ruleD (St.focus p k.toNat).rules i = (St.focus p k.toNat).rules[i] := by simp [Sc.ruleD, hi]
      rw [h1]
      exact (List.mem_filter.mp (List.getElem_mem hi)).1
    obtain ⟨j, hj, he⟩ := List.mem_iff_getElem.mp hm
    have h2 := h.rs j hj
    have h3 : Sc.ruleD p.rules j = p.rules[j] := by simp [Sc.ruleD, hj]
    rw [h3, he] at h2
    exact h2
  · exact ⟨Nat.zero_le _, Nat.zero_le _, Nat.zero_le _, fun i hi => absurd hi (Nat.not_lt_zero _)⟩
theorem levOut_fit {p : Sc.Prog} (h : ProgFit p) : (St.levOut p).length ≤ 9223372036854775807 := by
  unfold St.levOut
  split
  · rw [St.level_length]; exact h.ar
  · exact Nat.zero_le _
theorem levErr_four {p : Sc.Prog} (o : List Int) (hc : Sc.check p = 0) (h : ¬ St.levErr p = 0) : St.fitsB p o = false := by
  cases hb : St.fitsB p o with
  | false => rfl
  | true => exact absurd (St.levErr_fits hc ((St.fitsB_iff p o).mp hb)) h
theorem levOut_none {p : Sc.Prog} (h : ¬ St.levErr p = 0) : St.levOut p = [] := by
  unfold St.levOut
  split
  · rename_i hc
    exact absurd (St.levErr_flat hc.1 hc.2).1 h
  · rfl
theorem lev_check {p : Sc.Prog} (h : St.levErr p = 0) : Sc.check p = 0 := by
  unfold St.levErr at h
  split at h
  · assumption
  · exact absurd h (by assumption)

set_option maxRecDepth 100000 in
set_option maxHeartbeats 4000000 in
theorem strataLeast_any (p : Sc.Prog) (k : Int) (o : List Int) (va vn vr vo : Value) (w : World) (hP : ProgV w va vn vr p) (hF : ProgFit p) (hO : IntsV w vo o) (hol : o.length ≤ 9223372036854775807) :
    Calls Try.prog 3 #[progVal va vn vr, .int .i64 k, vo] w fun e w' => e = .returned (.bool true) ∧ Below w.heap.size w w' := by
  obtain ⟨a0, n0, rfl, _⟩ := id hP.ar
  obtain ⟨a1, n1, rfl, _⟩ := id hP.nm
  obtain ⟨a2, n2, rfl, _⟩ := id hP.rl
  obtain ⟨ao, co, rfl, _⟩ := id hO
  have HFT : Hid _ := hF
  have b0 : Below w.heap.size w (w.alloc (.cells #[.slice a0 p.arity.length n0, .slice a1 p.names.length n1, .slice a2 p.rules.length n2] 26)) := (Below.refl w.heap.size w).alloc (Nat.le_refl _) _
  have HX1 : Hid _ := heap_alloc_new w (.cells #[.slice a0 p.arity.length n0, .slice a1 p.names.length n1, .slice a2 p.rules.length n2] 26)
  have HP1 : Hid _ := hP.below b0
  have HO1 : Hid _ := intsV_below hO b0
  have HB1 : Hid _ := b0
  clear hP hF hO b0
  go_enter Try.func3, Try.ntmps3
  go_wp2_with fail
  generalize w.alloc (.cells #[.slice a0 p.arity.length n0, .slice a1 p.names.length n1, .slice a2 p.rules.length n2] 26) = w1 at *
  refine Calls.mono (strataBegun_any w1) ?_
  rintro _ w2 ⟨rfl, hb2⟩
  have HX2 : Hid _ := (hb2.block _ (heap_lt HX1.out)).trans HX1.out
  have HP2 : Hid _ := HP1.out.below hb2
  have HO2 : Hid _ := intsV_below HO1.out hb2
  have HB2 : Hid _ := HB1.out.trans (hb2.mono HB1.out.size)
  clear HX1 HP1 HO1 HB1 hb2
  have c0 : w2.cell? ⟨w.heap.size, 0, none⟩ = some (.slice a0 p.arity.length n0) := by rw [Lib.cell_of_heap HX2.out]; rfl
  have c1 : w2.cell? ⟨w.heap.size, 1, none⟩ = some (.slice a1 p.names.length n1) := by rw [Lib.cell_of_heap HX2.out]; rfl
  have c2 : w2.cell? ⟨w.heap.size, 2, none⟩ = some (.slice a2 p.rules.length n2) := by rw [Lib.cell_of_heap HX2.out]; rfl
  go_wp2_with fail
  clear c0 c1 c2
  refine Calls.mono (Levels_any p _ _ _ w2 HP2.out HFT.out) ?_
  rintro _ w3 ⟨lv, rfl, hL, hb3⟩
  obtain ⟨la, lc, rfl, _⟩ := id hL
  have HL3 : Hid _ := hL
  clear hL
  have HX3 : Hid _ := (hb3.block _ (heap_lt HX2.out)).trans HX2.out
  have HP3 : Hid _ := HP2.out.below hb3
  have HO3 : Hid _ := intsV_below HO2.out hb3
  have HB3 : Hid _ := HB2.out.trans (hb3.mono HB2.out.size)
  clear HX2 HP2 HO2 HB2 hb3
  have c0 : w3.cell? ⟨w.heap.size, 0, none⟩ = some (.slice a0 p.arity.length n0) := by rw [Lib.cell_of_heap HX3.out]; rfl
  have c1 : w3.cell? ⟨w.heap.size, 1, none⟩ = some (.slice a1 p.names.length n1) := by rw [Lib.cell_of_heap HX3.out]; rfl
  have c2 : w3.cell? ⟨w.heap.size, 2, none⟩ = some (.slice a2 p.rules.length n2) := by rw [Lib.cell_of_heap HX3.out]; rfl
  go_wp2_with fail
  clear c0 c1 c2
  refine Calls.mono (Focus_any p k _ _ _ w3 HP3.out HFT.out) ?_
  rintro _ w4 ⟨ua, un, ur, rfl, hQ, hb4⟩
  obtain ⟨f0, m0, rfl, _⟩ := id hQ.ar
  obtain ⟨f1, m1, rfl, _⟩ := id hQ.nm
  obtain ⟨f2, m2, rfl, _⟩ := id hQ.rl
  have bY : Below w4.heap.size w4 (w4.alloc (.cells #[.slice f0 (St.focOut p k).arity.length m0, .slice f1 (St.focOut p k).names.length m1, .slice f2 (St.focOut p k).rules.length m2] 26)) := (Below.refl _ _).alloc (Nat.le_refl _) _
  have hb5 := hb4.trans (bY.mono hb4.size)
  have HQ5 : Hid _ := hQ.below bY
  have HY5 : Hid _ := heap_alloc_new w4 (.cells #[.slice f0 (St.focOut p k).arity.length m0, .slice f1 (St.focOut p k).names.length m1, .slice f2 (St.focOut p k).rules.length m2] 26)
  clear hQ hb4 bY
  have HX5 : Hid _ := (hb5.block _ (heap_lt HX3.out)).trans HX3.out
  have HP5 : Hid _ := HP3.out.below hb5
  have HO5 : Hid _ := intsV_below HO3.out hb5
  have HB5 : Hid _ := HB3.out.trans (hb5.mono HB3.out.size)
  have HL5 : Hid _ := intsV_below HL3.out hb5
  clear HX3 HP3 HO3 HB3 HL3 hb5
  generalize hW5 : w4.alloc (.cells #[.slice f0 (St.focOut p k).arity.length m0, .slice f1 (St.focOut p k).names.length m1, .slice f2 (St.focOut p k).rules.length m2] 26) = w5 at HX5 HP5 HO5 HB5 HL5 HQ5 HY5
  go_upto_region 5 with fail
  generalize w4.heap.size = YB at HY5 ⊢
  clear hW5
  by_cases hN : St.needErr p k = 0
  · have HN : Hid _ := hN
    rw [hN]
    clear hN
    have d0 : w5.cell? ⟨YB, 0, none⟩ = some (.slice f0 (St.focOut p k).arity.length m0) := by rw [Lib.cell_of_heap HY5.out]; rfl
    have d1 : w5.cell? ⟨YB, 1, none⟩ = some (.slice f1 (St.focOut p k).names.length m1) := by rw [Lib.cell_of_heap HY5.out]; rfl
    have d2 : w5.cell? ⟨YB, 2, none⟩ = some (.slice f2 (St.focOut p k).rules.length m2) := by rw [Lib.cell_of_heap HY5.out]; rfl
    go_wp2_with fail
    clear d0 d1 d2
    refine Calls.mono (Focus_any (St.focOut p k) k _ _ _ w5 HQ5.out (focOut_fit k HFT.out)) ?_
    rintro _ w6 ⟨ga, gn, gr, rfl, hR, hb6⟩
    rw [St.focOut_foc HN.out] at hR
    rw [St.needErr_foc HN.out]
    obtain ⟨g0, k0, rfl, _⟩ := id hR.ar
    obtain ⟨g1, k1, rfl, _⟩ := id hR.nm
    obtain ⟨g2, k2, rfl, _⟩ := id hR.rl
    have bZ : Below w6.heap.size w6 (w6.alloc (.cells #[.slice g0 (St.focOut p k).arity.length k0, .slice g1 (St.focOut p k).names.length k1, .slice g2 (St.focOut p k).rules.length k2] 26)) := (Below.refl _ _).alloc (Nat.le_refl _) _
    have hb7 := hb6.trans (bZ.mono hb6.size)
    have HR7 : Hid _ := hR.below bZ
    have HZ7 : Hid _ := heap_alloc_new w6 (.cells #[.slice g0 (St.focOut p k).arity.length k0, .slice g1 (St.focOut p k).names.length k1, .slice g2 (St.focOut p k).rules.length k2] 26)
    clear hR hb6 bZ
    have HX7 : Hid _ := (hb7.block _ (heap_lt HX5.out)).trans HX5.out
    have HP7 : Hid _ := HP5.out.below hb7
    have HO7 : Hid _ := intsV_below HO5.out hb7
    have HB7 : Hid _ := HB5.out.trans (hb7.mono HB5.out.size)
    have HL7 : Hid _ := intsV_below HL5.out hb7
    have HQ7 : Hid _ := HQ5.out.below hb7
    have HY7 : Hid _ := (hb7.block _ (heap_lt HY5.out)).trans HY5.out
    clear HX5 HP5 HO5 HB5 HL5 HQ5 HY5 hb7
    generalize hW7 : w6.alloc (.cells #[.slice g0 (St.focOut p k).arity.length k0, .slice g1 (St.focOut p k).names.length k1, .slice g2 (St.focOut p k).rules.length k2] 26) = w7 at HX7 HP7 HO7 HB7 HL7 HQ7 HY7 HR7 HZ7
    have d0 : w7.cell? ⟨YB, 0, none⟩ = some (.slice f0 (St.focOut p k).arity.length m0) := by rw [Lib.cell_of_heap HY7.out]; rfl
    have d1 : w7.cell? ⟨YB, 1, none⟩ = some (.slice f1 (St.focOut p k).names.length m1) := by rw [Lib.cell_of_heap HY7.out]; rfl
    have d2 : w7.cell? ⟨YB, 2, none⟩ = some (.slice f2 (St.focOut p k).rules.length m2) := by rw [Lib.cell_of_heap HY7.out]; rfl
    go_upto_region 7 with fail
    generalize w6.heap.size = ZB at HZ7 ⊢
    clear hW7
    have z0 : w7.cell? ⟨ZB, 0, none⟩ = some (.slice g0 (St.focOut p k).arity.length k0) := by rw [Lib.cell_of_heap HZ7.out]; rfl
    have z1 : w7.cell? ⟨ZB, 1, none⟩ = some (.slice g1 (St.focOut p k).names.length k1) := by rw [Lib.cell_of_heap HZ7.out]; rfl
    have z2 : w7.cell? ⟨ZB, 2, none⟩ = some (.slice g2 (St.focOut p k).rules.length k2) := by rw [Lib.cell_of_heap HZ7.out]; rfl
    go_wp2_with fail
    clear d0 d1 d2 z0 z1 z2
    refine Calls.mono (sameProg_refl (St.focOut p k) _ _ _ _ _ _ w7 HQ7.out HR7.out (focOut_fit k HFT.out)) ?_
    rintro _ w8 ⟨rfl, hb8⟩
    have HX8 : Hid _ := (hb8.block _ (heap_lt HX7.out)).trans HX7.out
    have HP8 : Hid _ := HP7.out.below hb8
    have HO8 : Hid _ := intsV_below HO7.out hb8
    have HB8 : Hid _ := HB7.out.trans (hb8.mono HB7.out.size)
    have HL8 : Hid _ := intsV_below HL7.out hb8
    have HQ8 : Hid _ := HQ7.out.below hb8
    have HY8 : Hid _ := (hb8.block _ (heap_lt HY7.out)).trans HY7.out
    have HR8 : Hid _ := HR7.out.below hb8
    have HZ8 : Hid _ := (hb8.block _ (heap_lt HZ7.out)).trans HZ7.out
    clear HX7 HP7 HO7 HB7 HL7 HQ7 HY7 HR7 HZ7 hb8
    clear HQ8 HY8 HR8 HZ8
    by_cases hE : St.levErr p = 0
    · have HC : Hid _ := lev_check hE
      have HE : Hid _ := hE
      rw [hE]
      clear hE
      have c0 : w8.cell? ⟨w.heap.size, 0, none⟩ = some (.slice a0 p.arity.length n0) := by rw [Lib.cell_of_heap HX8.out]; rfl
      have c1 : w8.cell? ⟨w.heap.size, 1, none⟩ = some (.slice a1 p.names.length n1) := by rw [Lib.cell_of_heap HX8.out]; rfl
      have c2 : w8.cell? ⟨w.heap.size, 2, none⟩ = some (.slice a2 p.rules.length n2) := by rw [Lib.cell_of_heap HX8.out]; rfl
      go_wp2_with fail
      clear c0 c1 c2
      refine Calls.mono (fits_any p (St.levOut p) _ _ _ _ w8 HP8.out HL8.out (levOut_fit HFT.out) HC.out) ?_
      rintro _ w9 ⟨rfl, hb9⟩
      rw [(St.fitsB_iff p _).mpr (St.levOut_fits HE.out)]
      have HX9 : Hid _ := (hb9.block _ (heap_lt HX8.out)).trans HX8.out
      have HP9 : Hid _ := HP8.out.below hb9
      have HO9 : Hid _ := intsV_below HO8.out hb9
      have HB9 : Hid _ := HB8.out.trans (hb9.mono HB8.out.size)
      have HL9 : Hid _ := intsV_below HL8.out hb9
      clear HX8 HP8 HO8 HB8 HL8 hb9
      have c0 : w9.cell? ⟨w.heap.size, 0, none⟩ = some (.slice a0 p.arity.length n0) := by rw [Lib.cell_of_heap HX9.out]; rfl
      have c1 : w9.cell? ⟨w.heap.size, 1, none⟩ = some (.slice a1 p.names.length n1) := by rw [Lib.cell_of_heap HX9.out]; rfl
      have c2 : w9.cell? ⟨w.heap.size, 2, none⟩ = some (.slice a2 p.rules.length n2) := by rw [Lib.cell_of_heap HX9.out]; rfl
      go_wp2_with fail
      clear c0 c1 c2
      refine Calls.mono (fits_any p o _ _ _ _ w9 HP9.out HO9.out hol HC.out) ?_
      rintro _ w10 ⟨rfl, hb10⟩
      have HX10 : Hid _ := (hb10.block _ (heap_lt HX9.out)).trans HX9.out
      have HP10 : Hid _ := HP9.out.below hb10
      have HO10 : Hid _ := intsV_below HO9.out hb10
      have HB10 : Hid _ := HB9.out.trans (hb10.mono HB9.out.size)
      have HL10 : Hid _ := intsV_below HL9.out hb10
      clear HX9 HP9 HO9 HB9 HL9 hb10
      by_cases hf : St.fitsB p o = true
      · have HLE : Hid _ := fun i => St.levOut_least HE.out ((St.fitsB_iff p o).mp hf) i
        have hln : o.length = (St.levOut p).length := by
          rw [((St.fitsB_iff p o).mp hf).1, (St.levOut_fits HE.out).1]
        have HLN : Hid _ := hln
        have hlf := levOut_fit HFT.out
        rw [hf]
        clear hf hln
        obtain ⟨_, _, hv1, hLA⟩ := id HL10.out
        injection hv1 with hv1 hv2 hv3
        subst hv1 hv3
        obtain ⟨_, _, hv4, hOA⟩ := id HO10.out
        injection hv4 with hv4 hv5 hv6
        subst hv4 hv6
        have HLA : Hid _ := hLA
        have HOA : Hid _ := hOA
        clear hLA hOA hv2 hv5
        go_wp2_with fail
        go_loopw [13] (fun i13 wr => ∃ i : Nat, i ≤ (St.levOut p).length ∧ i13 = .int .i64 i ∧ Hid (Below w10.heap.size w10 wr)) (fun i13 _ => (St.levOut p).length - (intOf i13).toNat)
        case atStart => exact ⟨0, Nat.zero_le _, rfl, Below.refl _ _⟩
        case round =>
          obtain ⟨i, hi, rfl, HBW⟩ := hrel
          by_cases hil : i < (St.levOut p).length
          · obtain ⟨b, off, rfl, q0⟩ := ints_at HLA.out i hil
            obtain ⟨b', off', rfl, q1⟩ := ints_at HOA.out i (by rw [HLN.out]; exact hil)
            have r0 := cell_below HBW.out q0
            have r1 := cell_below HBW.out q1
            have hle : Sc.intD (St.levOut p) i ≤ Sc.intD o i := HLE.out i
            have hil2 : i < o.length := by rw [HLN.out]; exact hil
            have hd : decide (Sc.intD o i < Sc.intD (St.levOut p) i) = false := decide_eq_false (by omega)
            clear q0 q1 hle
            generalize Sc.intD (St.levOut p) i = A at *
            generalize Sc.intD o i = Bv at *
            go_wp2_with fail
            go_quiet (fail)
            go_wp2_with fail
            go_roundw
            case rel => exact ⟨i + 1, hil, by go_num, HBW.out.trans ((blw_drewN _ _).mono HBW.out.size)⟩
            case measure => simp [intOf]; omega
          · have hdd : decide (i < (St.levOut p).length) = false := decide_eq_false hil
            go_wp2_with fail
            go_ret
            exact ⟨rfl, HB10.out.trans (HBW.out.mono HB10.out.size)⟩
      · rw [Bool.eq_false_iff.mpr hf]
        go_wp2_with fail
        go_ret
        exact ⟨rfl, HB10.out⟩
    · have HE : Hid _ := hE
      have HLV : Hid _ := levOut_none hE
      have hl0 : (St.levOut p).length = 0 := by rw [HLV.out]; rfl
      have hz1 : (St.levErr p == 0) = false := by simpa using hE
      have hz2 : (St.levErr p != 0) = true := by simpa using hE
      by_cases h4 : St.levErr p = 4
      · rw [h4]
        clear hz1 hz2 hE h4
        have c0 : w8.cell? ⟨w.heap.size, 0, none⟩ = some (.slice a0 p.arity.length n0) := by rw [Lib.cell_of_heap HX8.out]; rfl
        have c1 : w8.cell? ⟨w.heap.size, 1, none⟩ = some (.slice a1 p.names.length n1) := by rw [Lib.cell_of_heap HX8.out]; rfl
        have c2 : w8.cell? ⟨w.heap.size, 2, none⟩ = some (.slice a2 p.rules.length n2) := by rw [Lib.cell_of_heap HX8.out]; rfl
        go_wp2_with fail
        clear c0 c1 c2
        refine Calls.mono (CheckProgram_any p _ _ _ w8 HP8.out HFT.out) ?_
        rintro _ w9 ⟨rfl, hb9⟩
        have HX9 : Hid _ := (hb9.block _ (heap_lt HX8.out)).trans HX8.out
        have HP9 : Hid _ := HP8.out.below hb9
        have HO9 : Hid _ := intsV_below HO8.out hb9
        have HB9 : Hid _ := HB8.out.trans (hb9.mono HB8.out.size)
        have HL9 : Hid _ := intsV_below HL8.out hb9
        clear HX8 HP8 HO8 HB8 HL8 hb9
        by_cases hc : Sc.check p = 0
        · have HC : Hid _ := hc
          rw [hc]
          clear hc
          have c0 : w9.cell? ⟨w.heap.size, 0, none⟩ = some (.slice a0 p.arity.length n0) := by rw [Lib.cell_of_heap HX9.out]; rfl
          have c1 : w9.cell? ⟨w.heap.size, 1, none⟩ = some (.slice a1 p.names.length n1) := by rw [Lib.cell_of_heap HX9.out]; rfl
          have c2 : w9.cell? ⟨w.heap.size, 2, none⟩ = some (.slice a2 p.rules.length n2) := by rw [Lib.cell_of_heap HX9.out]; rfl
          go_wp2_with fail
          clear c0 c1 c2
          refine Calls.mono (fits_any p o _ _ _ _ w9 HP9.out HO9.out hol HC.out) ?_
          rintro _ w10 ⟨rfl, hb10⟩
          rw [levErr_four o HC.out HE.out]
          have HX10 : Hid _ := (hb10.block _ (heap_lt HX9.out)).trans HX9.out
          have HP10 : Hid _ := HP9.out.below hb10
          have HO10 : Hid _ := intsV_below HO9.out hb10
          have HB10 : Hid _ := HB9.out.trans (hb10.mono HB9.out.size)
          have HL10 : Hid _ := intsV_below HL9.out hb10
          clear HX9 HP9 HO9 HB9 HL9 hb10
          go_wp2_with fail
          go_ret
          exact ⟨rfl, HB10.out⟩
        · have hc1 : (Sc.check p == 0) = false := by simpa using hc
          have hc2 : (Sc.check p != 0) = true := by simpa using hc
          clear hc
          generalize Sc.check p = E at *
          go_wp2_with fail
          go_ret
          exact ⟨rfl, HB9.out⟩
      · have h41 : (St.levErr p == 4) = false := by simpa using h4
        have h42 : (St.levErr p != 4) = true := by simpa using h4
        clear h4 hE HE HLV
        generalize St.levErr p = E at *
        go_wp2_with fail
        go_ret
        exact ⟨rfl, HB8.out⟩
  · have hn1 : (St.needErr p k == 0) = false := by simpa using hN
    clear hN
    generalize St.needErr p k = NE at *
    go_upto_region 9 with fail
    have HL8 : Hid _ := HL5.out
    have HX8 : Hid _ := HX5.out
    have HP8 : Hid _ := HP5.out
    have HO8 : Hid _ := HO5.out
    have HB8 : Hid _ := HB5.out
    clear HL5 HX5 HP5 HO5 HB5 HQ5 HY5
    generalize w5 = w8 at *
    by_cases hE : St.levErr p = 0
    · have HC : Hid _ := lev_check hE
      have HE : Hid _ := hE
      rw [hE]
      clear hE
      have c0 : w8.cell? ⟨w.heap.size, 0, none⟩ = some (.slice a0 p.arity.length n0) := by rw [Lib.cell_of_heap HX8.out]; rfl
      have c1 : w8.cell? ⟨w.heap.size, 1, none⟩ = some (.slice a1 p.names.length n1) := by rw [Lib.cell_of_heap HX8.out]; rfl
      have c2 : w8.cell? ⟨w.heap.size, 2, none⟩ = some (.slice a2 p.rules.length n2) := by rw [Lib.cell_of_heap HX8.out]; rfl
      go_wp2_with fail
      clear c0 c1 c2
      refine Calls.mono (fits_any p (St.levOut p) _ _ _ _ w8 HP8.out HL8.out (levOut_fit HFT.out) HC.out) ?_
      rintro _ w9 ⟨rfl, hb9⟩
      rw [(St.fitsB_iff p _).mpr (St.levOut_fits HE.out)]
      have HX9 : Hid _ := (hb9.block _ (heap_lt HX8.out)).trans HX8.out
      have HP9 : Hid _ := HP8.out.below hb9
      have HO9 : Hid _ := intsV_below HO8.out hb9
      have HB9 : Hid _ := HB8.out.trans (hb9.mono HB8.out.size)
      have HL9 : Hid _ := intsV_below HL8.out hb9
      clear HX8 HP8 HO8 HB8 HL8 hb9
      have c0 : w9.cell? ⟨w.heap.size, 0, none⟩ = some (.slice a0 p.arity.length n0) := by rw [Lib.cell_of_heap HX9.out]; rfl
      have c1 : w9.cell? ⟨w.heap.size, 1, none⟩ = some (.slice a1 p.names.length n1) := by rw [Lib.cell_of_heap HX9.out]; rfl
      have c2 : w9.cell? ⟨w.heap.size, 2, none⟩ = some (.slice a2 p.rules.length n2) := by rw [Lib.cell_of_heap HX9.out]; rfl
      go_wp2_with fail
      clear c0 c1 c2
      refine Calls.mono (fits_any p o _ _ _ _ w9 HP9.out HO9.out hol HC.out) ?_
      rintro _ w10 ⟨rfl, hb10⟩
      have HX10 : Hid _ := (hb10.block _ (heap_lt HX9.out)).trans HX9.out
      have HP10 : Hid _ := HP9.out.below hb10
      have HO10 : Hid _ := intsV_below HO9.out hb10
      have HB10 : Hid _ := HB9.out.trans (hb10.mono HB9.out.size)
      have HL10 : Hid _ := intsV_below HL9.out hb10
      clear HX9 HP9 HO9 HB9 HL9 hb10
      by_cases hf : St.fitsB p o = true
      · have HLE : Hid _ := fun i => St.levOut_least HE.out ((St.fitsB_iff p o).mp hf) i
        have hln : o.length = (St.levOut p).length := by
          rw [((St.fitsB_iff p o).mp hf).1, (St.levOut_fits HE.out).1]
        have HLN : Hid _ := hln
        have hlf := levOut_fit HFT.out
        rw [hf]
        clear hf hln
        obtain ⟨_, _, hv1, hLA⟩ := id HL10.out
        injection hv1 with hv1 hv2 hv3
        subst hv1 hv3
        obtain ⟨_, _, hv4, hOA⟩ := id HO10.out
        injection hv4 with hv4 hv5 hv6
        subst hv4 hv6
        have HLA : Hid _ := hLA
        have HOA : Hid _ := hOA
        clear hLA hOA hv2 hv5
        go_wp2_with fail
        go_loopw [13] (fun i13 wr => ∃ i : Nat, i ≤ (St.levOut p).length ∧ i13 = .int .i64 i ∧ Hid (Below w10.heap.size w10 wr)) (fun i13 _ => (St.levOut p).length - (intOf i13).toNat)
        case atStart => exact ⟨0, Nat.zero_le _, rfl, Below.refl _ _⟩
        case round =>
          obtain ⟨i, hi, rfl, HBW⟩ := hrel
          by_cases hil : i < (St.levOut p).length
          · obtain ⟨b, off, rfl, q0⟩ := ints_at HLA.out i hil
            obtain ⟨b', off', rfl, q1⟩ := ints_at HOA.out i (by rw [HLN.out]; exact hil)
            have r0 := cell_below HBW.out q0
            have r1 := cell_below HBW.out q1
            have hle : Sc.intD (St.levOut p) i ≤ Sc.intD o i := HLE.out i
            have hil2 : i < o.length := by rw [HLN.out]; exact hil
            have hd : decide (Sc.intD o i < Sc.intD (St.levOut p) i) = false := decide_eq_false (by omega)
            clear q0 q1 hle
            generalize Sc.intD (St.levOut p) i = A at *
            generalize Sc.intD o i = Bv at *
            go_wp2_with fail
            go_quiet (fail)
            go_wp2_with fail
            go_roundw
            case rel => exact ⟨i + 1, hil, by go_num, HBW.out.trans ((blw_drewN _ _).mono HBW.out.size)⟩
            case measure => simp [intOf]; omega
          · have hdd : decide (i < (St.levOut p).length) = false := decide_eq_false hil
            go_wp2_with fail
            go_ret
            exact ⟨rfl, HB10.out.trans (HBW.out.mono HB10.out.size)⟩
      · rw [Bool.eq_false_iff.mpr hf]
        go_wp2_with fail
        go_ret
        exact ⟨rfl, HB10.out⟩
    · have HE : Hid _ := hE
      have HLV : Hid _ := levOut_none hE
      have hl0 : (St.levOut p).length = 0 := by rw [HLV.out]; rfl
      have hz1 : (St.levErr p == 0) = false := by simpa using hE
      have hz2 : (St.levErr p != 0) = true := by simpa using hE
      by_cases h4 : St.levErr p = 4
      · rw [h4]
        clear hz1 hz2 hE h4
        have c0 : w8.cell? ⟨w.heap.size, 0, none⟩ = some (.slice a0 p.arity.length n0) := by rw [Lib.cell_of_heap HX8.out]; rfl
        have c1 : w8.cell? ⟨w.heap.size, 1, none⟩ = some (.slice a1 p.names.length n1) := by rw [Lib.cell_of_heap HX8.out]; rfl
        have c2 : w8.cell? ⟨w.heap.size, 2, none⟩ = some (.slice a2 p.rules.length n2) := by rw [Lib.cell_of_heap HX8.out]; rfl
        go_wp2_with fail
        clear c0 c1 c2
        refine Calls.mono (CheckProgram_any p _ _ _ w8 HP8.out HFT.out) ?_
        rintro _ w9 ⟨rfl, hb9⟩
        have HX9 : Hid _ := (hb9.block _ (heap_lt HX8.out)).trans HX8.out
        have HP9 : Hid _ := HP8.out.below hb9
        have HO9 : Hid _ := intsV_below HO8.out hb9
        have HB9 : Hid _ := HB8.out.trans (hb9.mono HB8.out.size)
        have HL9 : Hid _ := intsV_below HL8.out hb9
        clear HX8 HP8 HO8 HB8 HL8 hb9
        by_cases hc : Sc.check p = 0
        · have HC : Hid _ := hc
          rw [hc]
          clear hc
          have c0 : w9.cell? ⟨w.heap.size, 0, none⟩ = some (.slice a0 p.arity.length n0) := by rw [Lib.cell_of_heap HX9.out]; rfl
          have c1 : w9.cell? ⟨w.heap.size, 1, none⟩ = some (.slice a1 p.names.length n1) := by rw [Lib.cell_of_heap HX9.out]; rfl
          have c2 : w9.cell? ⟨w.heap.size, 2, none⟩ = some (.slice a2 p.rules.length n2) := by rw [Lib.cell_of_heap HX9.out]; rfl
          go_wp2_with fail
          clear c0 c1 c2
          refine Calls.mono (fits_any p o _ _ _ _ w9 HP9.out HO9.out hol HC.out) ?_
          rintro _ w10 ⟨rfl, hb10⟩
          rw [levErr_four o HC.out HE.out]
          have HX10 : Hid _ := (hb10.block _ (heap_lt HX9.out)).trans HX9.out
          have HP10 : Hid _ := HP9.out.below hb10
          have HO10 : Hid _ := intsV_below HO9.out hb10
          have HB10 : Hid _ := HB9.out.trans (hb10.mono HB9.out.size)
          have HL10 : Hid _ := intsV_below HL9.out hb10
          clear HX9 HP9 HO9 HB9 HL9 hb10
          go_wp2_with fail
          go_ret
          exact ⟨rfl, HB10.out⟩
        · have hc1 : (Sc.check p == 0) = false := by simpa using hc
          have hc2 : (Sc.check p != 0) = true := by simpa using hc
          clear hc
          generalize Sc.check p = E at *
          go_wp2_with fail
          go_ret
          exact ⟨rfl, HB9.out⟩
      · have h41 : (St.levErr p == 4) = false := by simpa using h4
        have h42 : (St.levErr p != 4) = true := by simpa using h4
        clear h4 hE HE HLV
        generalize St.levErr p = E at *
        go_wp2_with fail
        go_ret
        exact ⟨rfl, HB8.out⟩
end Go.Proofs.Ythenjegmigeieaa

/- A tree that came in, read out of memory. -/
namespace Go.Proofs.Ythenjegmigeieaa
open Go.RowKit

theorem A_cells24 : Try.prog.cellsOf 88 = 1 := by kernel_rfl
theorem A_cells22 : Try.prog.cellsOf 86 = 1 := by kernel_rfl
theorem A_cells40 : Try.prog.cellsOf 82 = 1 := by kernel_rfl
theorem A_cells41 : Try.prog.cellsOf 83 = 1 := by kernel_rfl
theorem A_cells43 : Try.prog.cellsOf 85 = 5 := by kernel_rfl
theorem A_cells49 : Try.prog.cellsOf 100 = 5 := by kernel_rfl
theorem A_cells71 : Try.prog.cellsOf 106 = 2 := by kernel_rfl
theorem A_cells3 : Try.prog.cellsOf 3 = 1 := by kernel_rfl
theorem A_cells9 : Try.prog.cellsOf 9 = 1 := by kernel_rfl

theorem list2 {l : List Value} (h : l.length = 2) : ∃ a b, l = [a, b] := by
  match l, h with
  | [a, b], _ => exact ⟨a, b, rfl⟩
theorem list5 {l : List Value} (h : l.length = 5) : ∃ a b c d e, l = [a, b, c, d, e] := by
  match l, h with
  | [a, b, c, d, e], _ => exact ⟨a, b, c, d, e, rfl⟩

section
variable {H : Type} {enc : TypeId × Value → H} {w : World} {base : Nat} {spare : Nat → Bool} {held : Bool}

/-- A slice whose elements can be read. -/
theorem open_row {α : Type} {st e : TypeId} {k : Nat} (ht : Try.prog.underlying st = some (.slice e)) (hk : Try.prog.cellsOf e = k) (hk0 : 0 < k) (d : α) (In : Nat → Nat → α → Prop)
    (el : ∀ n cs' y b off, cs'.length = k → (∀ j, j < k → w.cell? ⟨b, off + j, none⟩ = cs'[j]?) → DataW.trod enc Try.prog w base spare held n e cs' = some y → ∃ a, In b off a)
    {fuel : Nat} {v : Value} {x : DataW H × List MemPlace} (h : DataW.trod enc Try.prog w base spare held fuel st [v] = some x) :
    ∃ (ao : Option Addr) (l : List α) (cap : Nat), v = .slice ao l.length cap ∧ l.length ≤ 9223372036854775807 ∧ (l = [] ∨ ∃ b off, ao = some ⟨b, off, none⟩ ∧ ∀ i, i < l.length → In b (off + i * k) (l.getD i d)) := by
  haveI : Inhabited α := ⟨d⟩
  rcases Deep.open_slice ht h with ⟨hv, _⟩ | ⟨a, len, cap, m, n, D, Pl, hv, hb, hl, hm, hmm, hx, hel⟩
  · have hv' : v = .slice none 0 0 := by simpa using hv
    exact ⟨none, [], 0, hv', by simp, .inl rfl⟩
  · have hv' : v = .slice (some a) len cap := by simpa using hv
    have hlm : len ≤ m := by rw [hmm]; split <;> omega
    by_cases h0 : len = 0
    · subst h0
      exact ⟨some a, [], cap, hv', by simp, .inl rfl⟩
    · obtain ⟨b, off, spot⟩ := a
      have hspot : spot = none := by
        obtain ⟨cs', h1, _⟩ := hel 0 (by omega)
        rw [hk] at h1
        obtain ⟨_, hlen, hcell⟩ := World.cells?_some h1
        have hc := hcell 0 hk0
        cases hcs : cs'[0]? with
        | none => rw [List.getElem?_eq_none_iff] at hcs; omega
        | some u =>
          rw [hcs] at hc
          simpa [Addr.add] using World.cell?_spot hc
      subst hspot
      have each : ∀ i, i < len → ∃ q : α, In b (off + i * k) q := by
        intro i hi
        obtain ⟨cs', h1, h2⟩ := hel i (by omega)
        rw [hk] at h1
        obtain ⟨_, hlen, hcell⟩ := World.cells?_some h1
        refine el n cs' _ b (off + i * k) hlen (fun j hj => ?_) h2
        have := hcell j hj
        rw [Deep.add_add, WideShapes.add_plain] at this
        rw [← this, Nat.add_assoc]
      obtain ⟨q, hq⟩ := Deep.choose_lt each
      refine ⟨some ⟨b, off, none⟩, (List.range len).map q, cap, by rw [hv']; simp, by unfold maxLen at hm; simp; omega, .inr ⟨b, off, rfl, fun i hi => ?_⟩⟩
      have hi' : i < len := by simpa using hi
      have ht : ((List.range len).map q).getD i d = q i := by
        rw [List.getD_eq_getElem?_getD, List.getElem?_map, List.getElem?_range hi']
        rfl
      rw [ht]
      exact hq i hi'

theorem trod_struct1 {t : TypeId} {f0 : Field} {fuel : Nat} {cs : List Value} {x : DataW H × List MemPlace} (ht : Try.prog.underlying t = some (.struct #[f0])) (h : DataW.trod enc Try.prog w base spare held fuel t cs = some x) :
    ∃ y0 n, cs.length = Try.prog.cellsOf t ∧ DataW.trod enc Try.prog w base spare held n f0.type ((cs.drop f0.offset).take (Try.prog.cellsOf f0.type)) = some y0 := by
  obtain ⟨xs, n, _, rfl, hl, hlen, hf⟩ := DataW.trod_struct ht h
  match xs, hlen with
  | [y0], _ => exact ⟨y0, n, hl, by simpa using hf 0 f0 rfl⟩
theorem trod_struct2 {t : TypeId} {f0 f1 : Field} {fuel : Nat} {cs : List Value} {x : DataW H × List MemPlace} (ht : Try.prog.underlying t = some (.struct #[f0, f1])) (h : DataW.trod enc Try.prog w base spare held fuel t cs = some x) :
    ∃ y0 y1 n, cs.length = Try.prog.cellsOf t ∧ DataW.trod enc Try.prog w base spare held n f0.type ((cs.drop f0.offset).take (Try.prog.cellsOf f0.type)) = some y0 ∧
      DataW.trod enc Try.prog w base spare held n f1.type ((cs.drop f1.offset).take (Try.prog.cellsOf f1.type)) = some y1 := by
  obtain ⟨xs, n, _, rfl, hl, hlen, hf⟩ := DataW.trod_struct ht h
  match xs, hlen with
  | [y0, y1], _ => exact ⟨y0, y1, n, hl, by simpa using hf 0 f0 rfl, by simpa using hf 1 f1 rfl⟩
theorem trod_struct5 {t : TypeId} {f0 f1 f2 f3 f4 : Field} {fuel : Nat} {cs : List Value} {x : DataW H × List MemPlace} (ht : Try.prog.underlying t = some (.struct #[f0, f1, f2, f3, f4])) (h : DataW.trod enc Try.prog w base spare held fuel t cs = some x) :
    ∃ y0 y1 y2 y3 y4 n, cs.length = Try.prog.cellsOf t ∧ DataW.trod enc Try.prog w base spare held n f0.type ((cs.drop f0.offset).take (Try.prog.cellsOf f0.type)) = some y0 ∧
      DataW.trod enc Try.prog w base spare held n f1.type ((cs.drop f1.offset).take (Try.prog.cellsOf f1.type)) = some y1 ∧ DataW.trod enc Try.prog w base spare held n f2.type ((cs.drop f2.offset).take (Try.prog.cellsOf f2.type)) = some y2 ∧
      DataW.trod enc Try.prog w base spare held n f3.type ((cs.drop f3.offset).take (Try.prog.cellsOf f3.type)) = some y3 ∧ DataW.trod enc Try.prog w base spare held n f4.type ((cs.drop f4.offset).take (Try.prog.cellsOf f4.type)) = some y4 := by
  obtain ⟨xs, n, _, rfl, hl, hlen, hf⟩ := DataW.trod_struct ht h
  match xs, hlen with
  | [y0, y1, y2, y3, y4], _ => exact ⟨y0, y1, y2, y3, y4, n, hl, by simpa using hf 0 f0 rfl, by simpa using hf 1 f1 rfl, by simpa using hf 2 f2 rfl, by simpa using hf 3 f3 rfl, by simpa using hf 4 f4 rfl⟩

theorem open_terms {fuel : Nat} {v : Value} {x : DataW H × List MemPlace} (h : DataW.trod enc Try.prog w base spare held fuel 82 [v] = some x) : ∃ l, TermsV w v l ∧ l.length ≤ 9223372036854775807 := by
  obtain ⟨ao, l, cap, hv, hmx, hl⟩ := open_row Try.underlying82 A_cells71 (by decide) (⟨[], 0⟩ : Tr.Term) (TermIn w) (fun n cs' y b off hlen hc h2 => by
    obtain ⟨y0, y1, k, _, g0, g1⟩ := trod_struct2 Try.underlying106 h2
    obtain ⟨v0, v1, rfl⟩ := list2 hlen
    simp [A_cells3, A_cells9] at g0 g1
    obtain ⟨k0, e0, _, _⟩ := DataW.trod_string Try.underlying9 g0
    obtain ⟨k1, e1, _, _⟩ := DataW.trod_int Try.underlying3 g1
    simp at e0 e1
    subst e0 e1
    exact ⟨⟨k0.data.toList, k1⟩, hc 0 (by decide), hc 1 (by decide)⟩) h
  exact ⟨l, ⟨ao, cap, hv, hl⟩, hmx⟩

theorem open_lits {fuel : Nat} {v : Value} {x : DataW H × List MemPlace} (h : DataW.trod enc Try.prog w base spare held fuel 83 [v] = some x) : ∃ l, LitsV w v l ∧ l.length ≤ 9223372036854775807 ∧ FitsB l := by
  obtain ⟨ao, l, cap, hv, hmx, hl⟩ := open_row Try.underlying83 A_cells49 (by decide) (⟨0, 0, 0, [], []⟩ : Tr.Lit) (fun b off x => LitIn w b off x ∧ x.terms.length ≤ 9223372036854775807) (fun n cs' y b off hlen hc h2 => by
    obtain ⟨y0, y1, y2, y3, y4, k, _, g0, g1, g2, g3, g4⟩ := trod_struct5 Try.underlying100 h2
    obtain ⟨v0, v1, v2, v3, v4, rfl⟩ := list5 hlen
    simp [A_cells3, A_cells9, A_cells40] at g0 g1 g2 g3 g4
    obtain ⟨k0, e0, _, _⟩ := DataW.trod_int Try.underlying3 g0
    obtain ⟨k1, e1, _, _⟩ := DataW.trod_int Try.underlying3 g1
    obtain ⟨k2, e2, _, _⟩ := DataW.trod_int Try.underlying3 g2
    obtain ⟨k3, e3, _, _⟩ := DataW.trod_string Try.underlying9 g3
    obtain ⟨l, hl, hm4⟩ := open_terms g4
    simp at e0 e1 e2 e3
    subst e0 e1 e2 e3
    exact ⟨⟨k0, k1, k2, k3.data.toList, l⟩, ⟨hc 0 (by decide), hc 1 (by decide), hc 2 (by decide), hc 3 (by decide), v4, hc 4 (by decide), hl⟩, hm4⟩) h
  refine ⟨l, ⟨ao, cap, hv, ?_⟩, hmx, ?_⟩
  · rcases hl with h | ⟨b, off, he, hc⟩
    · exact .inl h
    · exact .inr ⟨b, off, he, fun i hi => (hc i hi).1⟩
  · intro i hi
    rcases hl with h | ⟨b, off, he, hc⟩
    · rw [h] at hi; simp at hi
    · exact (hc i hi).2

theorem open_rules {fuel : Nat} {v : Value} {x : DataW H × List MemPlace} (h : DataW.trod enc Try.prog w base spare held fuel 86 [v] = some x) : ∃ l, RulesV w v l ∧ Fine l := by
  obtain ⟨ao, l, cap, hv, hmx, hl⟩ := open_row Try.underlying86 A_cells43 (by decide) (⟨0, [], [], 0, []⟩ : Tr.Rule) (fun b off x => RuleIn w b off x ∧ x.terms.length ≤ 9223372036854775807 ∧ x.body.length ≤ 9223372036854775807 ∧ FitsB x.body) (fun n cs' y b off hlen hc h2 => by
    obtain ⟨y0, y1, y2, y3, y4, k, _, g0, g1, g2, g3, g4⟩ := trod_struct5 Try.underlying85 h2
    obtain ⟨v0, v1, v2, v3, v4, rfl⟩ := list5 hlen
    simp [A_cells3, A_cells9, A_cells40, A_cells41] at g0 g1 g2 g3 g4
    obtain ⟨k0, e0, _, _⟩ := DataW.trod_int Try.underlying3 g0
    obtain ⟨k1, e1, _, _⟩ := DataW.trod_string Try.underlying9 g1
    obtain ⟨l2, hl2, hm2⟩ := open_terms g2
    obtain ⟨k3, e3, _, _⟩ := DataW.trod_int Try.underlying3 g3
    obtain ⟨l4, hl4, hm4, hf4⟩ := open_lits g4
    simp at e0 e1 e3
    subst e0 e1 e3
    exact ⟨⟨k0, k1.data.toList, l2, k3, l4⟩, ⟨hc 0 (by decide), hc 1 (by decide), ⟨v2, hc 2 (by decide), hl2⟩, hc 3 (by decide), v4, hc 4 (by decide), hl4⟩, hm2, hm4, hf4⟩) h
  refine ⟨l, ⟨ao, cap, hv, ?_⟩, hmx, ?_⟩
  · rcases hl with h | ⟨b, off, he, hc⟩
    · exact .inl h
    · exact .inr ⟨b, off, he, fun i hi => (hc i hi).1⟩
  · intro i hi
    rcases hl with h | ⟨b, off, he, hc⟩
    · rw [h] at hi; simp at hi
    · exact (hc i hi).2

theorem open_tree {fuel : Nat} {v : Value} {x : DataW H × List MemPlace} (h : DataW.trod enc Try.prog w base spare held fuel 88 [v] = some x) : ∃ l, RulesV w v l ∧ Fine l := by
  obtain ⟨y0, n, _, g0⟩ := trod_struct1 Try.underlying88 h
  exact open_rules (v := v) (by simpa [A_cells22] using g0)
end

end Go.Proofs.Ythenjegmigeieaa

