/- Own texts, one behind the other (part 9). -/
import Derived.Test.YthenjegmigeieaaGreatBundleH
import Derived.Test.YthenjegmigeieaaGreatRows
import Derived.ProofKit
import Derived.Deep.Slices
import Derived.Deep.Strs
import Derived.JoinedOf
/- What must be in any case: the small program's ways and heads. -/
namespace Go.Proofs.YthenjegmigeieaaGreat
open Go.RowKit

theorem capOk_slc (n k l : Nat) : CapOk (slc n k l) := by
  intro ao m cp h
  injection h with _ h1 h2
  omega
theorem small_caps (w : World) : RulesCap (laidAll w (smallO w.heap.size)) (slc w.heap.size 13 2) := by
  have c3 : (laidAll w (smallO w.heap.size)).cell? ⟨w.heap.size + 13, 3, none⟩ = some (slc w.heap.size 8 1) := laidAll_cell (smallO w.heap.size) w 13 _ _ 3 _ rfl rfl
  have c8 : (laidAll w (smallO w.heap.size)).cell? ⟨w.heap.size + 13, 8, none⟩ = some (slc w.heap.size 12 2) := laidAll_cell (smallO w.heap.size) w 13 _ _ 8 _ rfl rfl
  generalize laidAll w (smallO w.heap.size) = W at *
  generalize w.heap.size = N at *
  intro b off n cap hv k hk v hc
  injection hv with e1 e2 e3
  injection e1 with e1
  injection e1 with e1 e4
  subst e2 e4
  rw [← e1] at hc
  rcases (show k = 0 ∨ k = 1 by omega) with rfl | rfl
  · have hc' : W.cell? ⟨N + 13, 3, none⟩ = some v := hc
    rw [c3] at hc'
    rw [← Option.some.inj hc']
    exact capOk_slc _ _ _
  · have hc' : W.cell? ⟨N + 13, 8, none⟩ = some v := hc
    rw [c8] at hc'
    rw [← Option.some.inj hc']
    exact capOk_slc _ _ _
set_option maxRecDepth 100000 in
set_option maxHeartbeats 2000000 in
theorem small_cap (w : World) : Calls Tryz.prog 63 #[] w fun e w' => ∃ ua un ur, e = .returned (progVal ua un ur) ∧ ProgV w' ua un ur smallQ ∧ RulesCap w' ur ∧ Below w.heap.size w w' := by
  have HS : Hid (ProgV (laidAll w (smallO w.heap.size)) (slc w.heap.size 4 2) (slc w.heap.size 5 2) (slc w.heap.size 13 2) smallQ ∧ RulesCap (laidAll w (smallO w.heap.size)) (slc w.heap.size 13 2) ∧ Below w.heap.size w (laidAll w (smallO w.heap.size))) := ⟨small_prog w, small_caps w, laidAll_below _ w⟩
  have h0 : (laidAll w (smallO w.heap.size)).heap[w.heap.size]? = _ := laidAll_at (smallO w.heap.size) w 0 _ rfl
  have d0 : (laidAll w (smallO w.heap.size)).cell? ⟨w.heap.size, 0, none⟩ = some (slc w.heap.size 4 2) := by rw [Lib.cell_of_heap h0]; rfl
  have d1 : (laidAll w (smallO w.heap.size)).cell? ⟨w.heap.size, 1, none⟩ = some (slc w.heap.size 5 2) := by rw [Lib.cell_of_heap h0]; rfl
  have d2 : (laidAll w (smallO w.heap.size)).cell? ⟨w.heap.size, 2, none⟩ = some (slc w.heap.size 13 2) := by rw [Lib.cell_of_heap h0]; rfl
  have HD : Hid (_ ∧ _ ∧ _) := ⟨d0, d1, d2⟩
  clear h0 d0 d1 d2
  go_enter Tryz.func63, Tryz.ntmps63
  go_wp2_with fail
  change bodyPost _ _ _ _ _ (laidAll w (smallO w.heap.size))
  obtain ⟨d0, d1, d2⟩ := HD.out
  generalize laidAll w (smallO w.heap.size) = w2 at *
  refine bodyPost_ret (v := progVal (slc w.heap.size 4 2) (slc w.heap.size 5 2) (slc w.heap.size 13 2)) (by simp [results, Tryz.results63, go_sem, d0, d1, d2]) rfl ⟨_, _, _, rfl, HS.out.1, HS.out.2.1, HS.out.2.2⟩

def fullF : List Rl.Fc := [⟨0, [1, 2]⟩, ⟨0, [2, 3]⟩, ⟨1, [1, 2]⟩, ⟨1, [1, 3]⟩, ⟨1, [2, 3]⟩]
theorem fullF_err : Ru.waysErr smallQ 1 fullF = 0 := by kernel_rfl
theorem fullF_ways : Ru.waysOut smallQ 1 fullF = [[1, 2, 3]] := by kernel_rfl
theorem fullF_heads : Ru.headsOut smallQ 1 fullF = [⟨1, [1, 3]⟩] := by kernel_rfl
theorem fullF_fit : ∀ f, f ∈ fullF → FFit f := by
  intro f hf
  simp only [fullF, List.mem_cons, List.not_mem_nil, or_false] at hf
  rcases hf with rfl | rfl | rfl | rfl | rfl <;> exact (by decide : (2 : Nat) ≤ 9223372036854775807)
theorem ints_new2 (y : World) (a b : Int) : IntsV (y.alloc (.cells #[.int .i64 a, .int .i64 b] 3)) (.slice (some ⟨y.heap.size, 0, none⟩) 2 2) [a, b] := by
  refine ⟨_, _, rfl, .inr ⟨_, 0, rfl, fun i hi => ?_⟩⟩
  match i, hi with
  | 0, _ => rw [Lib.cell_of_heap (rl_new y _)]; rfl
  | 1, _ => rw [Lib.cell_of_heap (rl_new y _)]; rfl
theorem ints_new3 (y : World) (a b c : Int) : IntsV (y.alloc (.cells #[.int .i64 a, .int .i64 b, .int .i64 c] 3)) (.slice (some ⟨y.heap.size, 0, none⟩) 3 3) [a, b, c] := by
  refine ⟨_, _, rfl, .inr ⟨_, 0, rfl, fun i hi => ?_⟩⟩
  match i, hi with
  | 0, _ => rw [Lib.cell_of_heap (rl_new y _)]; rfl
  | 1, _ => rw [Lib.cell_of_heap (rl_new y _)]; rfl
  | 2, _ => rw [Lib.cell_of_heap (rl_new y _)]; rfl
theorem nums_new1 (y : World) (u : Value) (l : List Int) (h : IntsV y u l) : NumsV (y.alloc (.cells #[u] 22)) (.slice (some ⟨y.heap.size, 0, none⟩) 1 1) [l] := by
  refine ⟨_, _, rfl, .inr ⟨_, 0, rfl, fun i hi => ?_⟩⟩
  match i, hi with
  | 0, _ => exact ⟨u, by rw [Lib.cell_of_heap (rl_new y _)]; rfl, intsV_below h (new_below _ _)⟩
theorem facts_new5 (y : World) (f0 f1 f2 f3 f4 : Rl.Fc) (u0 u1 u2 u3 u4 : Value) (h0 : IntsV y u0 f0.args) (h1 : IntsV y u1 f1.args) (h2 : IntsV y u2 f2.args) (h3 : IntsV y u3 f3.args) (h4 : IntsV y u4 f4.args) : FactsV (y.alloc (.cells #[.int .i64 f0.pred, u0, .int .i64 f1.pred, u1, .int .i64 f2.pred, u2, .int .i64 f3.pred, u3, .int .i64 f4.pred, u4] 55)) (.slice (some ⟨y.heap.size, 0, none⟩) 5 5) [f0, f1, f2, f3, f4] := by
  refine ⟨_, _, rfl, ⟨Nat.le_refl _, fun h => by cases h⟩, .inr ⟨_, 0, rfl, fun i hi => ?_⟩⟩
  match i, hi with
  | 0, _ => exact ⟨by rw [Lib.cell_of_heap (rl_new y _)]; rfl, u0, by rw [Lib.cell_of_heap (rl_new y _)]; rfl, intsV_below h0 (new_below _ _)⟩
  | 1, _ => exact ⟨by rw [Lib.cell_of_heap (rl_new y _)]; rfl, u1, by rw [Lib.cell_of_heap (rl_new y _)]; rfl, intsV_below h1 (new_below _ _)⟩
  | 2, _ => exact ⟨by rw [Lib.cell_of_heap (rl_new y _)]; rfl, u2, by rw [Lib.cell_of_heap (rl_new y _)]; rfl, intsV_below h2 (new_below _ _)⟩
  | 3, _ => exact ⟨by rw [Lib.cell_of_heap (rl_new y _)]; rfl, u3, by rw [Lib.cell_of_heap (rl_new y _)]; rfl, intsV_below h3 (new_below _ _)⟩
  | 4, _ => exact ⟨by rw [Lib.cell_of_heap (rl_new y _)]; rfl, u4, by rw [Lib.cell_of_heap (rl_new y _)]; rfl, intsV_below h4 (new_below _ _)⟩
set_option maxRecDepth 100000 in
set_option maxHeartbeats 2000000 in
theorem full_any (w : World) : Calls Tryz.prog 64 #[] w fun e w' => ∃ v, e = .returned v ∧ FactsV w' v fullF ∧ Below w.heap.size w w' := by
  have HFC : Hid (∀ (p : Int) (a : Option Addr) (n c : Nat) (w : World), Calls Tryz.prog 65 #[.int .i64 p, .slice a n c] w fun e w' => e = .returned (fcVal p (.slice a n c)) ∧ Below w.heap.size w w') := fact_any
  go_enter Tryz.func64, Tryz.ntmps64
  go_wp2_with fail
  have H1 : Hid _ := ints_new2 w 1 2
  have B1 : Hid _ := new_below w (.cells #[.int .i64 1, .int .i64 2] 3)
  generalize hX1 : w.heap.size = X1 at *
  generalize w.alloc (.cells #[.int .i64 1, .int .i64 2] 3) = w1 at *
  refine Calls.mono (HFC.out _ _ _ _ _) ?_
  rintro _ y1 ⟨rfl, hb1⟩
  have J1 : Hid _ := intsV_below H1.out hb1
  have D1 : Hid (Below X1 w y1) := B1.out.trans (hb1.mono (by rw [← hX1]; rw [← hX1] at B1; exact B1.out.size))
  clear hb1 H1 B1
  go_wp2_with fail
  have H2 : Hid _ := ints_new2 y1 2 3
  have K1 : Hid _ := intsV_below J1.out (new_below y1 (.cells #[.int .i64 2, .int .i64 3] 3))
  have D2 : Hid (Below X1 w (y1.alloc (.cells #[.int .i64 2, .int .i64 3] 3))) := D1.out.trans ((new_below y1 _).mono (by have := D1.out.size; omega))
  clear J1 D1
  generalize hX2 : y1.heap.size = X2 at *
  generalize y1.alloc (.cells #[.int .i64 2, .int .i64 3] 3) = w2 at *
  refine Calls.mono (HFC.out _ _ _ _ _) ?_
  rintro _ y2 ⟨rfl, hb2⟩
  have J1 : Hid _ := intsV_below K1.out hb2
  have J2 : Hid _ := intsV_below H2.out hb2
  have D3 : Hid (Below X1 w y2) := D2.out.trans (hb2.mono (by have := D2.out.size; omega))
  clear hb2 H2 K1 D2
  go_wp2_with fail
  have H3 : Hid _ := ints_new2 y2 1 2
  have K1 : Hid _ := intsV_below J1.out (new_below y2 (.cells #[.int .i64 1, .int .i64 2] 3))
  have K2 : Hid _ := intsV_below J2.out (new_below y2 (.cells #[.int .i64 1, .int .i64 2] 3))
  have D4 : Hid (Below X1 w (y2.alloc (.cells #[.int .i64 1, .int .i64 2] 3))) := D3.out.trans ((new_below y2 _).mono (by have := D3.out.size; omega))
  clear J1 J2 D3
  generalize hX3 : y2.heap.size = X3 at *
  generalize y2.alloc (.cells #[.int .i64 1, .int .i64 2] 3) = w3 at *
  refine Calls.mono (HFC.out _ _ _ _ _) ?_
  rintro _ y3 ⟨rfl, hb3⟩
  have J1 : Hid _ := intsV_below K1.out hb3
  have J2 : Hid _ := intsV_below K2.out hb3
  have J3 : Hid _ := intsV_below H3.out hb3
  have D5 : Hid (Below X1 w y3) := D4.out.trans (hb3.mono (by have := D4.out.size; omega))
  clear hb3 H3 K1 K2 D4
  go_wp2_with fail
  have H4 : Hid _ := ints_new2 y3 1 3
  have K1 : Hid _ := intsV_below J1.out (new_below y3 (.cells #[.int .i64 1, .int .i64 3] 3))
  have K2 : Hid _ := intsV_below J2.out (new_below y3 (.cells #[.int .i64 1, .int .i64 3] 3))
  have K3 : Hid _ := intsV_below J3.out (new_below y3 (.cells #[.int .i64 1, .int .i64 3] 3))
  have D6 : Hid (Below X1 w (y3.alloc (.cells #[.int .i64 1, .int .i64 3] 3))) := D5.out.trans ((new_below y3 _).mono (by have := D5.out.size; omega))
  clear J1 J2 J3 D5
  generalize hX4 : y3.heap.size = X4 at *
  generalize y3.alloc (.cells #[.int .i64 1, .int .i64 3] 3) = w4 at *
  refine Calls.mono (HFC.out _ _ _ _ _) ?_
  rintro _ y4 ⟨rfl, hb4⟩
  have J1 : Hid _ := intsV_below K1.out hb4
  have J2 : Hid _ := intsV_below K2.out hb4
  have J3 : Hid _ := intsV_below K3.out hb4
  have J4 : Hid _ := intsV_below H4.out hb4
  have D7 : Hid (Below X1 w y4) := D6.out.trans (hb4.mono (by have := D6.out.size; omega))
  clear hb4 H4 K1 K2 K3 D6
  go_wp2_with fail
  have H5 : Hid _ := ints_new2 y4 2 3
  have K1 : Hid _ := intsV_below J1.out (new_below y4 (.cells #[.int .i64 2, .int .i64 3] 3))
  have K2 : Hid _ := intsV_below J2.out (new_below y4 (.cells #[.int .i64 2, .int .i64 3] 3))
  have K3 : Hid _ := intsV_below J3.out (new_below y4 (.cells #[.int .i64 2, .int .i64 3] 3))
  have K4 : Hid _ := intsV_below J4.out (new_below y4 (.cells #[.int .i64 2, .int .i64 3] 3))
  have D8 : Hid (Below X1 w (y4.alloc (.cells #[.int .i64 2, .int .i64 3] 3))) := D7.out.trans ((new_below y4 _).mono (by have := D7.out.size; omega))
  clear J1 J2 J3 J4 D7
  generalize hX5 : y4.heap.size = X5 at *
  generalize y4.alloc (.cells #[.int .i64 2, .int .i64 3] 3) = w5 at *
  refine Calls.mono (HFC.out _ _ _ _ _) ?_
  rintro _ y5 ⟨rfl, hb5⟩
  have HR : Hid _ := facts_new5 y5 ⟨0, [1, 2]⟩ ⟨0, [2, 3]⟩ ⟨1, [1, 2]⟩ ⟨1, [1, 3]⟩ ⟨1, [2, 3]⟩ _ _ _ _ _ (intsV_below K1.out hb5) (intsV_below K2.out hb5) (intsV_below K3.out hb5) (intsV_below K4.out hb5) (intsV_below H5.out hb5)
  have D9 : Hid (Below X1 w y5) := D8.out.trans (hb5.mono (by have := D8.out.size; omega))
  clear hb5 H5 K1 K2 K3 K4 D8
  go_wp2_with fail
  go_ret
  exact ⟨_, rfl, HR.out, by rw [hX1]; exact D9.out.trans ((new_below y5 _).mono (by have := D9.out.size; omega))⟩
set_option maxRecDepth 100000 in
set_option maxHeartbeats 2000000 in
theorem ruleBegun_any (w : World) : Calls Tryz.prog 19 #[] w fun e w' => e = .returned (.bool true) ∧ Below w.heap.size w w' := by
  have HS : Hid (∀ w, Calls Tryz.prog 63 #[] w fun e w' => ∃ ua un ur, e = .returned (progVal ua un ur) ∧ ProgV w' ua un ur smallQ ∧ RulesCap w' ur ∧ Below w.heap.size w w') := small_cap
  have HFU : Hid (∀ w, Calls Tryz.prog 64 #[] w fun e w' => ∃ v, e = .returned v ∧ FactsV w' v fullF ∧ Below w.heap.size w w') := full_any
  have HFC : Hid (∀ (p : Int) (a : Option Addr) (n c : Nat) (w : World), Calls Tryz.prog 65 #[.int .i64 p, .slice a n c] w fun e w' => e = .returned (fcVal p (.slice a n c)) ∧ Below w.heap.size w w') := fact_any
  have HW : Hid (∀ w ua un ur uf, ProgV w ua un ur smallQ → RulesCap w ur → FactsV w uf fullF → Calls Tryz.prog 14 #[progVal ua un ur, .int .i64 1, uf] w fun e w' => ∃ ao cap, e = .returned (.tuple #[.slice ao 1 cap, .int .i64 0]) ∧ NumsV w' (.slice ao 1 cap) [[1, 2, 3]] ∧ Below w.heap.size w w') := by
    intro w ua un ur uf h1 h2 h3
    have h := Ways_any smallQ 1 fullF ua un ur uf w h1 smallQ_fit h2 h3 (by decide) fullF_fit
    rw [fullF_err, fullF_ways] at h
    refine h.mono ?_
    rintro e w' ⟨v, q, rfl, hN, hq, hb⟩
    have hV := hN.toV hq
    obtain ⟨ao, cap, rfl, _⟩ := id hV
    exact ⟨ao, cap, rfl, hV, hb⟩
  have HH : Hid (∀ w ua un ur uf, ProgV w ua un ur smallQ → RulesCap w ur → FactsV w uf fullF → Calls Tryz.prog 15 #[progVal ua un ur, .int .i64 1, uf] w fun e w' => ∃ ao cap, e = .returned (.tuple #[.slice ao 1 cap, .int .i64 0]) ∧ FactsV w' (.slice ao 1 cap) [⟨1, [1, 3]⟩] ∧ Below w.heap.size w w') := by
    intro w ua un ur uf h1 h2 h3
    have h := Heads_any smallQ 1 fullF ua un ur uf w h1 smallQ_fit h2 h3 (by decide) fullF_fit
    rw [fullF_err, fullF_heads] at h
    refine h.mono ?_
    rintro e w' ⟨v, rfl, hN, hb⟩
    have hV := hN.toV
    obtain ⟨ao, cap, rfl, _⟩ := id hV
    exact ⟨ao, cap, rfl, hV, hb⟩
  go_enter Tryz.func19, Tryz.ntmps19
  go_wp2_with fail
  refine Calls.mono (HS.out _) ?_
  rintro e w1 ⟨ua, un, ur, rfl, hP1, hC1, hb1⟩
  have HP1 : Hid _ := And.intro hP1 hC1
  have HB1 : Hid _ := hb1
  clear hP1 hC1 hb1
  go_wp2_with fail
  refine Calls.mono (HFU.out _) ?_
  rintro e w2 ⟨uf, rfl, hF2, hb2⟩
  have HP2 : Hid _ := And.intro (HP1.out.1.below hb2) (HP1.out.2.below HP1.out.1.rl hb2)
  have HB2 : Hid _ := HB1.out.trans (hb2.mono HB1.out.size)
  have HF2 : Hid _ := hF2
  clear HP1 HB1 hb2 hF2
  go_wp2_with fail
  refine Calls.mono (HW.out _ _ _ _ _ HP2.out.1 HP2.out.2 HF2.out) ?_
  rintro e w3 ⟨ao, cap, rfl, hN3, hb3⟩
  have HB3 : Hid _ := HB2.out.trans (hb3.mono HB2.out.size)
  have HN3 : Hid _ := hN3
  clear HP2 HF2 HB2 hb3 hN3
  go_wp2_with fail
  refine Calls.mono (HS.out _) ?_
  rintro e w4 ⟨ua, un, ur, rfl, hP4, hC4, hb4⟩
  have HP4 : Hid _ := And.intro hP4 hC4
  have HB4 : Hid _ := HB3.out.trans (hb4.mono HB3.out.size)
  have HN4 : Hid _ := numsV_below HN3.out hb4
  clear hP4 hC4 hb4 HB3 HN3
  go_wp2_with fail
  refine Calls.mono (HFU.out _) ?_
  rintro e w5 ⟨uf, rfl, hF5, hb5⟩
  have HP5 : Hid _ := And.intro (HP4.out.1.below hb5) (HP4.out.2.below HP4.out.1.rl hb5)
  have HB5 : Hid _ := HB4.out.trans (hb5.mono HB4.out.size)
  have HN5 : Hid _ := numsV_below HN4.out hb5
  have HF5 : Hid _ := hF5
  clear HP4 HB4 HN4 hb5 hF5
  go_wp2_with fail
  refine Calls.mono (HH.out _ _ _ _ _ HP5.out.1 HP5.out.2 HF5.out) ?_
  rintro e w6 ⟨ho, hc, rfl, hH6, hb6⟩
  have HB6 : Hid _ := HB5.out.trans (hb6.mono HB5.out.size)
  have HN6 : Hid _ := numsV_below HN5.out hb6
  have HH6 : Hid _ := hH6
  clear HP5 HB5 HN5 HF5 hb6 hH6
  go_wp2_with fail
  have hx1 := new_below w6 (.cells #[.int .i64 1, .int .i64 2, .int .i64 3] 3)
  have hi1 := ints_new3 w6 1 2 3
  have hs1 : (w6.alloc (.cells #[.int .i64 1, .int .i64 2, .int .i64 3] 3)).heap.size = w6.heap.size + 1 := by simp
  have HB7 : Hid _ := HB6.out.trans (hx1.mono HB6.out.size)
  have HN7 : Hid _ := numsV_below HN6.out hx1
  have HH7 : Hid _ := factsV_below HH6.out hx1
  have hx2 := new_below (w6.alloc (.cells #[.int .i64 1, .int .i64 2, .int .i64 3] 3)) (.cells #[.slice (some ⟨w6.heap.size, 0, none⟩) 3 3] 22)
  have hn2 := nums_new1 _ _ _ hi1
  rw [hs1] at hn2
  have HB8 : Hid _ := HB7.out.trans (hx2.mono HB7.out.size)
  have HN8 : Hid _ := numsV_below HN7.out hx2
  have HH8 : Hid _ := factsV_below HH7.out hx2
  have HM8 : Hid _ := hn2
  clear hx1 hi1 hs1 HB6 HN6 HH6 HB7 HN7 HH7 hx2 hn2
  generalize (w6.alloc (.cells #[.int .i64 1, .int .i64 2, .int .i64 3] 3)).alloc (.cells #[.slice (some ⟨w6.heap.size, 0, none⟩) 3 3] 22) = w8 at *
  generalize w6.heap.size = X6 at *
  refine Calls.mono (SameLists_refl [[1, 2, 3]] _ _ w8 HN8.out HM8.out (by decide) (fun i hi => ?_)) ?_
  · match i, hi with
    | 0, _ => exact (by decide : (3 : Nat) ≤ 9223372036854775807)
  rintro e w9 ⟨rfl, n9, rfl⟩
  have HB9 : Hid _ := HB8.out.trans ((blw_drewN w8 n9).mono HB8.out.size)
  have HH9 : Hid _ := factsV_below HH8.out (blw_drewN w8 n9)
  clear HN8 HM8 HB8 HH8
  generalize w8.drewN n9 = w9 at *
  go_wp2_with fail
  have hx1 := new_below w9 (.cells #[.int .i64 1, .int .i64 3] 3)
  have HI : Hid _ := ints_new2 w9 1 3
  have HB10 : Hid _ := HB9.out.trans (hx1.mono HB9.out.size)
  have HH10 : Hid _ := factsV_below HH9.out hx1
  clear hx1 HB9 HH9
  generalize w9.alloc (.cells #[.int .i64 1, .int .i64 3] 3) = w10 at *
  generalize w9.heap.size = X9 at *
  refine Calls.mono (HFC.out _ _ _ _ _) ?_
  rintro e w11 ⟨rfl, hb11⟩
  have HB11 : Hid _ := HB10.out.trans (hb11.mono HB10.out.size)
  have HH11 : Hid _ := factsV_below HH10.out hb11
  have HI11 : Hid _ := intsV_below HI.out hb11
  clear hb11 HB10 HH10 HI
  go_wp2_with fail
  have hx1 := new_below w11 (.cells #[.int .i64 1, .slice (some ⟨X9, 0, none⟩) 2 2] 55)
  have HR : Hid _ := facts_new1 w11 ⟨1, [1, 3]⟩ _ HI11.out
  have HB12 : Hid _ := HB11.out.trans (hx1.mono HB11.out.size)
  have HH12 : Hid _ := factsV_below HH11.out hx1
  clear hx1 HB11 HH11 HI11
  generalize w11.alloc (.cells #[.int .i64 1, .slice (some ⟨X9, 0, none⟩) 2 2] 55) = w12 at *
  generalize w11.heap.size = X11 at *
  refine Calls.mono (SameFacts_refl [⟨1, [1, 3]⟩] _ _ w12 HH12.out HR.out (by decide) (fun f hf => ?_)) ?_
  · rw [List.mem_singleton.mp hf]
    exact (by decide : (2 : Nat) ≤ 9223372036854775807)
  rintro e w13 ⟨rfl, hb13⟩
  have HB13 : Hid _ := HB12.out.trans (hb13.mono HB12.out.size)
  clear hb13 HB12 HH12 HR
  go_wp2_with fail
  go_ret
  exact ⟨rfl, HB13.out⟩
end Go.Proofs.YthenjegmigeieaaGreat

/- The document's lessInts and isReady. -/
namespace Go.Proofs.YthenjegmigeieaaGreat
open Go.RowKit

namespace Ru
end Ru
namespace Ru
end Ru
end Go.Proofs.YthenjegmigeieaaGreat

/- The document's LitHolds. -/
namespace Go.Proofs.YthenjegmigeieaaGreat
open Go.RowKit

theorem fill_two {ts : List Sc.Term} (h : ts.length = 2) (x : List Int) : Ru.fill ts x = [Ru.num x (Sc.termD ts 0), Ru.num x (Sc.termD ts 1)] := by
  match ts, h with
  | [a, b], _ => rfl
theorem fill_three {ts : List Sc.Term} (h : ts.length = 3) (x : List Int) : Ru.fill ts x = [Ru.num x (Sc.termD ts 0), Ru.num x (Sc.termD ts 1), Ru.num x (Sc.termD ts 2)] := by
  match ts, h with
  | [a, b, c], _ => rfl
theorem fill_len (ts : List Sc.Term) (x : List Int) : (Ru.fill ts x).length = ts.length := by unfold Ru.fill; rw [List.length_map]
set_option maxRecDepth 100000 in
set_option maxHeartbeats 1000000 in
theorem litHolds12_any (facts : List Rl.Fc) (l : Sc.Lit) (x : List Int) (vt vx vf : Value) (w : World) (hT : PTermsV w vt l.terms) (hX : IntsV w vx x) (hF : FactsV w vf facts) (hFl : facts.length ≤ 1000000) (hFF : ∀ f, f ∈ facts → FFit f) (hl : l.terms.length ≤ 1000) (hI : Ru.TermsIn x.length l.terms) (hk : l.kind = 1 ∨ l.kind = 2) :
    Calls Tryz.prog 24 #[plitVal l vt, vx, vf] w fun e w' => e = .returned (.bool (Ru.holds facts l x)) ∧ Below w.heap.size w w' := by
  obtain ⟨at_, ct, rfl, _⟩ := id hT
  obtain ⟨ax, cx, rfl, _⟩ := id hX
  obtain ⟨af, cf, rfl, _⟩ := id hF
  obtain ⟨kd, op, pd, ts⟩ := l
  dsimp only at *
  have bT := (Below.refl w.heap.size w).alloc (Nat.le_refl _) (.cells #[.int .i64 kd, .int .i64 op, .int .i64 pd, .slice at_ ts.length ct] 49)
  have HBX : Hid _ := heap_alloc_new w (.cells #[.int .i64 kd, .int .i64 op, .int .i64 pd, .slice at_ ts.length ct] 49)
  have HB : Hid _ := bT
  have HC : Hid _ := ArgsOf_any ts x _ _ _ (ptermsV_below hT bT) (intsV_below hX bT) (by omega) hI
  have HF : Hid (FactsV w (.slice af facts.length cf) facts) := hF
  have HFF : Hid _ := hFF
  have hfl := fill_len ts x
  clear bT hT hX hF hFF hI
  go_enter Tryz.func24, Tryz.ntmps24
  go_upto_region 1 with fail
  generalize w.alloc (.cells #[.int .i64 kd, .int .i64 op, .int .i64 pd, .slice at_ ts.length ct] 49) = w1 at *
  have c3 : w1.cell? ⟨w.heap.size, 3, none⟩ = some (.slice at_ ts.length ct) := by rw [Lib.cell_of_heap HBX.out]; rfl
  go_wp2_with fail
  refine Calls.mono HC.out ?_
  rintro _ w2 ⟨va, rfl, hrow, hb2⟩
  have hints := hrow.ints
  have HIV : Hid (IntsV w2 va (Ru.fill ts x)) := hints
  obtain ⟨aa, ca, rfl, _⟩ := hints
  have HB2 : Hid (Below w.heap.size w w2) := HB.out.trans (hb2.mono HB.out.size)
  have HBX2 : Hid _ := (hb2.block _ (heap_lt HBX.out)).trans HBX.out
  have HHAS : Hid _ := HasFact_any facts ⟨pd, Ru.fill ts x⟩ _ _ w2 (factsV_below HF.out HB2.out) HIV.out (by omega) HFF.out (by unfold FFit; show (Ru.fill ts x).length ≤ _; omega)
  clear c3 hb2 HB HBX HC hrow HF HFF hfl
  have c0 : w2.cell? ⟨w.heap.size, 0, none⟩ = some (.int .i64 kd) := by rw [Lib.cell_of_heap HBX2.out]; rfl
  have c2 : w2.cell? ⟨w.heap.size, 2, none⟩ = some (.int .i64 pd) := by rw [Lib.cell_of_heap HBX2.out]; rfl
  rcases hk with rfl | rfl
  · go_wp2_with fail
    refine Calls.mono HHAS.out ?_
    rintro _ w3 ⟨rfl, hb3⟩
    have HB3 : Hid _ := HB2.out.trans (hb3.mono HB2.out.size)
    clear hb3 c0 c2
    go_wp2_with fail
    go_ret
    exact ⟨rfl, HB3.out⟩
  · go_wp2_with fail
    refine Calls.mono HHAS.out ?_
    rintro _ w3 ⟨rfl, hb3⟩
    have HB3 : Hid _ := HB2.out.trans (hb3.mono HB2.out.size)
    clear hb3 c0 c2
    go_wp2_with fail
    go_ret
    exact ⟨rfl, HB3.out⟩
end Go.Proofs.YthenjegmigeieaaGreat

/- The document's LitHolds: comparisons. -/
namespace Go.Proofs.YthenjegmigeieaaGreat
open Go.RowKit

set_option maxRecDepth 100000 in
set_option maxHeartbeats 8000000 in
theorem litHolds3_any (facts : List Rl.Fc) (l : Sc.Lit) (x : List Int) (vt vx vf : Value) (w : World) (hT : PTermsV w vt l.terms) (hX : IntsV w vx x) (hF : FactsV w vf facts) (hl : l.terms.length ≤ 1000) (hI : Ru.TermsIn x.length l.terms) (hk : l.kind = 3) (h2 : l.terms.length = 2) (hop : l.op = 1 ∨ l.op = 2 ∨ l.op = 3 ∨ l.op = 4) :
    Calls Tryz.prog 24 #[plitVal l vt, vx, vf] w fun e w' => e = .returned (.bool (Ru.holds facts l x)) ∧ Below w.heap.size w w' := by
  obtain ⟨at_, ct, rfl, _⟩ := id hT
  obtain ⟨ax, cx, rfl, _⟩ := id hX
  obtain ⟨af, cf, rfl, _⟩ := id hF
  obtain ⟨kd, op, pd, ts⟩ := l
  dsimp only at *
  have bT := (Below.refl w.heap.size w).alloc (Nat.le_refl _) (.cells #[.int .i64 kd, .int .i64 op, .int .i64 pd, .slice at_ ts.length ct] 49)
  have HBX : Hid _ := heap_alloc_new w (.cells #[.int .i64 kd, .int .i64 op, .int .i64 pd, .slice at_ ts.length ct] 49)
  have HB : Hid _ := bT
  have HC : Hid _ := ArgsOf_any ts x _ _ _ (ptermsV_below hT bT) (intsV_below hX bT) (by omega) hI
  rw [fill_two h2 x] at HC
  have HE : Hid (Ru.holds facts ⟨kd, op, pd, ts⟩ x = Ru.isSo op (Ru.num x (Sc.termD ts 0)) (Ru.num x (Sc.termD ts 1))) := by show _ = _; unfold Ru.holds; dsimp only; rw [if_neg (by omega), if_neg (by omega), if_pos hk]
  generalize Ru.num x (Sc.termD ts 0) = a at *
  generalize Ru.num x (Sc.termD ts 1) = c at *
  subst hk
  clear bT hT hX hF hI
  clear h2 hl
  go_enter Tryz.func24, Tryz.ntmps24
  go_upto_region 1 with fail
  generalize w.alloc (.cells #[.int .i64 3, .int .i64 op, .int .i64 pd, .slice at_ ts.length ct] 49) = w1 at *
  have c3 : w1.cell? ⟨w.heap.size, 3, none⟩ = some (.slice at_ ts.length ct) := by rw [Lib.cell_of_heap HBX.out]; rfl
  go_wp2_with fail
  refine Calls.mono HC.out ?_
  rintro _ w2 ⟨va, rfl, hrow, hb2⟩
  have hints := hrow.ints
  have HIV : Hid (IntsV w2 va [a, c]) := hints
  obtain ⟨aa, ca, rfl, hIA⟩ := hints
  have HB2 : Hid (Below w.heap.size w w2) := HB.out.trans (hb2.mono HB.out.size)
  have HBX2 : Hid _ := (hb2.block _ (heap_lt HBX.out)).trans HBX.out
  clear c3 hb2 HB HBX HC hrow
  have c0 : w2.cell? ⟨w.heap.size, 0, none⟩ = some (.int .i64 3) := by rw [Lib.cell_of_heap HBX2.out]; rfl
  have c1 : w2.cell? ⟨w.heap.size, 1, none⟩ = some (.int .i64 op) := by rw [Lib.cell_of_heap HBX2.out]; rfl
  have hr : ∃ b0 off0, aa = some ⟨b0, off0, none⟩ ∧ w2.cell? ⟨b0, off0, none⟩ = some (.int .i64 a) ∧ w2.cell? ⟨b0, off0 + 1, none⟩ = some (.int .i64 c) := by
    rcases hIA with h | ⟨b0, off0, h1, h2⟩
    · cases h
    · exact ⟨b0, off0, h1, h2 0 (Nat.succ_pos _), h2 1 (Nat.succ_lt_succ (Nat.succ_pos _))⟩
  obtain ⟨b0, off0, rfl, r0, r1⟩ := hr
  clear hIA HIV
  rcases hop with rfl | rfl | rfl | rfl
  · by_cases hc : a < c
    · have g : decide (a < c) = true := by simpa using hc
      have HE2 : Hid (Ru.holds facts ⟨3, 1, pd, ts⟩ x = true) := by show _ = _; rw [HE.out]; unfold Ru.isSo; simp; first | exact hc | omega
      clear hc
      go_upto_region 8 with fail
      go_quiet (fail)
      go_wp2_with fail
      go_ret
      exact ⟨by rw [HE2.out]; rfl, HB2.out.trans ((blw_drewN _ _).mono HB2.out.size)⟩
    · have g : decide (a < c) = false := by simpa using hc
      have HE2 : Hid (Ru.holds facts ⟨3, 1, pd, ts⟩ x = false) := by show _ = _; rw [HE.out]; unfold Ru.isSo; simp; first | exact hc | omega
      clear hc
      go_upto_region 8 with fail
      go_quiet (fail)
      go_wp2_with fail
      go_ret
      exact ⟨by rw [HE2.out]; rfl, HB2.out.trans ((blw_drewN _ _).mono HB2.out.size)⟩
  · by_cases hc : a ≤ c
    · have g : decide (a ≤ c) = true := by simpa using hc
      have HE2 : Hid (Ru.holds facts ⟨3, 2, pd, ts⟩ x = true) := by show _ = _; rw [HE.out]; unfold Ru.isSo; simp; first | exact hc | omega
      clear hc
      go_upto_region 8 with fail
      go_quiet (fail)
      go_wp2_with fail
      go_ret
      exact ⟨by rw [HE2.out]; rfl, HB2.out.trans ((blw_drewN _ _).mono HB2.out.size)⟩
    · have g : decide (a ≤ c) = false := by simpa using hc
      have HE2 : Hid (Ru.holds facts ⟨3, 2, pd, ts⟩ x = false) := by show _ = _; rw [HE.out]; unfold Ru.isSo; simp; first | exact hc | omega
      clear hc
      go_upto_region 8 with fail
      go_quiet (fail)
      go_wp2_with fail
      go_ret
      exact ⟨by rw [HE2.out]; rfl, HB2.out.trans ((blw_drewN _ _).mono HB2.out.size)⟩
  · by_cases hc : a = c
    · have g : (a == c) = true := by simpa using hc
      have HE2 : Hid (Ru.holds facts ⟨3, 3, pd, ts⟩ x = true) := by show _ = _; rw [HE.out]; unfold Ru.isSo; simp; first | exact hc | omega
      clear hc
      go_upto_region 8 with fail
      go_quiet (fail)
      go_wp2_with fail
      go_ret
      exact ⟨by rw [HE2.out]; rfl, HB2.out.trans ((blw_drewN _ _).mono HB2.out.size)⟩
    · have g : (a == c) = false := by simpa using hc
      have HE2 : Hid (Ru.holds facts ⟨3, 3, pd, ts⟩ x = false) := by show _ = _; rw [HE.out]; unfold Ru.isSo; simp; first | exact hc | omega
      clear hc
      go_upto_region 8 with fail
      go_quiet (fail)
      go_wp2_with fail
      go_ret
      exact ⟨by rw [HE2.out]; rfl, HB2.out.trans ((blw_drewN _ _).mono HB2.out.size)⟩
  · by_cases hc : a ≠ c
    · have g : (a != c) = true := by simpa using hc
      have HE2 : Hid (Ru.holds facts ⟨3, 4, pd, ts⟩ x = true) := by show _ = _; rw [HE.out]; unfold Ru.isSo; simp; first | exact hc | omega
      clear hc
      go_upto_region 8 with fail
      go_quiet (fail)
      go_wp2_with fail
      go_ret
      exact ⟨by rw [HE2.out]; rfl, HB2.out.trans ((blw_drewN _ _).mono HB2.out.size)⟩
    · have g : (a != c) = false := by simpa using hc
      have HE2 : Hid (Ru.holds facts ⟨3, 4, pd, ts⟩ x = false) := by show _ = _; rw [HE.out]; unfold Ru.isSo; simp; first | exact hc | omega
      clear hc
      go_upto_region 8 with fail
      go_quiet (fail)
      go_wp2_with fail
      go_ret
      exact ⟨by rw [HE2.out]; rfl, HB2.out.trans ((blw_drewN _ _).mono HB2.out.size)⟩
end Go.Proofs.YthenjegmigeieaaGreat

/- The document's LitHolds: reckonings. -/
namespace Go.Proofs.YthenjegmigeieaaGreat
open Go.RowKit

set_option maxRecDepth 100000 in
set_option maxHeartbeats 4000000 in
theorem litHolds4_any (facts : List Rl.Fc) (l : Sc.Lit) (x : List Int) (vt vx vf : Value) (w : World) (hT : PTermsV w vt l.terms) (hX : IntsV w vx x) (hF : FactsV w vf facts) (hl : l.terms.length ≤ 1000) (hI : Ru.TermsIn x.length l.terms) (hk : l.kind = 4) (h3 : l.terms.length = 3) (hn0 : Sc.isNum (Ru.num x (Sc.termD l.terms 0)) = true) (hn1 : Sc.isNum (Ru.num x (Sc.termD l.terms 1)) = true) :
    Calls Tryz.prog 24 #[plitVal l vt, vx, vf] w fun e w' => e = .returned (.bool (Ru.holds facts l x)) ∧ Below w.heap.size w w' := by
  obtain ⟨at_, ct, rfl, _⟩ := id hT
  obtain ⟨ax, cx, rfl, _⟩ := id hX
  obtain ⟨af, cf, rfl, _⟩ := id hF
  obtain ⟨kd, op, pd, ts⟩ := l
  dsimp only at *
  have bT := (Below.refl w.heap.size w).alloc (Nat.le_refl _) (.cells #[.int .i64 kd, .int .i64 op, .int .i64 pd, .slice at_ ts.length ct] 49)
  have HBX : Hid _ := heap_alloc_new w (.cells #[.int .i64 kd, .int .i64 op, .int .i64 pd, .slice at_ ts.length ct] 49)
  have HB : Hid _ := bT
  have HC : Hid _ := ArgsOf_any ts x _ _ _ (ptermsV_below hT bT) (intsV_below hX bT) (by omega) hI
  rw [fill_three h3 x] at HC
  have HE : Hid (Ru.holds facts ⟨kd, op, pd, ts⟩ x = (Sc.isNum (Ru.reck op (Ru.num x (Sc.termD ts 0)) (Ru.num x (Sc.termD ts 1))) && decide (Ru.reck op (Ru.num x (Sc.termD ts 0)) (Ru.num x (Sc.termD ts 1)) = Ru.num x (Sc.termD ts 2)))) := by show _ = _; unfold Ru.holds Ru.calc3; dsimp only; rw [if_neg (by omega), if_neg (by omega), if_neg (by omega)]
  generalize Ru.num x (Sc.termD ts 0) = a at *
  generalize Ru.num x (Sc.termD ts 1) = c at *
  generalize Ru.num x (Sc.termD ts 2) = d at *
  subst hk
  clear bT hT hX hF hI
  have HQ : Hid (∀ z : World, Calls Tryz.prog 67 #[.int .i64 op, .int .i64 a, .int .i64 c] z fun e w' => e = .returned (.int .i64 (Ru.reck op a c)) ∧ ∃ n, w' = z.drewN n) := fun z => (CalcOf_any op a c z (Ru.between_iff.mp hn0) (Ru.between_iff.mp hn1)).mono fun _ _ h => ⟨h.1, 0, h.2⟩
  clear hn0 hn1 h3 hl
  go_enter Tryz.func24, Tryz.ntmps24
  go_upto_region 1 with fail
  generalize w.alloc (.cells #[.int .i64 4, .int .i64 op, .int .i64 pd, .slice at_ ts.length ct] 49) = w1 at *
  have c3 : w1.cell? ⟨w.heap.size, 3, none⟩ = some (.slice at_ ts.length ct) := by rw [Lib.cell_of_heap HBX.out]; rfl
  go_wp2_with fail
  refine Calls.mono HC.out ?_
  rintro _ w2 ⟨va, rfl, hrow, hb2⟩
  have hints := hrow.ints
  have HIV : Hid (IntsV w2 va [a, c, d]) := hints
  obtain ⟨aa, ca, rfl, hIA⟩ := hints
  have HB2 : Hid (Below w.heap.size w w2) := HB.out.trans (hb2.mono HB.out.size)
  have HBX2 : Hid _ := (hb2.block _ (heap_lt HBX.out)).trans HBX.out
  clear c3 hb2 HB HBX HC hrow
  have c0 : w2.cell? ⟨w.heap.size, 0, none⟩ = some (.int .i64 4) := by rw [Lib.cell_of_heap HBX2.out]; rfl
  have c1 : w2.cell? ⟨w.heap.size, 1, none⟩ = some (.int .i64 op) := by rw [Lib.cell_of_heap HBX2.out]; rfl
  have hr : ∃ b0 off0, aa = some ⟨b0, off0, none⟩ ∧ w2.cell? ⟨b0, off0, none⟩ = some (.int .i64 a) ∧ w2.cell? ⟨b0, off0 + 1, none⟩ = some (.int .i64 c) ∧ w2.cell? ⟨b0, off0 + 2, none⟩ = some (.int .i64 d) := by
    rcases hIA with h | ⟨b0, off0, h1, h2⟩
    · cases h
    · exact ⟨b0, off0, h1, h2 0 (Nat.succ_pos _), h2 1 (Nat.succ_lt_succ (Nat.succ_pos _)), h2 2 (Nat.succ_lt_succ (Nat.succ_lt_succ (Nat.succ_pos _)))⟩
  obtain ⟨b0, off0, rfl, r0, r1, r2⟩ := hr
  clear hIA HIV
  have HN : Hid (∀ (n : Int) (z : World), Calls Tryz.prog 23 #[.int .i64 n] z fun e w' => e = .returned (.bool (Sc.isNum n)) ∧ w' = z) := fun n z => refNum_any n z
  go_upto_region 9 with fail
  go_quiet (first
    | (go_at_call 67; exact Calls.quiet_of (HQ.out _)))
  generalize Ru.reck op a c = m at *
  have HBd : Hid (∀ j, Below w.heap.size w (w2.drewN j)) := fun j => HB2.out.trans ((blw_drewN _ _).mono HB2.out.size)
  cases hn : Sc.isNum m
  · have HE2 : Hid (Ru.holds facts ⟨4, op, pd, ts⟩ x = false) := by show _ = _; rw [HE.out, hn]; rfl
    have HN2 : Hid (∀ z : World, Calls Tryz.prog 23 #[.int .i64 m] z fun e w' => e = .returned (.bool false) ∧ w' = z) := fun z => by have := HN.out m z; rw [hn] at this; exact this
    clear hn
    go_wp2_with fail
    refine Calls.mono (HN2.out _) ?_
    rintro _ z ⟨rfl, rfl⟩
    go_wp2_with fail
    go_ret
    exact ⟨by rw [HE2.out]; rfl, HBd.out _⟩
  · have HN2 : Hid (∀ z : World, Calls Tryz.prog 23 #[.int .i64 m] z fun e w' => e = .returned (.bool true) ∧ w' = z) := fun z => by have := HN.out m z; rw [hn] at this; exact this
    by_cases hmd : m = d
    · have g : (m == d) = true := by simpa using hmd
      have HE2 : Hid (Ru.holds facts ⟨4, op, pd, ts⟩ x = true) := by show _ = _; rw [HE.out, hn, decide_eq_true hmd]; rfl
      clear hn hmd
      go_wp2_with fail
      refine Calls.mono (HN2.out _) ?_
      rintro _ z ⟨rfl, rfl⟩
      go_wp2_with fail
      go_ret
      exact ⟨by rw [HE2.out]; rfl, HBd.out _⟩
    · have g : (m == d) = false := by simpa using hmd
      have HE2 : Hid (Ru.holds facts ⟨4, op, pd, ts⟩ x = false) := by show _ = _; rw [HE.out, hn, decide_eq_false hmd]; rfl
      clear hn hmd
      go_wp2_with fail
      refine Calls.mono (HN2.out _) ?_
      rintro _ z ⟨rfl, rfl⟩
      go_wp2_with fail
      go_ret
      exact ⟨by rw [HE2.out]; rfl, HBd.out _⟩
end Go.Proofs.YthenjegmigeieaaGreat

/- The document's LitHolds, of any literal. -/
namespace Go.Proofs.YthenjegmigeieaaGreat
open Go.RowKit

theorem LitHolds_any (facts : List Rl.Fc) (l : Sc.Lit) (x : List Int) (vt vx vf : Value) (w : World) (hT : PTermsV w vt l.terms) (hX : IntsV w vx x) (hF : FactsV w vf facts) (hFl : facts.length ≤ 1000000) (hFF : ∀ f, f ∈ facts → FFit f) (hl : l.terms.length ≤ 1000) (hI : Ru.LitIn x.length facts l)
    (hop : l.kind = 3 → l.op = 1 ∨ l.op = 2 ∨ l.op = 3 ∨ l.op = 4) (hn0 : l.kind = 4 → Sc.isNum (Ru.num x (Sc.termD l.terms 0)) = true) (hn1 : l.kind = 4 → Sc.isNum (Ru.num x (Sc.termD l.terms 1)) = true) :
    Calls Tryz.prog 24 #[plitVal l vt, vx, vf] w fun e w' => e = .returned (.bool (Ru.holds facts l x)) ∧ Below w.heap.size w w' := by
  rcases hI.k with hk | hk | hk | hk
  · exact litHolds12_any facts l x vt vx vf w hT hX hF hFl hFF hl hI.t (.inl hk)
  · exact litHolds12_any facts l x vt vx vf w hT hX hF hFl hFF hl hI.t (.inr hk)
  · exact litHolds3_any facts l x vt vx vf w hT hX hF hl hI.t hk (hI.k3 hk) (hop hk)
  · exact litHolds4_any facts l x vt vx vf w hT hX hF hl hI.t hk (hI.k4 hk) (hn0 hk) (hn1 hk)
end Go.Proofs.YthenjegmigeieaaGreat

/- RuleHolds: what is asked of numbers; the document's SameInts of any two. -/
namespace Go.Proofs.YthenjegmigeieaaGreat
open Go.RowKit
namespace Ru
theorem has_set (l : List Rl.Fc) (f : Rl.Fc) : Rl.has (Rl.set l) f = Rl.has l f := by
  rw [Bool.eq_iff_iff, Rl.has_iff, Rl.has_iff, Rl.mem_set]
theorem holds_set (l : List Rl.Fc) (t : Sc.Lit) (x : List Int) : holds (Rl.set l) t x = holds l t x := by
  unfold holds
  rw [has_set]
def allB (facts : List Rl.Fc) (r : Sc.Rule) (x : List Int) : Bool := x.all Sc.isNum && r.body.all (fun l => holds facts l x)
theorem allB_ways {p : Sc.Prog} {i : Int} {l : List Rl.Fc} (he : waysErr p i l = 0) {x : List Int} (hx : x.length = (rule p i).vars.toNat) : allB l (rule p i) x = decide (x ∈ waysOut p i l) := by
  have hin := waysErr_in he
  have hri := ruleIn_of hin.rule hin.set
  have hn := right_nums hin.set
  have hw : x ∈ waysOut p i l ↔ Sol (Rl.set l) (rule p i) x := by
    unfold waysOut
    rw [if_neg (fun h => h he), mem_srt]
    exact mem_ways hri hn x
  rw [Bool.eq_iff_iff, decide_eq_true_iff, hw]
  unfold allB
  rw [Bool.and_eq_true, List.all_eq_true, List.all_eq_true]
  constructor
  · rintro ⟨_, h2⟩
    exact ⟨hx, fun t ht => by rw [holds_set]; exact h2 t ht⟩
  · intro h
    exact ⟨sol_nums hri hn h, fun t ht => by rw [← holds_set]; exact h.2 t ht⟩
end Ru
set_option maxRecDepth 100000 in
set_option maxHeartbeats 1000000 in
/-- The document's SameInts draws alone. -/
theorem SameInts_any (x y : List Int) (v u : Value) (w : World) (hV : IntsV w v x) (hU : IntsV w u y) (hl : x.length ≤ 1000000) : Calls Tryz.prog 25 #[v, u] w fun e w' => e = .returned (.bool (decide (x = y))) ∧ ∃ n, w' = w.drewN n := by
  obtain ⟨ao, cap, rfl, hA⟩ := hV
  obtain ⟨bo, cbp, rfl, hB⟩ := hU
  have HA : Hid _ := hA
  have HB : Hid _ := hB
  clear hA hB
  by_cases hlen : x.length = y.length
  · have HLEN : Hid _ := hlen
    have g0 : ((x.length : Int) != (y.length : Int)) = false := by rw [hlen]; simp
    clear hlen
    go_enter Tryz.func25, Tryz.ntmps25
    go_wp2_with fail
    go_loopw [5] (fun iv wr => ∃ k nq : Nat, k ≤ x.length ∧ iv = .int .i64 k ∧ Hid (x = y ↔ x.drop k = y.drop k) ∧ wr = w.drewN nq) (fun iv _ => x.length - (intOf iv).toNat)
    case atStart => exact ⟨0, 0, by omega, rfl, Iff.rfl, rfl⟩
    case round =>
      obtain ⟨k, nq, hk, rfl, HR, rfl⟩ := hrel
      by_cases hlt : k < x.length
      · have hlt2 : k < y.length := by have := HLEN.out; omega
        obtain ⟨b', off', rfl, hck⟩ := ints_cell HA.out hlt
        obtain ⟨b2, off2, rfl, hck2⟩ := ints_cell HB.out hlt2
        have HS : Hid _ := Ru.eq_step HLEN.out hlt
        generalize Sc.intD x k = a at *
        generalize Sc.intD y k = c at *
        by_cases hac : a = c
        · have gx : (a != c) = false := by simpa using hac
          have HR2 : Hid (x = y ↔ x.drop (k + 1) = y.drop (k + 1)) := HR.out.trans (HS.out.trans ⟨fun h => h.2, fun h => ⟨hac, h⟩⟩)
          clear hac
          go_wp2_with fail
          go_quiet (fail)
          go_wp2_with fail
          go_roundw
          case rel => exact ⟨k + 1, _, hlt, by go_num, HR2.out, rfl⟩
          case measure => simp [intOf]; omega
        · have gx : (a != c) = true := by simpa using hac
          have HE : Hid (decide (x = y) = false) := decide_eq_false (fun h => hac (HS.out.mp (HR.out.mp h)).1)
          clear hac
          go_wp2_with fail
          go_quiet (fail)
          go_wp2_with fail
          go_ret
          exact ⟨by rw [HE.out]; rfl, _, World.drewN_drewN _ _ _⟩
      · have hdd : decide (k < x.length) = false := decide_eq_false hlt
        have HE : Hid (decide (x = y) = true) := decide_eq_true (HR.out.mpr (by have := HLEN.out; rw [List.drop_of_length_le (by omega), List.drop_of_length_le (by omega)]))
        go_wp2_with fail
        go_ret
        exact ⟨by rw [HE.out]; rfl, _, rfl⟩
  · have HE : Hid (decide (x = y) = false) := decide_eq_false (fun h => hlen (by rw [h]))
    have g0 : ((x.length : Int) != (y.length : Int)) = true := by simp; omega
    clear hlen
    go_enter Tryz.func25, Tryz.ntmps25
    go_wp2_with fail
    go_ret
    exact ⟨by rw [HE.out]; rfl, 0, rfl⟩
end Go.Proofs.YthenjegmigeieaaGreat

/- The law's 'all': numbers that are numbers, and of which each literal holds. -/
namespace Go.Proofs.YthenjegmigeieaaGreat
open Go.RowKit
namespace Ru
theorem lit_ops {ar : List Int} {r : Sc.Rule} (hr : RuleOk ar r) {l : Sc.Lit} (hl : l ∈ r.body) (hk : l.kind = 3) : l.op = 1 ∨ l.op = 2 ∨ l.op = 3 ∨ l.op = 4 := by
  obtain ⟨h1, _⟩ := hr.lit l hl
  unfold Sc.litErr at h1
  rw [if_neg (by omega), if_pos hk] at h1
  split at h1
  · rename_i hp
    have := between_iff.mp hp
    omega
  · omega
/-- What LitHolds asks of a literal. -/
structure LitFine (facts : List Rl.Fc) (m : Nat) (l : Sc.Lit) : Prop where
  i : LitIn m facts l
  s : l.terms.length ≤ 3
  o : l.kind = 3 → l.op = 1 ∨ l.op = 2 ∨ l.op = 3 ∨ l.op = 4
  n : LitNum l
theorem litFine_of {p : Sc.Prog} (h : ProgOk p) {r : Sc.Rule} (hr : RuleOk p.arity r) {facts : List Rl.Fc} (hF : ∀ f, f ∈ facts → Right p.arity f) {l : Sc.Lit} (hl : l ∈ r.body) : LitFine facts r.vars.toNat l :=
  ⟨litIn_of hr hF hl, lit_short h hr hl, lit_ops hr hl, lit_num hr hl⟩
theorem num_fine {m : Nat} {t : Sc.Term} {x : List Int} (ht : TermIn m t) (hn : t.var < 0 → Sc.isNum t.n = true) (hl : x.length = m) (hx : ∀ n, n ∈ x → Sc.isNum n = true) : Sc.isNum (num x t) = true := by
  unfold num
  split
  · rename_i h; exact hn h
  · rename_i h0
    have hlt : t.var.toNat < x.length := by rcases ht with h | h <;> omega
    rw [List.getD_eq_getElem?_getD, List.getElem?_eq_getElem hlt]
    exact hx _ (List.getElem_mem hlt)
end Ru
theorem LitHolds_fine (facts : List Rl.Fc) (l : Sc.Lit) (x : List Int) (vt vx vf : Value) (w : World) (hT : PTermsV w vt l.terms) (hX : IntsV w vx x) (hF : FactsV w vf facts) (hFl : facts.length ≤ 1000000) (hFF : ∀ f, f ∈ facts → FFit f) {m : Nat} (hm : x.length = m) (hL : Ru.LitFine facts m l) (hN : ∀ n, n ∈ x → Sc.isNum n = true) :
    Calls Tryz.prog 24 #[plitVal l vt, vx, vf] w fun e w' => e = .returned (.bool (Ru.holds facts l x)) ∧ Below w.heap.size w w' :=
  LitHolds_any facts l x vt vx vf w hT hX hF hFl hFF (by have := hL.s; omega) (by rw [hm]; exact hL.i) hL.o
    (fun hk => Ru.num_fine (hL.i.t _ (Ru.termD_mem (by have := hL.i.k4 hk; omega))) (hL.n _ (Ru.termD_mem (by have := hL.i.k4 hk; omega))) hm hN)
    (fun hk => Ru.num_fine (hL.i.t _ (Ru.termD_mem (by have := hL.i.k4 hk; omega))) (hL.n _ (Ru.termD_mem (by have := hL.i.k4 hk; omega))) hm hN)
theorem litD_take {l : List Sc.Lit} {k : Nat} (h : k < l.length) : l[k]? = some (Sc.litD l k) := by
  unfold Sc.litD
  rw [List.getD_eq_getElem?_getD, List.getElem?_eq_getElem h]
  rfl
def all9Tv (RB b off k : Nat) (VB VX VF : Value) (l : Sc.Lit) (vt : Value) (hb : Bool) : Nat → Value
  | 26 => .pointer (some ⟨RB, 3, none⟩)
  | 27 => VB
  | 28 => .int .i64 (k : Nat)
  | 29 => .pointer (some ⟨b, off + k * 4, none⟩)
  | 30 => plitVal l vt
  | 31 => VX
  | 32 => VF
  | 33 => .bool hb
  | 34 => .bool (!hb)
  | _ => .bool false

set_option maxRecDepth 100000 in
set_option maxHeartbeats 2000000 in
theorem all_any (facts : List Rl.Fc) (r : Sc.Rule) (x : List Int) (vx vt0 vb vf : Value) (RB LB : Nat) (w : World) (hRB : w.heap[RB]? = some (.cells #[.int .i64 r.pred, vt0, .int .i64 r.fold, vb, .int .i64 r.vars] 40)) (hLB : w.heap[LB]? = some (.cells #[vf] 27)) (hX : IntsV w vx x) (hB : PLitsV w vb r.body) (hF : FactsV w vf facts) (hFl : facts.length ≤ 1000000) (hFF : ∀ f, f ∈ facts → FFit f) (hx : x.length = r.vars.toNat) (hx8 : x.length ≤ 8) (hb4 : r.body.length ≤ 4) (hL : ∀ l, l ∈ r.body → Ru.LitFine facts r.vars.toNat l) :
    Calls Tryz.prog 22 #[vx, .pointer (some ⟨RB, 0, none⟩), .pointer (some ⟨LB, 0, none⟩)] w fun e w' => e = .returned (.bool (Ru.allB facts r x)) ∧ Below w.heap.size w w' := by
  obtain ⟨ax, cx, rfl, hXA⟩ := id hX
  obtain ⟨ab, cb, rfl, hBA⟩ := id hB
  obtain ⟨af, cf, rfl, _⟩ := id hF
  have HX : Hid _ := hX
  have HXA : Hid _ := hXA
  have HBA : Hid _ := hBA
  have HF : Hid (FactsV w (.slice af facts.length cf) facts ∧ facts.length ≤ 1000000 ∧ ∀ f, f ∈ facts → FFit f) := ⟨hF, hFl, hFF⟩
  have HL : Hid _ := hL
  have HLEN : Hid _ := hx
  have r3w : w.cell? ⟨RB, 3, none⟩ = some (.slice ab r.body.length cb) := by rw [Lib.cell_of_heap hRB]; rfl
  have l0w : w.cell? ⟨LB, 0, none⟩ = some (.slice af facts.length cf) := by rw [Lib.cell_of_heap hLB]; rfl
  clear hX hXA hB hBA hF hFF hL hRB hLB hx hFl
  go_enter Tryz.func22, Tryz.ntmps22
  go_wp2_with fail
  go_loopw [5] (fun iv wr => w = wr ∧ ∃ k : Nat, k ≤ x.length ∧ iv = .int .i64 k ∧ Hid ((x.take k).all Sc.isNum = true)) (fun iv _ => x.length - (intOf iv).toNat)
  case atStart => exact ⟨rfl, 0, Nat.zero_le _, rfl, rfl⟩
  case round =>
    obtain ⟨rfl, k, hk, rfl, HK⟩ := hrel
    by_cases hlt : k < x.length
    · obtain ⟨b', off', rfl, hck⟩ := ints_cell HXA.out hlt
      have HTK : Hid ((x.take (k + 1)).all Sc.isNum = Sc.isNum (Sc.intD x k)) := by
        show _ = _
        rw [Ru.take_succ_last hlt, List.all_append, HK.out, Bool.true_and]
        show (Sc.isNum (Sc.intD x k) && true) = _
        rw [Bool.and_true]
      have HMEM : Hid (Sc.intD x k ∈ x) := by show _ ∈ _; unfold Sc.intD; rw [List.getD_eq_getElem?_getD, List.getElem?_eq_getElem hlt]; exact List.getElem_mem hlt
      have HI : Hid _ := refNum_any (Sc.intD x k) w
      generalize Sc.intD x k = n at *
      go_wp2_with fail
      refine Calls.mono HI.out ?_
      rintro _ w2 ⟨rfl, rfl⟩
      cases hn : Sc.isNum n
      · have HE : Hid (Ru.allB facts r x = false) := by
          show _ = _
          unfold Ru.allB
          rw [List.all_eq_false.mpr ⟨n, HMEM.out, by rw [hn]; simp⟩]
          rfl
        clear hn
        go_wp2_with fail
        go_ret
        exact ⟨by rw [HE.out]; rfl, Below.refl _ _⟩
      · rw [hn] at HTK
        go_wp2_with fail
        go_roundw
        case rel => exact ⟨trivial, k + 1, hlt, by go_num, HTK.out⟩
        case measure => simp [intOf]; omega
    · have hdd : decide (k < x.length) = false := decide_eq_false hlt
      have HN : Hid (x.all Sc.isNum = true) := by have := HK.out; rw [List.take_of_length_le (by omega)] at this; exact this
      clear HK
      go_wp2_with fail
      go_loopw [6] (fun iv wr => ∃ k : Nat, k ≤ r.body.length ∧ iv = .int .i64 k ∧ Hid ((r.body.take k).all (fun l => Ru.holds facts l x) = true) ∧ Hid (Below w.heap.size w wr)) (fun iv _ => r.body.length - (intOf iv).toNat)
      case atStart => exact ⟨0, Nat.zero_le _, rfl, rfl, Below.refl _ _⟩
      case round =>
        clear hk hlt hdd
        obtain ⟨k, hk, rfl, HK, HB2⟩ := hrel
        have r3 := cell_below HB2.out r3w
        have l0 := cell_below HB2.out l0w
        by_cases hlt : k < r.body.length
        · obtain ⟨b, off, rfl, q0, q1, q2, vt, q3, hT⟩ := plits_at HBA.out k hlt
          have HLM : Hid (Sc.litD r.body k ∈ r.body) := List.mem_of_getElem? (litD_take hlt)
          have HLG : Hid _ := litD_take hlt
          have HLH : Hid (∀ y_, Below wr.heap.size wr y_ → Calls Tryz.prog 24 #[plitVal (Sc.litD r.body k) vt, .slice ax x.length cx, .slice af facts.length cf] y_ fun e w' => e = .returned (.bool (Ru.holds facts (Sc.litD r.body k) x)) ∧ Below y_.heap.size y_ w') := fun y_ hb => by
            have hb' : Below w.heap.size w y_ := HB2.out.trans (hb.mono HB2.out.size)
            exact LitHolds_fine facts _ x _ _ _ y_ (ptermsV_below hT hb') (intsV_below HX.out hb') (factsV_below HF.out.1 hb') HF.out.2.1 HF.out.2.2 HLEN.out (HL.out _ HLM.out) (List.all_eq_true.mp HN.out)
          have p0 := cell_below HB2.out q0
          have p1 := cell_below HB2.out q1
          have p2 := cell_below HB2.out q2
          have p3 := cell_below HB2.out q3
          obtain ⟨hb, HLD⟩ : ∃ hb, Hid (Ru.holds facts (Sc.litD r.body k) x = hb) := ⟨_, rfl⟩
          rw [HLD.out] at HLH
          obtain ⟨avt, cvt, rfl, _⟩ := id hT
          clear q0 q1 q2 q3 hT r3w l0w
          generalize Sc.litD r.body k = l at *
          generalize hvt : Value.slice avt l.terms.length cvt = vt at *
          go_upto_region 9 with fail
          refine wp_region_tabA (fun tQ vQ _ => vQ = all9Tv RB b off k (.slice (some ⟨b, off, none⟩) r.body.length cb) (.slice ax x.length cx) (.slice af facts.length cf) l vt hb tQ) (by kernel_rfl) (by kernel_rfl) (fun _ _ _ _ _ h => h) ?hop ?hend
          case hop =>
            refine AllOps.cons (fun a y_ h => ?_) ?_
            · have e1 : a.eval (.tmp 1) = (.pointer (some ⟨RB, 0, none⟩) : Value) := h.old 1 (by kernel_rfl)
              refine opOk_val (v := .pointer (some ⟨RB, 3, none⟩)) (w' := y_) (wanted_none rfl) ?_ (fun t ht => by cases ht; exact rfl) (Below.refl _ _)
              have ec : ∀ v, a.eval (.const v) = v := fun _ => rfl
              generalize a.eval = ev at *
              clear h
              go_simp
            refine AllOps.cons (fun a y_ h => ?_) ?_
            · have e26 : a.eval (.tmp 26) = (.pointer (some ⟨RB, 3, none⟩) : Value) := h.of 26 (by kernel_rfl)
              have c3 := cell_below h.below r3
              refine opOk_val (v := .slice (some ⟨b, off, none⟩) r.body.length cb) (w' := y_) (wanted_none rfl) ?_ (fun t ht => by cases ht; exact rfl) (Below.refl _ _)
              have ec : ∀ v, a.eval (.const v) = v := fun _ => rfl
              generalize a.eval = ev at *
              clear h
              go_simp
            refine AllOps.cons (fun a y_ h => ?_) ?_
            · have e6 : a.eval (.tmp 6) = (.int .i64 (k : Nat) : Value) := h.old 6 (by kernel_rfl)
              refine opOk_val (v := .int .i64 (k : Nat)) (w' := y_) (wanted_none rfl) ?_ (fun t ht => by cases ht; exact rfl) (Below.refl _ _)
              have ec : ∀ v, a.eval (.const v) = v := fun _ => rfl
              generalize a.eval = ev at *
              clear h
              go_simp
            refine AllOps.cons (fun a y_ h => ?_) ?_
            · have e27 : a.eval (.tmp 27) = (.slice (some ⟨b, off, none⟩) r.body.length cb : Value) := h.of 27 (by kernel_rfl)
              have e28 : a.eval (.tmp 28) = (.int .i64 (k : Nat) : Value) := h.of 28 (by kernel_rfl)
              refine opOk_val (v := .pointer (some ⟨b, off + k * 4, none⟩)) (w' := y_) (wanted_none rfl) ?_ (fun t ht => by cases ht; exact rfl) (Below.refl _ _)
              have ec : ∀ v, a.eval (.const v) = v := fun _ => rfl
              generalize a.eval = ev at *
              clear h
              go_simp
            refine AllOps.cons (fun a y_ h => ?_) ?_
            · have e29 : a.eval (.tmp 29) = (.pointer (some ⟨b, off + k * 4, none⟩) : Value) := h.of 29 (by kernel_rfl)
              have c0 := cell_below h.below p0
              have c1 := cell_below h.below p1
              have c2 := cell_below h.below p2
              have c3 := cell_below h.below p3
              refine opOk_val (v := plitVal l vt) (w' := y_) (wanted_none rfl) ?_ (fun t ht => by cases ht; exact rfl) (Below.refl _ _)
              have ec : ∀ v, a.eval (.const v) = v := fun _ => rfl
              generalize a.eval = ev at *
              clear h
              go_simp
            refine AllOps.cons (fun a y_ h => ?_) ?_
            · have e0 : a.eval (.tmp 0) = (.slice ax x.length cx : Value) := h.old 0 (by kernel_rfl)
              refine opOk_val (v := .slice ax x.length cx) (w' := y_) (wanted_none rfl) ?_ (fun t ht => by cases ht; exact rfl) (Below.refl _ _)
              have ec : ∀ v, a.eval (.const v) = v := fun _ => rfl
              generalize a.eval = ev at *
              clear h
              go_simp
            refine AllOps.cons (fun a y_ h => ?_) ?_
            · have e2 : a.eval (.tmp 2) = (.pointer (some ⟨LB, 0, none⟩) : Value) := h.old 2 (by kernel_rfl)
              have c0 := cell_below h.below l0
              refine opOk_val (v := .slice af facts.length cf) (w' := y_) (wanted_none rfl) ?_ (fun t ht => by cases ht; exact rfl) (Below.refl _ _)
              have ec : ∀ v, a.eval (.const v) = v := fun _ => rfl
              generalize a.eval = ev at *
              clear h
              go_simp
            refine AllOps.cons (fun a y_ h => ?_) ?_
            · have e30 : a.eval (.tmp 30) = (plitVal l vt : Value) := h.of 30 (by kernel_rfl)
              have e31 : a.eval (.tmp 31) = (.slice ax x.length cx : Value) := h.of 31 (by kernel_rfl)
              have e32 : a.eval (.tmp 32) = (.slice af facts.length cf : Value) := h.of 32 (by kernel_rfl)
              refine opOk_call (f := 24) (args := #[plitVal l vt, .slice ax x.length cx, .slice af facts.length cf]) (wanted_none rfl) ?_ ?_
              · have ec : ∀ v, a.eval (.const v) = v := fun _ => rfl
                have ef : ∀ f, a.eval (.func f) = .func (.func f) #[] #[] := fun _ => rfl
                generalize a.eval = ev at *
                clear h
                go_simp
              · refine Calls.mono (HLH.out y_ h.below) ?_
                rintro _ y2 ⟨rfl, hb2⟩
                exact ⟨_, rfl, fun t ht => by cases ht; exact rfl, hb2⟩
            refine AllOps.cons (fun a y_ h => ?_) ?_
            · have e33 : a.eval (.tmp 33) = (.bool hb : Value) := h.of 33 (by kernel_rfl)
              refine opOk_val (v := .bool (!hb)) (w' := y_) (wanted_none rfl) ?_ (fun t ht => by cases ht; exact rfl) (Below.refl _ _)
              have ec : ∀ v, a.eval (.const v) = v := fun _ => rfl
              generalize a.eval = ev at *
              clear h
              go_simp
            exact AllOps.nil
          case hend =>
            rintro ⟨tm, df⟩ wE hbE hdE hsE hstE hTE
            have h34 : tm.getD 34 undef = .bool (!hb) := ends_at (T := fun tQ vQ _ => vQ = all9Tv RB b off k (.slice (some ⟨b, off, none⟩) r.body.length cb) (.slice ax x.length cx) (.slice af facts.length cf) l vt hb tQ) (w := wE) (a := ⟨tm, df⟩) (t := 34) hTE (by kernel_rfl)
            obtain rfl : df = [] := hdE
            have hFE := tmps_fold [26, 27, 28, 29, 30, 31, 32, 33, 34] tm _ hsE hstE
            clear hsE hstE hTE
            simp only [List.foldl_cons, List.foldl_nil, h34] at hFE
            clear h34
            generalize tm.getD 26 undef = x26 at hFE
            generalize tm.getD 27 undef = x27 at hFE
            generalize tm.getD 28 undef = x28 at hFE
            generalize tm.getD 29 undef = x29 at hFE
            generalize tm.getD 30 undef = x30 at hFE
            generalize tm.getD 31 undef = x31 at hFE
            generalize tm.getD 32 undef = x32 at hFE
            generalize tm.getD 33 undef = x33 at hFE
            simp only [List.setIfInBounds_toArray, List.set_cons_zero, List.set_cons_succ] at hFE
            subst hFE
            cases hb
            · have HE : Hid (Ru.allB facts r x = false) := by
                show _ = _
                unfold Ru.allB
                rw [HN.out, Bool.true_and, List.all_eq_false]
                exact ⟨_, HLM.out, by rw [HLD.out]; simp⟩
              go_wp2_with fail
              go_ret
              exact ⟨by rw [HE.out]; rfl, HB2.out.trans (hbE.mono HB2.out.size)⟩
            · have HK2 : Hid ((r.body.take (k + 1)).all (fun l => Ru.holds facts l x) = true) := by
                show _ = _
                rw [List.take_add_one, List.all_append, HK.out, Bool.true_and, HLG.out]
                show (Ru.holds facts l x && true) = true
                rw [HLD.out]
                rfl
              go_wp2_with fail
              go_roundw
              case rel => exact ⟨k + 1, hlt, by go_num, HK2.out, HB2.out.trans (hbE.mono HB2.out.size)⟩
              case measure => simp [intOf]; omega
        · have hdd : decide (k < r.body.length) = false := decide_eq_false hlt
          have HE : Hid (Ru.allB facts r x = true) := by
            show _ = _
            unfold Ru.allB
            have := HK.out
            rw [List.take_of_length_le (by omega)] at this
            rw [HN.out, this]
            rfl
          go_wp2_with fail
          go_ret
          exact ⟨by rw [HE.out]; rfl, HB2.out⟩
end Go.Proofs.YthenjegmigeieaaGreat

/- RuleHolds: of each way each literal holds; and numbers of which all hold are a way. -/
namespace Go.Proofs.YthenjegmigeieaaGreat
open Go.RowKit
theorem mem_take_succ {q : List (List Int × Value)} {j : Nat} {y : List Int × Value} (hy : q[j]? = some y) (x : List Int) : decide (x ∈ (q.take (j + 1)).map (·.1)) = (decide (x ∈ (q.take j).map (·.1)) || decide (y.1 = x)) := by
  rw [List.take_add_one, hy, List.map_append]
  simp only [List.mem_append, Option.toList_some, List.map_cons, List.map_nil, List.mem_singleton, Bool.decide_or]
  congr 1
  exact decide_eq_decide.mpr ⟨fun h => h.symm, fun h => h.symm⟩
def lawH12Tv (RB LB g j yl : Nat) (rv : Int) (VW VY : Value) : Nat → Value
  | 41 => VW
  | 42 => .int .i64 (j : Nat)
  | 43 => .pointer (some ⟨g, j, none⟩)
  | 44 => VY
  | 45 => .int .i64 (yl : Nat)
  | 46 => .pointer (some ⟨RB, 4, none⟩)
  | 47 => .int .i64 rv
  | 48 => .bool false
  | 49 => .bool false
  | 50 => .func (.func 22) #[] #[.pointer (some ⟨RB, 0, none⟩), .pointer (some ⟨LB, 0, none⟩)]
  | 51 => VW
  | 52 => .int .i64 (j : Nat)
  | 53 => .pointer (some ⟨g, j, none⟩)
  | 54 => VY
  | 55 => .bool true
  | 56 => .bool false
  | 57 => .bool false
  | _ => .bool false

set_option maxRecDepth 100000 in
set_option maxHeartbeats 4000000 in
theorem ruleHolds_any (p : Sc.Prog) (i : Int) (facts : List Rl.Fc) (nums : List Int) (va vn vr vf vx : Value) (w : World) (hP : ProgV w va vn vr p) (hF : ProgFit p) (hcap : RulesCap w vr) (hV : FactsV w vf facts) (hFl : facts.length ≤ 9223372036854775807) (hFF : ∀ f, f ∈ facts → FFit f) (hX : IntsV w vx nums) (hXl : nums.length ≤ 9223372036854775807) :
    Calls Tryz.prog 4 #[progVal va vn vr, .int .i64 i, vf, vx] w fun e w' => e = .returned (.bool true) ∧ Below w.heap.size w w' := by
  obtain ⟨a0, n0, rfl, _⟩ := id hP.ar
  obtain ⟨a1, n1, rfl, _⟩ := id hP.nm
  obtain ⟨a2, n2, rfl, hRA⟩ := id hP.rl
  obtain ⟨af, cf, rfl, _, hFA⟩ := id hV
  obtain ⟨ax, cx, rfl, _⟩ := id hX
  have bT := (Below.refl w.heap.size w).alloc (Nat.le_refl _) (.cells #[.slice a0 p.arity.length n0, .slice a1 p.names.length n1, .slice a2 p.rules.length n2] 26)
  have bL := (Below.refl (w.alloc (.cells #[.slice a0 p.arity.length n0, .slice a1 p.names.length n1, .slice a2 p.rules.length n2] 26)).heap.size (w.alloc (.cells #[.slice a0 p.arity.length n0, .slice a1 p.names.length n1, .slice a2 p.rules.length n2] 26))).alloc (Nat.le_refl _) (.cells #[.slice af facts.length cf] 27)
  have hsz : (w.alloc (.cells #[.slice a0 p.arity.length n0, .slice a1 p.names.length n1, .slice a2 p.rules.length n2] 26)).heap.size = w.heap.size + 1 := by simp
  have hpb := heap_alloc_new w (.cells #[.slice a0 p.arity.length n0, .slice a1 p.names.length n1, .slice a2 p.rules.length n2] 26)
  have HBX : Hid _ := (bL.block _ (heap_lt hpb)).trans hpb
  have HLX : Hid _ := heap_alloc_new (w.alloc (.cells #[.slice a0 p.arity.length n0, .slice a1 p.names.length n1, .slice a2 p.rules.length n2] 26)) (.cells #[.slice af facts.length cf] 27)
  have hB := bT.trans (bL.mono bT.size)
  have HB : Hid _ := hB
  have HC : Hid _ := Ways_any p i facts _ _ _ _ _ (hP.below hB) hF (hcap.below hP.rl hB) (factsV_below hV hB) hFl hFF
  have HRA : Hid _ := hRA
  have HFV : Hid (FactsV w (.slice af facts.length cf) facts) := hV
  have HXV : Hid (IntsV w (.slice ax nums.length cx) nums) := hX
  have HFF : Hid _ := hFF
  rw [hsz] at HLX
  clear hP hF hV hFA hFF bT bL hcap hRA hB hX hpb hsz
  go_enter Tryz.func4, Tryz.ntmps4
  go_upto_region 1 with fail
  generalize (w.alloc (.cells #[.slice a0 p.arity.length n0, .slice a1 p.names.length n1, .slice a2 p.rules.length n2] 26)).alloc (.cells #[.slice af facts.length cf] 27) = w1 at *
  generalize hLB : w.heap.size + 1 = LB at *
  clear hLB
  have c0 : w1.cell? ⟨w.heap.size, 0, none⟩ = some (.slice a0 p.arity.length n0) := by rw [Lib.cell_of_heap HBX.out]; rfl
  have c1 : w1.cell? ⟨w.heap.size, 1, none⟩ = some (.slice a1 p.names.length n1) := by rw [Lib.cell_of_heap HBX.out]; rfl
  have c2 : w1.cell? ⟨w.heap.size, 2, none⟩ = some (.slice a2 p.rules.length n2) := by rw [Lib.cell_of_heap HBX.out]; rfl
  have cl : w1.cell? ⟨LB, 0, none⟩ = some (.slice af facts.length cf) := by rw [Lib.cell_of_heap HLX.out]; rfl
  go_wp2_with fail
  refine Calls.mono HC.out ?_
  rintro _ w2 ⟨v, q, rfl, hN, hq, hb2⟩
  obtain ⟨av, cv, rfl⟩ := own_slice hN.1
  have HQ : Hid _ := hq
  have HN : Hid (NumsP w1.heap.size w2 (.slice av q.length cv) q) := hN
  have HB2 : Hid (Below w.heap.size w w2) := HB.out.trans (hb2.mono HB.out.size)
  have HBX2 : Hid _ := (hb2.block _ (heap_lt HBX.out)).trans HBX.out
  have HLX2 : Hid _ := (hb2.block _ (heap_lt HLX.out)).trans HLX.out
  clear c0 c1 c2 cl hb2 HB HBX HLX HC hN hq
  go_wp2_with fail
  refine Calls.mono (ruleBegun_any w2) ?_
  rintro _ w3 ⟨rfl, hb3⟩
  have HN3 : Hid (NumsP w1.heap.size w3 (.slice av q.length cv) q) := NumsP.below HN.out hb3
  have HB3 : Hid (Below w.heap.size w w3) := HB2.out.trans (hb3.mono HB2.out.size)
  have HBX3 : Hid _ := (hb3.block _ (heap_lt HBX2.out)).trans HBX2.out
  have HLX3 : Hid _ := (hb3.block _ (heap_lt HLX2.out)).trans HLX2.out
  clear hb3 HN HB2 HBX2 HLX2
  by_cases he : Ru.waysErr p i facts = 0
  · have hin := Ru.waysErr_in he
    have hql : q.length ≤ 2000 := by have := Ru.waysOut_le he; rw [← HQ.out, List.length_map] at this; exact this
    have HAW : Hid (∀ x : List Int, x.length = (Ru.rule p i).vars.toNat → Ru.allB facts (Ru.rule p i) x = decide (x ∈ Ru.waysOut p i facts)) := fun x hx => Ru.allB_ways he hx
    have HSOL : Hid (∀ y, y ∈ q → y.1.length = (Ru.rule p i).vars.toNat) := fun y hy => (Ru.mem_waysOut hin (by rw [← HQ.out]; exact List.mem_map_of_mem hy)).1
    have HLF : Hid (∀ l, l ∈ (Ru.rule p i).body → Ru.LitFine facts (Ru.rule p i).vars.toNat l) := fun l hl => Ru.litFine_of hin.ok hin.rule hin.fs hl
    have hv8 := hin.rule.v8
    have hv0 := hin.rule.v0
    have hb4 := hin.rule.b4
    have hfl := hin.len
    obtain ⟨k, rfl⟩ : ∃ k : Nat, i = k := ⟨i.toNat, by have := hin.lo; omega⟩
    have hk : k < p.rules.length := by have := hin.hi; omega
    have HRU : Hid (Ru.rule p (k : Int) = Sc.ruleD p.rules k) := by show _ = _; unfold Ru.rule; rw [Int.toNat_natCast]
    rw [HRU.out] at HAW HSOL HLF hv8 hv0 hb4
    obtain ⟨b, off, rfl, q0, ⟨vt, q1, hT⟩, q2, ⟨vb, q3, hL⟩, q4⟩ := prules_at HRA.out k hk
    obtain ⟨at_, ct, rfl, _⟩ := id hT
    obtain ⟨ab, cb, rfl, _⟩ := id hL
    have HL : Hid _ := hL
    have p0 := cell_below HB3.out q0
    have p1 := cell_below HB3.out q1
    have p2 := cell_below HB3.out q2
    have p3 := cell_below HB3.out q3
    have p4 := cell_below HB3.out q4
    have c2 : w3.cell? ⟨w.heap.size, 2, none⟩ = some (.slice (some ⟨b, off, none⟩) p.rules.length n2) := by rw [Lib.cell_of_heap HBX3.out]; rfl
    clear q0 q1 q2 q3 q4 hT hL hin HRA HRU HBX3
    generalize Sc.ruleD p.rules k = r at *
    rw [he]
    clear he
    go_upto_region 7 with fail
    have hba : Below w3.heap.size w3 (w3.alloc (.cells #[.int .i64 r.pred, .slice at_ r.terms.length ct, .int .i64 r.fold, .slice ab r.body.length cb, .int .i64 r.vars] 40)) := (Below.refl _ _).alloc (Nat.le_refl _) _
    have HRB : Hid _ := heap_alloc_new w3 (.cells #[.int .i64 r.pred, .slice at_ r.terms.length ct, .int .i64 r.fold, .slice ab r.body.length cb, .int .i64 r.vars] 40)
    have HN5 : Hid (NumsP w1.heap.size (w3.alloc (.cells #[.int .i64 r.pred, .slice at_ r.terms.length ct, .int .i64 r.fold, .slice ab r.body.length cb, .int .i64 r.vars] 40)) (.slice av q.length cv) q) := NumsP.below HN3.out hba
    have HB5 : Hid _ := HB3.out.trans (hba.mono HB3.out.size)
    have HLX5 : Hid _ := (hba.block _ (heap_lt HLX3.out)).trans HLX3.out
    have HL5 : Hid _ := plitsV_below HL.out HB5.out
    have HFV5 : Hid _ := factsV_below HFV.out HB5.out
    have HXI : Hid _ := intsV_below HXV.out HB5.out
    clear p0 p1 p2 p3 p4 c2 HB3 HN3 HL HLX3 hba HFV HXV
    generalize hRBn : w3.heap.size = RB at *
    generalize w3.alloc (.cells #[.int .i64 r.pred, .slice at_ r.terms.length ct, .int .i64 r.fold, .slice ab r.body.length cb, .int .i64 r.vars] 40) = w5 at *
    clear hRBn
    have HALL : Hid (∀ (y_ : World) (x : List Int) (v : Value), Below w5.heap.size w5 y_ → IntsV y_ v x → x.length = r.vars.toNat → Calls Tryz.prog 22 #[v, .pointer (some ⟨RB, 0, none⟩), .pointer (some ⟨LB, 0, none⟩)] y_ fun e w' => e = .returned (.bool (Ru.allB facts r x)) ∧ Below y_.heap.size y_ w') := fun y_ x v hb hv hx =>
      all_any facts r x v _ _ _ RB LB y_ ((hb.block _ (heap_lt HRB.out)).trans HRB.out) ((hb.block _ (heap_lt HLX5.out)).trans HLX5.out) hv (plitsV_below HL5.out hb) (factsV_below HFV5.out hb) (by omega) HFF.out hx (by omega) hb4 HLF.out
    have r4w : w5.cell? ⟨RB, 4, none⟩ = some (.int .i64 r.vars) := by rw [Lib.cell_of_heap HRB.out]; rfl
    have HXX : Hid (∀ y_, Below w5.heap.size w5 y_ → IntsV y_ (.slice ax nums.length cx) nums) := fun y_ hb => intsV_below HXI.out hb
    have HRV : Hid (r.vars = (r.vars.toNat : Int) ∧ r.vars.toNat ≤ 8) := ⟨by omega, by omega⟩
    clear HRB HLX5 HL5 HFV5 HFF HLF hv0 hv8 hb4 hfl
    generalize r.vars = rv at *
    go_wp2_with fail
    go_loopw [13, 14] (fun bv iv wr => ∃ j : Nat, j ≤ q.length ∧ iv = .int .i64 j ∧ bv = .bool (decide (nums ∈ (q.take j).map (·.1))) ∧ Hid (Below w5.heap.size w5 wr)) (fun _ iv _ => q.length - (intOf iv).toNat)
    case atStart => exact ⟨0, Nat.zero_le _, rfl, rfl, Below.refl _ _⟩
    case round =>
      obtain ⟨wo, hwo⟩ : ∃ wo, wo = wr := ⟨_, rfl⟩
      subst hwo
      obtain ⟨j, hj, rfl, rfl, HB6⟩ := hrel
      have r4 := cell_below HB6.out r4w
      obtain ⟨bi, HIS⟩ : ∃ bi, Hid (decide (nums ∈ (q.take j).map (·.1)) = bi) := ⟨_, rfl⟩
      rw [HIS.out]
      by_cases hlt : j < q.length
      · obtain ⟨g, cap, y, hv, hy, hym, hyc, hyo⟩ := nums_cell HN5.out hlt
        injection hv with e1 e2 e3
        subst e1 e3
        obtain ⟨ay, cy, hyv⟩ := own_slice hyo
        have hyl := HSOL.out y hym
        have HYL : Hid (y.1.length ≤ 8) := by have := HRV.out.2; show _ ≤ _; omega
        have HYI : Hid (IntsV wo y.2 y.1) := intsV_below (own_ints hyo) HB6.out
        have HAY : Hid (∀ y_, Below wo.heap.size wo y_ → Calls Tryz.prog 22 #[y.2, .pointer (some ⟨RB, 0, none⟩), .pointer (some ⟨LB, 0, none⟩)] y_ fun e w' => e = .returned (.bool true) ∧ Below y_.heap.size y_ w') := fun y_ hb => by
          have h1 := HALL.out y_ y.1 y.2 (HB6.out.trans (hb.mono HB6.out.size)) (intsV_below HYI.out hb) hyl
          rw [HAW.out y.1 hyl, decide_eq_true (by rw [← HQ.out]; exact List.mem_map_of_mem hym)] at h1
          exact h1
        have HIS2 : Hid (decide (nums ∈ (q.take (j + 1)).map (·.1)) = (bi || decide (y.1 = nums))) := by show _ = _; rw [mem_take_succ hy, HIS.out]
        have gl : ((y.1.length : Int) != rv) = false := by
          have := HRV.out.1
          simp only [bne_eq_false_iff_eq]
          omega
        rw [hyv] at hyc HYI HAY
        have yc := cell_below HB6.out hyc
        clear hy hym hyc hyo hyv hyl
        obtain ⟨yx, yv⟩ := y
        dsimp only at *
        generalize hyl9 : yx.length = yl at *
        have HYL9 : Hid _ := hyl9
        clear hyl9
        go_upto_region 12 with fail
        refine wp_region_tabA (fun tQ vQ _ => vQ = lawH12Tv RB LB g j yl rv (.slice (some ⟨g, 0, none⟩) q.length cv) (.slice ay yl cy) tQ) (by kernel_rfl) (by kernel_rfl) (fun _ _ _ _ _ h => h) ?hop ?hend
        case hop =>
          refine AllOps.cons (fun a y_ h => ?_) ?_
          · have e9 : a.eval (.tmp 9) = (.slice (some ⟨g, 0, none⟩) q.length cv : Value) := h.old 9 (by kernel_rfl)
            refine opOk_val (v := .slice (some ⟨g, 0, none⟩) q.length cv) (w' := y_) (wanted_none rfl) ?_ (fun t ht => by cases ht; exact rfl) (Below.refl _ _)
            have ec : ∀ v, a.eval (.const v) = v := fun _ => rfl
            generalize a.eval = ev at *
            clear h
            go_simp
          refine AllOps.cons (fun a y_ h => ?_) ?_
          · have e14 : a.eval (.tmp 14) = (.int .i64 (j : Nat) : Value) := h.old 14 (by kernel_rfl)
            refine opOk_val (v := .int .i64 (j : Nat)) (w' := y_) (wanted_none rfl) ?_ (fun t ht => by cases ht; exact rfl) (Below.refl _ _)
            have ec : ∀ v, a.eval (.const v) = v := fun _ => rfl
            generalize a.eval = ev at *
            clear h
            go_simp
          refine AllOps.cons (fun a y_ h => ?_) ?_
          · have e41 : a.eval (.tmp 41) = (.slice (some ⟨g, 0, none⟩) q.length cv : Value) := h.of 41 (by kernel_rfl)
            have e42 : a.eval (.tmp 42) = (.int .i64 (j : Nat) : Value) := h.of 42 (by kernel_rfl)
            refine opOk_val (v := .pointer (some ⟨g, j, none⟩)) (w' := y_) (wanted_none rfl) ?_ (fun t ht => by cases ht; exact rfl) (Below.refl _ _)
            have ec : ∀ v, a.eval (.const v) = v := fun _ => rfl
            generalize a.eval = ev at *
            clear h
            go_simp
          refine AllOps.cons (fun a y_ h => ?_) ?_
          · have e43 : a.eval (.tmp 43) = (.pointer (some ⟨g, j, none⟩) : Value) := h.of 43 (by kernel_rfl)
            have c0 := cell_below h.below yc
            refine opOk_val (v := .slice ay yl cy) (w' := y_) (wanted_none rfl) ?_ (fun t ht => by cases ht; exact rfl) (Below.refl _ _)
            have ec : ∀ v, a.eval (.const v) = v := fun _ => rfl
            generalize a.eval = ev at *
            clear h
            go_simp
          refine AllOps.cons (fun a y_ h => ?_) ?_
          · have e44 : a.eval (.tmp 44) = (.slice ay yl cy : Value) := h.of 44 (by kernel_rfl)
            refine opOk_val (v := .int .i64 (yl : Nat)) (w' := y_) (wanted_none rfl) ?_ (fun t ht => by cases ht; exact rfl) (Below.refl _ _)
            have ec : ∀ v, a.eval (.const v) = v := fun _ => rfl
            generalize a.eval = ev at *
            clear h
            go_simp
          refine AllOps.cons (fun a y_ h => ?_) ?_
          · have e11 : a.eval (.tmp 11) = (.pointer (some ⟨RB, 0, none⟩) : Value) := h.old 11 (by kernel_rfl)
            refine opOk_val (v := .pointer (some ⟨RB, 4, none⟩)) (w' := y_) (wanted_none rfl) ?_ (fun t ht => by cases ht; exact rfl) (Below.refl _ _)
            have ec : ∀ v, a.eval (.const v) = v := fun _ => rfl
            generalize a.eval = ev at *
            clear h
            go_simp
          refine AllOps.cons (fun a y_ h => ?_) ?_
          · have e46 : a.eval (.tmp 46) = (.pointer (some ⟨RB, 4, none⟩) : Value) := h.of 46 (by kernel_rfl)
            have c0 := cell_below h.below r4
            refine opOk_val (v := .int .i64 rv) (w' := y_) (wanted_none rfl) ?_ (fun t ht => by cases ht; exact rfl) (Below.refl _ _)
            have ec : ∀ v, a.eval (.const v) = v := fun _ => rfl
            generalize a.eval = ev at *
            clear h
            go_simp
          refine AllOps.cons (fun a y_ h => ?_) ?_
          · have e45 : a.eval (.tmp 45) = (.int .i64 (yl : Nat) : Value) := h.of 45 (by kernel_rfl)
            have e47 : a.eval (.tmp 47) = (.int .i64 rv : Value) := h.of 47 (by kernel_rfl)
            refine opOk_val (v := .bool false) (w' := y_) (wanted_none rfl) ?_ (fun t ht => by cases ht; exact rfl) (Below.refl _ _)
            have ec : ∀ v, a.eval (.const v) = v := fun _ => rfl
            generalize a.eval = ev at *
            clear h
            go_simp
          refine AllOps.cons (fun a y_ h => ?_) ?_
          · have e48 : a.eval (.tmp 48) = (.bool false : Value) := h.of 48 (by kernel_rfl)
            refine opOk_val (v := .bool false) (w' := y_) (wanted_none rfl) ?_ (fun t ht => by cases ht; exact rfl) (Below.refl _ _)
            have ec : ∀ v, a.eval (.const v) = v := fun _ => rfl
            generalize a.eval = ev at *
            clear h
            go_simp
          refine AllOps.cons (fun a y_ h => ?_) ?_
          · have e12 : a.eval (.tmp 12) = (.func (.func 22) #[] #[.pointer (some ⟨RB, 0, none⟩), .pointer (some ⟨LB, 0, none⟩)] : Value) := h.old 12 (by kernel_rfl)
            refine opOk_val (v := .func (.func 22) #[] #[.pointer (some ⟨RB, 0, none⟩), .pointer (some ⟨LB, 0, none⟩)]) (w' := y_) (wanted_some (j := 8) (t := 49) (b := false) rfl rfl rfl (h.of 49 (by kernel_rfl))) ?_ (fun t ht => by cases ht; exact rfl) (Below.refl _ _)
            have ec : ∀ v, a.eval (.const v) = v := fun _ => rfl
            generalize a.eval = ev at *
            clear h
            go_simp
          refine AllOps.cons (fun a y_ h => ?_) ?_
          · have e9 : a.eval (.tmp 9) = (.slice (some ⟨g, 0, none⟩) q.length cv : Value) := h.old 9 (by kernel_rfl)
            refine opOk_val (v := .slice (some ⟨g, 0, none⟩) q.length cv) (w' := y_) (wanted_some (j := 8) (t := 49) (b := false) rfl rfl rfl (h.of 49 (by kernel_rfl))) ?_ (fun t ht => by cases ht; exact rfl) (Below.refl _ _)
            have ec : ∀ v, a.eval (.const v) = v := fun _ => rfl
            generalize a.eval = ev at *
            clear h
            go_simp
          refine AllOps.cons (fun a y_ h => ?_) ?_
          · have e14 : a.eval (.tmp 14) = (.int .i64 (j : Nat) : Value) := h.old 14 (by kernel_rfl)
            refine opOk_val (v := .int .i64 (j : Nat)) (w' := y_) (wanted_some (j := 8) (t := 49) (b := false) rfl rfl rfl (h.of 49 (by kernel_rfl))) ?_ (fun t ht => by cases ht; exact rfl) (Below.refl _ _)
            have ec : ∀ v, a.eval (.const v) = v := fun _ => rfl
            generalize a.eval = ev at *
            clear h
            go_simp
          refine AllOps.cons (fun a y_ h => ?_) ?_
          · have e51 : a.eval (.tmp 51) = (.slice (some ⟨g, 0, none⟩) q.length cv : Value) := h.of 51 (by kernel_rfl)
            have e52 : a.eval (.tmp 52) = (.int .i64 (j : Nat) : Value) := h.of 52 (by kernel_rfl)
            refine opOk_val (v := .pointer (some ⟨g, j, none⟩)) (w' := y_) (wanted_some (j := 8) (t := 49) (b := false) rfl rfl rfl (h.of 49 (by kernel_rfl))) ?_ (fun t ht => by cases ht; exact rfl) (Below.refl _ _)
            have ec : ∀ v, a.eval (.const v) = v := fun _ => rfl
            generalize a.eval = ev at *
            clear h
            go_simp
          refine AllOps.cons (fun a y_ h => ?_) ?_
          · have e53 : a.eval (.tmp 53) = (.pointer (some ⟨g, j, none⟩) : Value) := h.of 53 (by kernel_rfl)
            have c0 := cell_below h.below yc
            refine opOk_val (v := .slice ay yl cy) (w' := y_) (wanted_some (j := 8) (t := 49) (b := false) rfl rfl rfl (h.of 49 (by kernel_rfl))) ?_ (fun t ht => by cases ht; exact rfl) (Below.refl _ _)
            have ec : ∀ v, a.eval (.const v) = v := fun _ => rfl
            generalize a.eval = ev at *
            clear h
            go_simp
          refine AllOps.cons (fun a y_ h => ?_) ?_
          · have e50 : a.eval (.tmp 50) = (.func (.func 22) #[] #[.pointer (some ⟨RB, 0, none⟩), .pointer (some ⟨LB, 0, none⟩)] : Value) := h.of 50 (by kernel_rfl)
            have e54 : a.eval (.tmp 54) = (.slice ay yl cy : Value) := h.of 54 (by kernel_rfl)
            refine opOk_call (f := 22) (args := #[.slice ay yl cy, .pointer (some ⟨RB, 0, none⟩), .pointer (some ⟨LB, 0, none⟩)]) (wanted_some (j := 8) (t := 49) (b := false) rfl rfl rfl (h.of 49 (by kernel_rfl))) ?_ ?_
            · have ec : ∀ v, a.eval (.const v) = v := fun _ => rfl
              have ef : ∀ f, a.eval (.func f) = .func (.func f) #[] #[] := fun _ => rfl
              generalize a.eval = ev at *
              clear h
              go_simp
            · refine Calls.mono (HAY.out y_ h.below) ?_
              rintro _ y2 ⟨rfl, hb2⟩
              exact ⟨_, rfl, fun t ht => by cases ht; exact rfl, hb2⟩
          refine AllOps.cons (fun a y_ h => ?_) ?_
          · have e55 : a.eval (.tmp 55) = (.bool true : Value) := h.of 55 (by kernel_rfl)
            refine opOk_val (v := .bool false) (w' := y_) (wanted_some (j := 8) (t := 49) (b := false) rfl rfl rfl (h.of 49 (by kernel_rfl))) ?_ (fun t ht => by cases ht; exact rfl) (Below.refl _ _)
            have ec : ∀ v, a.eval (.const v) = v := fun _ => rfl
            generalize a.eval = ev at *
            clear h
            go_simp
          refine AllOps.cons (fun a y_ h => ?_) ?_
          · have e49 : a.eval (.tmp 49) = (.bool false : Value) := h.of 49 (by kernel_rfl)
            have e56 : a.eval (.tmp 56) = (.bool false : Value) := h.of 56 (by kernel_rfl)
            refine opOk_val (v := .bool false) (w' := y_) (wanted_none rfl) ?_ (fun t ht => by cases ht; exact rfl) (Below.refl _ _)
            have ec : ∀ v, a.eval (.const v) = v := fun _ => rfl
            generalize a.eval = ev at *
            clear h
            go_simp
          exact AllOps.nil
        case hend =>
          rintro ⟨tm, df⟩ wE hbE hdE hsE hstE hTE
          have h57 : tm.getD 57 undef = .bool false := ends_at (T := fun tQ vQ _ => vQ = lawH12Tv RB LB g j yl rv (.slice (some ⟨g, 0, none⟩) q.length cv) (.slice ay yl cy) tQ) (w := wE) (a := ⟨tm, df⟩) (t := 57) hTE (by kernel_rfl)
          obtain rfl : df = [] := hdE
          have hFE := tmps_fold [41, 42, 43, 44, 45, 46, 47, 48, 49, 50, 51, 52, 53, 54, 55, 56, 57] tm _ hsE hstE
          clear hsE hstE hTE
          simp only [List.foldl_cons, List.foldl_nil, h57] at hFE
          clear h57
          generalize tm.getD 41 undef = x41 at hFE
          generalize tm.getD 42 undef = x42 at hFE
          generalize tm.getD 43 undef = x43 at hFE
          generalize tm.getD 44 undef = x44 at hFE
          generalize tm.getD 45 undef = x45 at hFE
          generalize tm.getD 46 undef = x46 at hFE
          generalize tm.getD 47 undef = x47 at hFE
          generalize tm.getD 48 undef = x48 at hFE
          generalize tm.getD 49 undef = x49 at hFE
          generalize tm.getD 50 undef = x50 at hFE
          generalize tm.getD 51 undef = x51 at hFE
          generalize tm.getD 52 undef = x52 at hFE
          generalize tm.getD 53 undef = x53 at hFE
          generalize tm.getD 54 undef = x54 at hFE
          generalize tm.getD 55 undef = x55 at hFE
          generalize tm.getD 56 undef = x56 at hFE
          simp only [List.setIfInBounds_toArray, List.set_cons_zero, List.set_cons_succ] at hFE
          subst hFE
          cases bi
          · have HSI : Hid _ := SameInts_any yx nums _ _ wE (intsV_below HYI.out hbE) (intsV_below HXI.out (HB6.out.trans (hbE.mono HB6.out.size))) (by rw [HYL9.out]; have := HYL.out; omega)
            have ycE := cell_below hbE yc
            have HB7 : Hid (Below w5.heap.size w5 wE) := HB6.out.trans (hbE.mono HB6.out.size)
            clear hbE yc r4 HAY
            go_wp2_with fail
            refine Calls.mono HSI.out ?_
            rintro _ w7 ⟨rfl, n7, rfl⟩
            have HB8 : Hid (Below w5.heap.size w5 (wE.drewN n7)) := HB7.out.trans ((blw_drewN _ _).mono HB7.out.size)
            have HI2 : Hid (decide (yx = nums) = decide (nums ∈ (q.take (j + 1)).map (·.1))) := by show _ = _; rw [HIS2.out]; rfl
            clear HSI ycE HB7
            generalize wE.drewN n7 = w7 at *
            go_wp2_with fail
            go_roundw
            case rel => exact ⟨j + 1, hlt, by go_num, by rw [HI2.out], HB8.out⟩
            case measure => simp [intOf]; omega
          · have HB7 : Hid (Below w5.heap.size w5 wE) := HB6.out.trans (hbE.mono HB6.out.size)
            have HI2 : Hid (decide (nums ∈ (q.take (j + 1)).map (·.1)) = true) := by show _ = _; rw [HIS2.out]; rfl
            clear hbE yc r4 HAY
            go_wp2_with fail
            go_roundw
            case rel => exact ⟨j + 1, hlt, by go_num, by rw [HI2.out], HB7.out⟩
            case measure => simp [intOf]; omega
      · have hdd : decide (j < q.length) = false := decide_eq_false hlt
        have HBI : Hid (bi = decide (nums ∈ Ru.waysOut p k facts)) := by show _ = _; rw [← HIS.out, List.take_of_length_le (by omega), HQ.out]
        have HBE : Hid (Below w.heap.size w wo) := HB5.out.trans (HB6.out.mono HB5.out.size)
        clear HIS
        by_cases hnl : (nums.length : Int) = rv
        · have gl : ((nums.length : Int) != rv) = false := by simpa using hnl
          have HA : Hid _ := HALL.out wo nums (.slice ax nums.length cx) HB6.out (HXX.out wo HB6.out) (by omega)
          rw [HAW.out nums (by omega), ← HBI.out] at HA
          clear hnl
          go_wp2_with fail
          refine Calls.mono HA.out ?_
          rintro _ w8 ⟨rfl, hb8⟩
          have HBE2 : Hid (Below w.heap.size w w8) := HBE.out.trans (hb8.mono HBE.out.size)
          clear hb8 HA HBI HBE r4
          cases bi <;> (
            go_wp2_with fail
            go_ret
            exact ⟨rfl, HBE2.out⟩)
        · have gl : ((nums.length : Int) != rv) = true := by simpa using hnl
          clear hnl
          go_wp2_with fail
          go_ret
          exact ⟨rfl, HBE.out⟩
  · have g0 : (Ru.waysErr p i facts != 0) = true := by simpa using he
    have hq0 : q = [] := by
      have h1 := HQ.out
      unfold Ru.waysOut at h1
      rw [if_pos he] at h1
      exact List.map_eq_nil_iff.mp h1
    subst hq0
    clear he HN3 HQ
    go_wp2_with fail
    go_ret
    exact ⟨rfl, HB3.out⟩
end Go.Proofs.YthenjegmigeieaaGreat

/- A tree that came in, read out of memory. -/
namespace Go.Proofs.YthenjegmigeieaaGreat
open Go.RowKit

theorem A_cells3 : Tryz.prog.cellsOf 3 = 1 := by kernel_rfl
theorem A_cells9 : Tryz.prog.cellsOf 9 = 1 := by kernel_rfl

theorem list2 {l : List Value} (h : l.length = 2) : ∃ a b, l = [a, b] := by
  match l, h with
  | [a, b], _ => exact ⟨a, b, rfl⟩
theorem list5 {l : List Value} (h : l.length = 5) : ∃ a b c d e, l = [a, b, c, d, e] := by
  match l, h with
  | [a, b, c, d, e], _ => exact ⟨a, b, c, d, e, rfl⟩

section
variable {H : Type} {enc : TypeId × Value → H} {w : World} {base : Nat} {spare : Nat → Bool} {held : Bool}

/-- A slice whose elements can be read. -/
theorem open_row {α : Type} {st e : TypeId} {k : Nat} (ht : Tryz.prog.underlying st = some (.slice e)) (hk : Tryz.prog.cellsOf e = k) (hk0 : 0 < k) (d : α) (In : Nat → Nat → α → Prop)
    (el : ∀ n cs' y b off, cs'.length = k → (∀ j, j < k → w.cell? ⟨b, off + j, none⟩ = cs'[j]?) → DataW.trod enc Tryz.prog w base spare held n e cs' = some y → ∃ a, In b off a)
    {fuel : Nat} {v : Value} {x : DataW H × List MemPlace} (h : DataW.trod enc Tryz.prog w base spare held fuel st [v] = some x) :
    ∃ (ao : Option Addr) (l : List α) (cap : Nat), v = .slice ao l.length cap ∧ l.length ≤ 9223372036854775807 ∧ (l = [] ∨ ∃ b off, ao = some ⟨b, off, none⟩ ∧ ∀ i, i < l.length → In b (off + i * k) (l.getD i d)) := by
  haveI : Inhabited α := ⟨d⟩
  rcases Deep.open_slice ht h with ⟨hv, _⟩ | ⟨a, len, cap, m, n, D, Pl, hv, hb, hl, hm, hmm, hx, hel⟩
  · have hv' : v = .slice none 0 0 := by simpa using hv
    exact ⟨none, [], 0, hv', by simp, .inl rfl⟩
  · have hv' : v = .slice (some a) len cap := by simpa using hv
    have hlm : len ≤ m := by rw [hmm]; split <;> omega
    by_cases h0 : len = 0
    · subst h0
      exact ⟨some a, [], cap, hv', by simp, .inl rfl⟩
    · obtain ⟨b, off, spot⟩ := a
      have hspot : spot = none := by
        obtain ⟨cs', h1, _⟩ := hel 0 (by omega)
        rw [hk] at h1
        obtain ⟨_, hlen, hcell⟩ := World.cells?_some h1
        have hc := hcell 0 hk0
        cases hcs : cs'[0]? with
        | none => rw [List.getElem?_eq_none_iff] at hcs; omega
        | some u =>
          rw [hcs] at hc
          simpa [Addr.add] using World.cell?_spot hc
      subst hspot
      have each : ∀ i, i < len → ∃ q : α, In b (off + i * k) q := by
        intro i hi
        obtain ⟨cs', h1, h2⟩ := hel i (by omega)
        rw [hk] at h1
        obtain ⟨_, hlen, hcell⟩ := World.cells?_some h1
        refine el n cs' _ b (off + i * k) hlen (fun j hj => ?_) h2
        have := hcell j hj
        rw [Deep.add_add, WideShapes.add_plain] at this
        rw [← this, Nat.add_assoc]
      obtain ⟨q, hq⟩ := Deep.choose_lt each
      refine ⟨some ⟨b, off, none⟩, (List.range len).map q, cap, by rw [hv']; simp, by unfold maxLen at hm; simp; omega, .inr ⟨b, off, rfl, fun i hi => ?_⟩⟩
      have hi' : i < len := by simpa using hi
      have ht : ((List.range len).map q).getD i d = q i := by
        rw [List.getD_eq_getElem?_getD, List.getElem?_map, List.getElem?_range hi']
        rfl
      rw [ht]
      exact hq i hi'

theorem trod_struct2 {t : TypeId} {f0 f1 : Field} {fuel : Nat} {cs : List Value} {x : DataW H × List MemPlace} (ht : Tryz.prog.underlying t = some (.struct #[f0, f1])) (h : DataW.trod enc Tryz.prog w base spare held fuel t cs = some x) :
    ∃ y0 y1 n, cs.length = Tryz.prog.cellsOf t ∧ DataW.trod enc Tryz.prog w base spare held n f0.type ((cs.drop f0.offset).take (Tryz.prog.cellsOf f0.type)) = some y0 ∧
      DataW.trod enc Tryz.prog w base spare held n f1.type ((cs.drop f1.offset).take (Tryz.prog.cellsOf f1.type)) = some y1 := by
  obtain ⟨xs, n, _, rfl, hl, hlen, hf⟩ := DataW.trod_struct ht h
  match xs, hlen with
  | [y0, y1], _ => exact ⟨y0, y1, n, hl, by simpa using hf 0 f0 rfl, by simpa using hf 1 f1 rfl⟩
theorem trod_struct5 {t : TypeId} {f0 f1 f2 f3 f4 : Field} {fuel : Nat} {cs : List Value} {x : DataW H × List MemPlace} (ht : Tryz.prog.underlying t = some (.struct #[f0, f1, f2, f3, f4])) (h : DataW.trod enc Tryz.prog w base spare held fuel t cs = some x) :
    ∃ y0 y1 y2 y3 y4 n, cs.length = Tryz.prog.cellsOf t ∧ DataW.trod enc Tryz.prog w base spare held n f0.type ((cs.drop f0.offset).take (Tryz.prog.cellsOf f0.type)) = some y0 ∧
      DataW.trod enc Tryz.prog w base spare held n f1.type ((cs.drop f1.offset).take (Tryz.prog.cellsOf f1.type)) = some y1 ∧ DataW.trod enc Tryz.prog w base spare held n f2.type ((cs.drop f2.offset).take (Tryz.prog.cellsOf f2.type)) = some y2 ∧
      DataW.trod enc Tryz.prog w base spare held n f3.type ((cs.drop f3.offset).take (Tryz.prog.cellsOf f3.type)) = some y3 ∧ DataW.trod enc Tryz.prog w base spare held n f4.type ((cs.drop f4.offset).take (Tryz.prog.cellsOf f4.type)) = some y4 := by
  obtain ⟨xs, n, _, rfl, hl, hlen, hf⟩ := DataW.trod_struct ht h
  match xs, hlen with
  | [y0, y1, y2, y3, y4], _ => exact ⟨y0, y1, y2, y3, y4, n, hl, by simpa using hf 0 f0 rfl, by simpa using hf 1 f1 rfl, by simpa using hf 2 f2 rfl, by simpa using hf 3 f3 rfl, by simpa using hf 4 f4 rfl⟩

end

end Go.Proofs.YthenjegmigeieaaGreat

/- A program, a fact, that came in, read out of memory. -/
namespace Go.Proofs.YthenjegmigeieaaGreat
open Go.RowKit

theorem P_cells28 : Tryz.prog.cellsOf 55 = 2 := by kernel_rfl
theorem P_cells22 : Tryz.prog.cellsOf 22 = 1 := by kernel_rfl
theorem P_cells23 : Tryz.prog.cellsOf 23 = 1 := by kernel_rfl
theorem P_cells24 : Tryz.prog.cellsOf 24 = 1 := by kernel_rfl
theorem P_cells64 : Tryz.prog.cellsOf 37 = 1 := by kernel_rfl
theorem P_cells65 : Tryz.prog.cellsOf 38 = 1 := by kernel_rfl
theorem P_cells67 : Tryz.prog.cellsOf 40 = 5 := by kernel_rfl
theorem P_cells84 : Tryz.prog.cellsOf 49 = 4 := by kernel_rfl
theorem P_cells130 : Tryz.prog.cellsOf 147 = 2 := by kernel_rfl

theorem list4 {l : List Value} (h : l.length = 4) : ∃ a b c d, l = [a, b, c, d] := by
  match l, h with
  | [a, b, c, d], _ => exact ⟨a, b, c, d, rfl⟩

section
variable {H : Type} {enc : TypeId × Value → H} {w : World} {base : Nat} {spare : Nat → Bool} {held : Bool}

/-- A slice whose elements can be read; its length is no more than its room. -/
theorem open_rowC {α : Type} {st e : TypeId} {k : Nat} (ht : Tryz.prog.underlying st = some (.slice e)) (hk : Tryz.prog.cellsOf e = k) (hk0 : 0 < k) (d : α) (In : Nat → Nat → α → Prop)
    (el : ∀ n cs' y b off, cs'.length = k → (∀ j, j < k → w.cell? ⟨b, off + j, none⟩ = cs'[j]?) → DataW.trod enc Tryz.prog w base spare held n e cs' = some y → ∃ a, In b off a)
    {fuel : Nat} {v : Value} {x : DataW H × List MemPlace} (h : DataW.trod enc Tryz.prog w base spare held fuel st [v] = some x) :
    ∃ (ao : Option Addr) (l : List α) (cap : Nat), v = .slice ao l.length cap ∧ l.length ≤ cap ∧ l.length ≤ 9223372036854775807 ∧ (l = [] ∨ ∃ b off, ao = some ⟨b, off, none⟩ ∧ ∀ i, i < l.length → In b (off + i * k) (l.getD i d)) := by
  obtain ⟨ao, l, cap, hv, hm, hl⟩ := open_row ht hk hk0 d In el h
  refine ⟨ao, l, cap, hv, ?_, hm, hl⟩
  rcases Deep.open_slice ht h with ⟨hv2, _⟩ | ⟨a, len, cap2, m, n, D, Pl, hv2, hb, hl2, _⟩
  · have hv' : v = .slice none 0 0 := by simpa using hv2
    rw [hv] at hv'
    injection hv' with _ h1 h2
    omega
  · have hv' : v = .slice (some a) len cap2 := by simpa using hv2
    rw [hv] at hv'
    injection hv' with _ h1 h2
    omega

theorem trod_struct3 {t : TypeId} {f0 f1 f2 : Field} {fuel : Nat} {cs : List Value} {x : DataW H × List MemPlace} (ht : Tryz.prog.underlying t = some (.struct #[f0, f1, f2])) (h : DataW.trod enc Tryz.prog w base spare held fuel t cs = some x) :
    ∃ y0 y1 y2 n, cs.length = Tryz.prog.cellsOf t ∧ DataW.trod enc Tryz.prog w base spare held n f0.type ((cs.drop f0.offset).take (Tryz.prog.cellsOf f0.type)) = some y0 ∧
      DataW.trod enc Tryz.prog w base spare held n f1.type ((cs.drop f1.offset).take (Tryz.prog.cellsOf f1.type)) = some y1 ∧ DataW.trod enc Tryz.prog w base spare held n f2.type ((cs.drop f2.offset).take (Tryz.prog.cellsOf f2.type)) = some y2 := by
  obtain ⟨xs, n, _, rfl, hl, hlen, hf⟩ := DataW.trod_struct ht h
  match xs, hlen with
  | [y0, y1, y2], _ => exact ⟨y0, y1, y2, n, hl, by simpa using hf 0 f0 rfl, by simpa using hf 1 f1 rfl, by simpa using hf 2 f2 rfl⟩
theorem trod_struct4 {t : TypeId} {f0 f1 f2 f3 : Field} {fuel : Nat} {cs : List Value} {x : DataW H × List MemPlace} (ht : Tryz.prog.underlying t = some (.struct #[f0, f1, f2, f3])) (h : DataW.trod enc Tryz.prog w base spare held fuel t cs = some x) :
    ∃ y0 y1 y2 y3 n, cs.length = Tryz.prog.cellsOf t ∧ DataW.trod enc Tryz.prog w base spare held n f0.type ((cs.drop f0.offset).take (Tryz.prog.cellsOf f0.type)) = some y0 ∧
      DataW.trod enc Tryz.prog w base spare held n f1.type ((cs.drop f1.offset).take (Tryz.prog.cellsOf f1.type)) = some y1 ∧ DataW.trod enc Tryz.prog w base spare held n f2.type ((cs.drop f2.offset).take (Tryz.prog.cellsOf f2.type)) = some y2 ∧
      DataW.trod enc Tryz.prog w base spare held n f3.type ((cs.drop f3.offset).take (Tryz.prog.cellsOf f3.type)) = some y3 := by
  obtain ⟨xs, n, _, rfl, hl, hlen, hf⟩ := DataW.trod_struct ht h
  match xs, hlen with
  | [y0, y1, y2, y3], _ => exact ⟨y0, y1, y2, y3, n, hl, by simpa using hf 0 f0 rfl, by simpa using hf 1 f1 rfl, by simpa using hf 2 f2 rfl, by simpa using hf 3 f3 rfl⟩

theorem open_ints {fuel : Nat} {v : Value} {x : DataW H × List MemPlace} (h : DataW.trod enc Tryz.prog w base spare held fuel 22 [v] = some x) : ∃ l, IntsV w v l ∧ l.length ≤ 9223372036854775807 := by
  obtain ⟨ao, l, cap, hv, _, hmx, hl⟩ := open_rowC Tryz.underlying22 A_cells3 (by decide) (0 : Int) (fun b off a => w.cell? ⟨b, off, none⟩ = some (.int .i64 a)) (fun n cs' y b off hlen hc h2 => by
    match cs', hlen with
    | [v0], _ =>
      obtain ⟨k0, e0, _, _⟩ := DataW.trod_int Tryz.underlying3 h2
      simp at e0
      subst e0
      exact ⟨k0, hc 0 (by decide)⟩) h
  refine ⟨l, ⟨ao, cap, hv, ?_⟩, hmx⟩
  rcases hl with h | ⟨b, off, he, hc⟩
  · exact .inl h
  · exact .inr ⟨b, off, he, fun i hi => by have := hc i hi; rw [Nat.mul_one] at this; exact this⟩
theorem open_strs {fuel : Nat} {v : Value} {x : DataW H × List MemPlace} (h : DataW.trod enc Tryz.prog w base spare held fuel 23 [v] = some x) : ∃ l, StrsV w v l ∧ l.length ≤ 9223372036854775807 := by
  obtain ⟨ao, l, cap, hv, _, hmx, hl⟩ := open_rowC Tryz.underlying23 A_cells9 (by decide) ([] : List UInt8) (fun b off a => w.cell? ⟨b, off, none⟩ = some (.string ⟨a.toArray⟩)) (fun n cs' y b off hlen hc h2 => by
    match cs', hlen with
    | [v0], _ =>
      obtain ⟨k0, e0, _, _⟩ := DataW.trod_string Tryz.underlying9 h2
      simp at e0
      subst e0
      exact ⟨k0.data.toList, hc 0 (by decide)⟩) h
  refine ⟨l, ⟨ao, cap, hv, ?_⟩, hmx⟩
  rcases hl with h | ⟨b, off, he, hc⟩
  · exact .inl h
  · exact .inr ⟨b, off, he, fun i hi => by have := hc i hi; rw [Nat.mul_one] at this; exact this⟩
theorem open_pterms {fuel : Nat} {v : Value} {x : DataW H × List MemPlace} (h : DataW.trod enc Tryz.prog w base spare held fuel 37 [v] = some x) : ∃ l, PTermsV w v l ∧ l.length ≤ 9223372036854775807 := by
  obtain ⟨ao, l, cap, hv, hcap, hmx, hl⟩ := open_rowC Tryz.underlying37 P_cells130 (by decide) (⟨0, 0⟩ : Sc.Term) (PTermIn w) (fun n cs' y b off hlen hc h2 => by
    obtain ⟨y0, y1, k, _, g0, g1⟩ := trod_struct2 Tryz.underlying147 h2
    obtain ⟨v0, v1, rfl⟩ := list2 hlen
    simp [A_cells3] at g0 g1
    obtain ⟨k0, e0, _, _⟩ := DataW.trod_int Tryz.underlying3 g0
    obtain ⟨k1, e1, _, _⟩ := DataW.trod_int Tryz.underlying3 g1
    simp at e0 e1
    subst e0 e1
    exact ⟨⟨k0, k1⟩, hc 0 (by decide), hc 1 (by decide)⟩) h
  exact ⟨l, ⟨ao, cap, hv, hcap, hl⟩, hmx⟩
theorem open_fact {fuel : Nat} {v0 v1 : Value} {x : DataW H × List MemPlace} (h : DataW.trod enc Tryz.prog w base spare held fuel 55 [v0, v1] = some x) : ∃ pred args, v0 = .int .i64 pred ∧ IntsV w v1 args ∧ args.length ≤ 9223372036854775807 := by
  obtain ⟨y0, y1, n, _, g0, g1⟩ := trod_struct2 Tryz.underlying55 h
  simp [A_cells3, P_cells22] at g0 g1
  obtain ⟨k0, e0, _, _⟩ := DataW.trod_int Tryz.underlying3 g0
  obtain ⟨l1, hl1, hm1⟩ := open_ints g1
  simp at e0
  exact ⟨k0, l1, e0, hl1, hm1⟩
end

end Go.Proofs.YthenjegmigeieaaGreat

/- Facts, numbers and truths that came in, read out of memory; and how many there are at most. -/
namespace Go.Proofs.YthenjegmigeieaaGreat
open Go.RowKit

section
variable {H : Type} {enc : TypeId × Value → H} {w : World} {base : Nat} {spare : Nat → Bool} {held : Bool}

end

end Go.Proofs.YthenjegmigeieaaGreat

/- What came in for the laws of rules: a program with what its bodies have room for, facts. -/
namespace Go.Proofs.YthenjegmigeieaaGreat
open Go.RowKit

section
variable {H : Type} {enc : TypeId × Value → H} {w : World} {base : Nat} {spare : Nat → Bool} {held : Bool}

theorem open_plitsC {fuel : Nat} {v : Value} {x : DataW H × List MemPlace} (h : DataW.trod enc Tryz.prog w base spare held fuel 38 [v] = some x) : ∃ l, PLitsV w v l ∧ l.length ≤ 9223372036854775807 ∧ (∀ i, i < l.length → LitFit (Sc.litD l i)) ∧ CapOk v := by
  obtain ⟨ao, l, cap, hv, hcp, hmx, hl⟩ := open_rowC Tryz.underlying38 P_cells84 (by decide) (⟨0, 0, 0, []⟩ : Sc.Lit) (fun b off x => PLitIn w b off x ∧ LitFit x) (fun n cs' y b off hlen hc h2 => by
    obtain ⟨y0, y1, y2, y3, k, _, g0, g1, g2, g3⟩ := trod_struct4 Tryz.underlying49 h2
    obtain ⟨v0, v1, v2, v3, rfl⟩ := list4 hlen
    simp [A_cells3, P_cells64] at g0 g1 g2 g3
    obtain ⟨k0, e0, _, _⟩ := DataW.trod_int Tryz.underlying3 g0
    obtain ⟨k1, e1, _, _⟩ := DataW.trod_int Tryz.underlying3 g1
    obtain ⟨k2, e2, _, _⟩ := DataW.trod_int Tryz.underlying3 g2
    obtain ⟨l3, hl3, hm3⟩ := open_pterms g3
    simp at e0 e1 e2
    subst e0 e1 e2
    exact ⟨⟨k0, k1, k2, l3⟩, ⟨hc 0 (by decide), hc 1 (by decide), hc 2 (by decide), v3, hc 3 (by decide), hl3⟩, hm3⟩) h
  refine ⟨l, ⟨ao, cap, hv, ?_⟩, hmx, ?_, fun ao2 n2 c2 h2 => by rw [hv] at h2; injection h2 with _ e1 e2; subst e1 e2; exact hcp⟩
  · rcases hl with h | ⟨b, off, he, hc⟩
    · exact .inl h
    · exact .inr ⟨b, off, he, fun i hi => (hc i hi).1⟩
  · intro i hi
    rcases hl with h | ⟨b, off, he, hc⟩
    · rw [h] at hi; simp at hi
    · exact (hc i hi).2
theorem open_prulesC {fuel : Nat} {v : Value} {x : DataW H × List MemPlace} (h : DataW.trod enc Tryz.prog w base spare held fuel 24 [v] = some x) : ∃ l, PRulesV w v l ∧ l.length ≤ 9223372036854775807 ∧ (∀ i, i < l.length → RuleFit (Sc.ruleD l i)) ∧ RulesCap w v := by
  obtain ⟨ao, l, cap, hv, _, hmx, hl⟩ := open_rowC Tryz.underlying24 P_cells67 (by decide) (⟨0, [], 0, [], 0⟩ : Sc.Rule) (fun b off x => PRuleIn w b off x ∧ RuleFit x ∧ ∃ u, w.cell? ⟨b, off + 3, none⟩ = some u ∧ CapOk u) (fun n cs' y b off hlen hc h2 => by
    obtain ⟨y0, y1, y2, y3, y4, k, _, g0, g1, g2, g3, g4⟩ := trod_struct5 Tryz.underlying40 h2
    obtain ⟨v0, v1, v2, v3, v4, rfl⟩ := list5 hlen
    simp [A_cells3, P_cells64, P_cells65] at g0 g1 g2 g3 g4
    obtain ⟨k0, e0, _, _⟩ := DataW.trod_int Tryz.underlying3 g0
    obtain ⟨l1, hl1, hm1⟩ := open_pterms g1
    obtain ⟨k2, e2, _, _⟩ := DataW.trod_int Tryz.underlying3 g2
    obtain ⟨l3, hl3, hm3, hf3, hcp3⟩ := open_plitsC g3
    obtain ⟨k4, e4, _, _⟩ := DataW.trod_int Tryz.underlying3 g4
    simp at e0 e2 e4
    subst e0 e2 e4
    exact ⟨⟨k0, l1, k2, l3, k4⟩, ⟨hc 0 (by decide), ⟨v1, hc 1 (by decide), hl1⟩, hc 2 (by decide), ⟨v3, hc 3 (by decide), hl3⟩, hc 4 (by decide)⟩, ⟨hm1, hm3, hf3⟩, v3, hc 3 (by decide), hcp3⟩) h
  refine ⟨l, ⟨ao, cap, hv, ?_⟩, hmx, ?_, ?_⟩
  · rcases hl with h | ⟨b, off, he, hc⟩
    · exact .inl h
    · exact .inr ⟨b, off, he, fun i hi => (hc i hi).1⟩
  · intro i hi
    rcases hl with h | ⟨b, off, he, hc⟩
    · rw [h] at hi; simp at hi
    · exact (hc i hi).2.1
  · intro b off n cap2 hv2 k hk u hu
    rw [hv] at hv2
    injection hv2 with e1 e2 e3
    subst e1 e2 e3
    rcases hl with h | ⟨b2, off2, he, hc⟩
    · rw [h] at hk; simp at hk
    · injection he with he
      injection he with e1 e2
      subst e1 e2
      obtain ⟨u2, hu2, hok⟩ := (hc k hk).2.2
      rw [hu2] at hu
      injection hu with hu
      subst hu
      exact hok
theorem open_progC {fuel : Nat} {va vn vr : Value} {x : DataW H × List MemPlace} (h : DataW.trod enc Tryz.prog w base spare held fuel 26 [va, vn, vr] = some x) : ∃ p, ProgV w va vn vr p ∧ ProgFit p ∧ RulesCap w vr := by
  obtain ⟨y0, y1, y2, n, _, g0, g1, g2⟩ := trod_struct3 Tryz.underlying26 h
  simp [P_cells22, P_cells23, P_cells24] at g0 g1 g2
  obtain ⟨l0, hl0, hm0⟩ := open_ints g0
  obtain ⟨l1, hl1, hm1⟩ := open_strs g1
  obtain ⟨l2, hl2, hm2, hf2, hcp2⟩ := open_prulesC g2
  exact ⟨⟨l0, l1, l2⟩, ⟨hl0, hl1, hl2⟩, ⟨hm0, hm1, hm2, hf2⟩, hcp2⟩
theorem open_factsC {fuel : Nat} {v : Value} {x : DataW H × List MemPlace} (h : DataW.trod enc Tryz.prog w base spare held fuel 27 [v] = some x) : ∃ l, FactsV w v l ∧ l.length ≤ 9223372036854775807 ∧ ∀ f, f ∈ l → FFit f := by
  obtain ⟨ao, l, cap, hv, hcp, hmx, hl⟩ := open_rowC Tryz.underlying27 P_cells28 (by decide) (⟨0, []⟩ : Rl.Fc) (fun b off f => FactIn w b off f ∧ FFit f) (fun n cs' y b off hlen hc h2 => by
    match cs', hlen with
    | [v0, v1], _ =>
      obtain ⟨pr, ar, e0, hI, hm⟩ := open_fact h2
      exact ⟨⟨pr, ar⟩, ⟨by rw [← e0]; exact hc 0 (by decide), v1, hc 1 (by decide), hI⟩, hm⟩) h
  refine ⟨l, ⟨ao, cap, hv, ⟨hcp, fun e => ?_⟩, ?_⟩, hmx, fun f hf => ?_⟩
  · subst e
    rcases Deep.open_slice Tryz.underlying27 h with ⟨hv2, _⟩ | ⟨a, len, cap2, m, n, D, Pl, hv2, _⟩
    · have hv' : v = .slice none 0 0 := by simpa using hv2
      rw [hv] at hv'
      injection hv' with _ _ h2
    · have hv' : v = .slice (some a) len cap2 := by simpa using hv2
      rw [hv] at hv'
      injection hv' with h1
      cases h1
  · rcases hl with h | ⟨b, off, he, hc⟩
    · exact .inl h
    · exact .inr ⟨b, off, he, fun i hi => (hc i hi).1⟩
  · obtain ⟨i, hi, rfl⟩ := List.getElem_of_mem hf
    rcases hl with h | ⟨b, off, he, hc⟩
    · rw [h] at hi; simp at hi
    · have := (hc i hi).2
      rwa [List.getD_eq_getElem?_getD, List.getElem?_eq_getElem hi] at this
end
end Go.Proofs.YthenjegmigeieaaGreat

/- The closed facts of the row, one by one. -/
namespace Go.Proofs.YthenjegmigeieaaGreat
open Go.ChangeShapes Go.WideShapes Go.ChangeAt Go.RowKit
theorem rulHolds_and {a b : Bool} (ha : a = true) (hb : b = true) : (a && b) = true := by rw [ha, hb]; rfl
theorem rulHolds_j1 : Rows.ruleHoldsRow.wf (OpenSpec.ofChange Rows.ruleHoldsSpec) = true := by kernel_rfl
theorem rulHolds_j2 : laidOutB Tryz.prog = true := by kernel_rfl
theorem rulHolds_j3 : mapsRowed Tryz.prog = true := by kernel_rfl
theorem rulHolds_j4 : Tryz.f4.params.all (Tryz.prog.readableRec ·) = true := by kernel_rfl
theorem rulHolds_j5 : namedTie Tryz.prog Rows.ruleHoldsRow.named Rows.ruleHoldsSpec.vars = true := by kernel_rfl
theorem rulHolds_j6 : (Rows.ruleHoldsRow.stops == []) = true := by kernel_rfl
theorem rulHolds_j7 : (Tryz.prog.stops == []) = true := by kernel_rfl
theorem rulHolds_j8 : (Rows.ruleHoldsRow.knobs == []) = true := by kernel_rfl
theorem rulHolds_j9 : (Tryz.prog.stopKnobs == []) = true := by kernel_rfl
theorem rulHolds_j10 : (Rows.ruleHoldsRow.inPlace == Tryz.prog.inPlace 4) = true := by kernel_rfl
theorem rulHolds_j11 : (Rows.ruleHoldsRow.unfollowed == Tryz.prog.unfollowed 4) = true := by kernel_rfl
theorem rulHolds_j12 : (Rows.ruleHoldsRow.recurses == Tryz.prog.recurses 4) = true := by kernel_rfl
theorem rulHolds_j13 : (Rows.ruleHoldsRow.named == Tryz.prog.varsNamed 4) = true := by kernel_rfl
theorem rulHolds_j14 : (Rows.ruleHoldsRow.maps == (Tryz.f4.params.toList ++ Rows.ruleHoldsSpec.plain.varTypes Tryz.prog).any (Tryz.prog.mapsRec ·)) = true := by kernel_rfl
theorem rulHolds_j15 : (Rows.ruleHoldsRow.ifaces == (Tryz.f4.params.toList ++ Rows.ruleHoldsSpec.plain.varTypes Tryz.prog).any (Tryz.prog.ifacesRec ·)) = true := by kernel_rfl
theorem rulHolds_j16 : (Rows.ruleHoldsRow.mapsOut == Tryz.prog.mapsAmong Tryz.f4.resultTypes.toList) = true := by kernel_rfl
theorem rulHolds_j17 : (Rows.ruleHoldsRow.loops == (Tryz.f4.params.toList ++ Rows.ruleHoldsSpec.plain.varTypes Tryz.prog).any (Tryz.prog.loopsFrom ·)) = true := by kernel_rfl
theorem rulHolds_j18 : (Rows.ruleHoldsRow.wideKeys == (Tryz.f4.params.toList ++ Rows.ruleHoldsSpec.plain.varTypes Tryz.prog ++ Tryz.f4.resultTypes.toList).any (Tryz.prog.wideKeysFrom ·)) = true := by kernel_rfl
theorem rulHolds_j19 : Rows.ruleHoldsSpec.vars.all (Tryz.prog.varReadable ·) = true := by kernel_rfl
theorem rulHolds_j20 : Tryz.f4.resultTypes.all (fun t => Tryz.prog.readableRec t && decide (t < Tryz.prog.types.size)) = true := by kernel_rfl
theorem rulHolds_j21 : (Rows.ruleHoldsRow.ifacesOut == Tryz.f4.resultTypes.toList.any (Tryz.prog.ifacesRec ·)) = true := by kernel_rfl
theorem rulHolds_j22 : (Rows.ruleHoldsRow.loopsOut == Tryz.f4.resultTypes.toList.any (Tryz.prog.loopsFrom ·)) = true := by kernel_rfl
theorem rulHolds_j23 : (Rows.ruleHoldsRow.plainKeys == Tryz.prog.plainKeys) = true := by kernel_rfl
theorem rulHolds_j24 : Rows.ruleHoldsRow.shortTexts.isNone = true := by kernel_rfl
theorem rulHolds_j25 : Tryz.prog.stopsHeard = true := by kernel_rfl
theorem rulHolds_j26 : Tryz.prog.mayEnter = true := by kernel_rfl
theorem rulHolds_j27 : (Rows.ruleHoldsRow.lifted == Tryz.prog.liftsFinal) = true := by kernel_rfl
theorem rulHolds_j28 : (Tryz.prog.make == some Rows.ruleHoldsRow.make) = true := by kernel_rfl
theorem rulHolds_j29 : (Rows.ruleHoldsRow.kinds == (if Rows.ruleHoldsRow.domain.isEmpty then [] else Tryz.f4.params.toList.map fun t => match Tryz.prog.underlying t with | some (.int k) => some k | _ => none)) = true := by kernel_rfl
theorem rulHolds_j30 : (Rows.ruleHoldsRow.pinned == Rows.ruleHoldsRow.pinnedBy) = true := by kernel_rfl
theorem rulHolds_j31 : (Rows.ruleHoldsRow.veiled == (Tryz.f4.params.toList ++ Rows.ruleHoldsSpec.plain.varTypes Tryz.prog ++ Tryz.f4.resultTypes.toList).any (Tryz.prog.veiledRec ·)) = true := by kernel_rfl
theorem rulHolds_j32 : Rows.ruleHoldsRow.veiledFits Tryz.prog Tryz.f4.params.toList (Tryz.f4.params.toList ++ Rows.ruleHoldsSpec.plain.varTypes Tryz.prog ++ Tryz.f4.resultTypes.toList) = true := by kernel_rfl
set_option maxRecDepth 100000 in
theorem rulHolds_facts : joinedFacts Tryz.prog 4 Tryz.f4 (Rows.ruleHoldsSpec) Rows.ruleHoldsRow = true := by
  unfold joinedFacts
  exact rulHolds_and (rulHolds_and (rulHolds_and (rulHolds_and (rulHolds_and (rulHolds_and (rulHolds_and (rulHolds_and (rulHolds_and (rulHolds_and (rulHolds_and (rulHolds_and (rulHolds_and (rulHolds_and (rulHolds_and (rulHolds_and (rulHolds_and (rulHolds_and (rulHolds_and (rulHolds_and (rulHolds_and (rulHolds_and (rulHolds_and (rulHolds_and (rulHolds_and (rulHolds_and (rulHolds_and (rulHolds_and (rulHolds_and (rulHolds_and (rulHolds_and rulHolds_j1 rulHolds_j2) rulHolds_j3) rulHolds_j4) rulHolds_j5) rulHolds_j6) rulHolds_j7) rulHolds_j8) rulHolds_j9) rulHolds_j10) rulHolds_j11) rulHolds_j12) rulHolds_j13) rulHolds_j14) rulHolds_j15) rulHolds_j16) rulHolds_j17) rulHolds_j18) rulHolds_j19) rulHolds_j20) rulHolds_j21) rulHolds_j22) rulHolds_j23) rulHolds_j24) rulHolds_j25) rulHolds_j26) rulHolds_j27) rulHolds_j28) rulHolds_j29) rulHolds_j30) rulHolds_j31) rulHolds_j32
end Go.Proofs.YthenjegmigeieaaGreat

