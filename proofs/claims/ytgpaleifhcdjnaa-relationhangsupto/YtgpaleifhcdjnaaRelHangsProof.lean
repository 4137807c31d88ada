/- RelationHangs, where what comes in is of bulk at most 1048576: whatever facts it is handed, it returns true, and what it was handed reads as it did. -/
import Derived.Test.YtgpaleifhcdjnaaBundleE
import Derived.Test.YtgpaleifhcdjnaaRows
import Derived.ProofKit
import Derived.OpenShut
import Derived.ChangeOld
import Derived.Below
import Derived.Carry
import Derived.JoinedCond
namespace Go.Proofs.Ytgpaleifhcdjnaa
open Go.ChangeShapes Go.WideShapes Go.ChangeAt Go.RowKit

theorem relHangs_own : ownKnob Try.prog.godebug = none := by kernel_rfl
theorem relHangs_laidOut : laidOutB Try.prog = true := by kernel_rfl
theorem relHangs_arr2 {cs : Array Value} (h : cs.size = 2) : ∃ a0 a1, cs = #[a0, a1] := by
  obtain ⟨l⟩ := cs
  match l, h with
  | [a0, a1], _ => exact ⟨a0, a1, rfl⟩
theorem relHangs_cells49 : Try.prog.cellsOf 49 = 2 := by kernel_rfl

set_option maxRecDepth 100000 in
theorem relHangs_contract (H : Type) (enc : TypeId × Value → H) (W : World) (base : Nat) (args : Array Value) (ds gs : List (DataW H)) (before : List MemPlace)
    (hval : ∀ (j : Nat) t v, Try.f6.params[j]? = some t → args[j]? = some v → Value.okWide Try.prog W .any base t v)
    (hW : DataW.Whole enc Try.prog Try.f6.params.toList Rows.relationHangsSpec.vars false W args.toList ds gs before) (hk : Rows.uptoSmall H (ds ++ gs) = true) :
    Calls Try.prog 6 args W fun e W' => ∃ v, e = .returned v ∧ Rows.relationHangsSpec.post enc Try.prog Try.f6 false true false false W args v W' := by
  have hW' := hW
  obtain ⟨p, q, hA0, hV, rfl, hfz, hnd⟩ := hW
  have hA : DataW.TrodAll enc Try.prog W 0 (fun _ => true) true Try.f6.params.toList args.toList ds p := hA0
  rw [Try.params6] at hA hval
  obtain ⟨v0, vs0, d0, ds0, p0, q0, hargs, rfl, rfl, h0, r0⟩ := trodAll_cons hA
  obtain ⟨v1, vs1, d1, ds1, p1, q1, hargs1, rfl, rfl, h1, r1⟩ := trodAll_cons r0
  obtain ⟨v2, vs2, d2, ds2, p2, q2, hargs2, rfl, rfl, h2, r2⟩ := trodAll_cons r1
  obtain ⟨v3, vs3, d3, ds3, p3, q3, hargs3, rfl, rfl, h3, r3⟩ := trodAll_cons r2
  obtain ⟨v4, vs4, d4, ds4, p4, q4, hargs4, rfl, rfl, h4, r4⟩ := trodAll_cons r3
  obtain ⟨rfl, rfl, rfl⟩ := trodAll_nil r4
  obtain rfl : args = #[v0, v1, v2, v3, v4] := by cases args; simp_all
  obtain ⟨rfl, rfl⟩ := trodVars_none hV
  have BA : Rows.uptoBulkAll [d0, d1, d2, d3, d4] ≤ 1048576 := of_decide_eq_true (by rw [List.append_nil] at hk; exact hk)
  clear hk
  have k0 := h0
  have lt0 : ∀ x ∈ p0, x.block < W.heap.size := by obtain ⟨m, hm⟩ := k0; exact DataW.trod_lt m _ _ _ hm
  obtain ⟨fuel0, hf0⟩ := h0
  obtain ⟨xa0, xn0, xc0, rfl, _⟩ := okWide_slice Try.underlying47 (hval 0 47 v0 rfl rfl)
  obtain ⟨L_0, hL_0, hM_0, hN_0⟩ := open_facts (v := Value.slice xa0 xn0 xc0) (by simpa [Value.cells] using hf0)
  have k1 := h1
  have lt1 : ∀ x ∈ p1, x.block < W.heap.size := by obtain ⟨m, hm⟩ := k1; exact DataW.trod_lt m _ _ _ hm
  obtain ⟨fuel1, hf1⟩ := h1
  obtain ⟨xa1, xn1, xc1, rfl, _⟩ := okWide_slice Try.underlying47 (hval 1 47 v1 rfl rfl)
  obtain ⟨L_1, hL_1, hM_1, hN_1⟩ := open_facts (v := Value.slice xa1 xn1 xc1) (by simpa [Value.cells] using hf1)
  have k2 := h2
  have lt2 : ∀ x ∈ p2, x.block < W.heap.size := by obtain ⟨m, hm⟩ := k2; exact DataW.trod_lt m _ _ _ hm
  obtain ⟨fuel2, hf2⟩ := h2
  obtain ⟨cs2, rfl, hcs2⟩ := okWide_struct Try.underlying49 (hval 2 49 v2 rfl rfl)
  rw [relHangs_cells49] at hcs2
  obtain ⟨u0_2, uv_2, rfl⟩ := relHangs_arr2 hcs2
  obtain ⟨f_2, rfl, hI_2, hM_2⟩ := open_fact (v0 := u0_2) (v1 := uv_2) (by simpa [Value.cells] using hf2)
  have k3 := h3
  have lt3 : ∀ x ∈ p3, x.block < W.heap.size := by obtain ⟨m, hm⟩ := k3; exact DataW.trod_lt m _ _ _ hm
  obtain ⟨fuel3, hf3⟩ := h3
  obtain ⟨cs3, rfl, hcs3⟩ := okWide_struct Try.underlying49 (hval 3 49 v3 rfl rfl)
  rw [relHangs_cells49] at hcs3
  obtain ⟨u0_3, uv_3, rfl⟩ := relHangs_arr2 hcs3
  obtain ⟨f_3, rfl, hI_3, hM_3⟩ := open_fact (v0 := u0_3) (v1 := uv_3) (by simpa [Value.cells] using hf3)
  have k4 := h4
  have lt4 : ∀ x ∈ p4, x.block < W.heap.size := by obtain ⟨m, hm⟩ := k4; exact DataW.trod_lt m _ _ _ hm
  obtain ⟨fuel4, hf4⟩ := h4
  obtain ⟨cs4, rfl, hcs4⟩ := okWide_struct Try.underlying49 (hval 4 49 v4 rfl rfl)
  rw [relHangs_cells49] at hcs4
  obtain ⟨u0_4, uv_4, rfl⟩ := relHangs_arr2 hcs4
  obtain ⟨f_4, rfl, hI_4, hM_4⟩ := open_fact (v0 := u0_4) (v1 := uv_4) (by simpa [Value.cells] using hf4)
  clear hA0
  have B_0 : Rows.uptoBulk d0 ≤ 1048576 := by simp only [Rows.uptoBulkAll] at BA; omega
  have B_1 : Rows.uptoBulk d1 ≤ 1048576 := by simp only [Rows.uptoBulkAll] at BA; omega
  have B_2 : Rows.uptoBulk d2 ≤ 1048576 := by simp only [Rows.uptoBulkAll] at BA; omega
  have B_3 : Rows.uptoBulk d3 ≤ 1048576 := by simp only [Rows.uptoBulkAll] at BA; omega
  have B_4 : Rows.uptoBulk d4 ≤ 1048576 := by simp only [Rows.uptoBulkAll] at BA; omega
  have BLM : L_0.length + L_1.length ≤ 1048576 := by simp only [Rows.uptoBulkAll] at BA; have := hM_0; have := hM_1; dsimp only at *; omega
  refine (relationHangs_walk (Value.slice xa0 xn0 xc0) (Value.slice xa1 xn1 xc1) uv_2 uv_3 uv_4 L_0 L_1 f_2 f_3 f_4 W ⟨hL_0, hL_1, hI_2, hI_3, hI_4, BLM, fun f hf => Nat.le_trans (hN_0 f hf) B_0, fun f hf => Nat.le_trans (hN_1 f hf) B_1, Nat.le_trans (Nat.le_trans hM_2 B_2) (by decide), Nat.le_trans (Nat.le_trans hM_3 B_3) (by decide), Nat.le_trans (Nat.le_trans hM_4 B_4) (by decide)⟩).mono fun e W' ⟨he, bel⟩ => ?_
  subst he
  exact ⟨_, rfl, _, _, _, [], _, [], hW', trodAll_mk1 (shut_bool Try.underlying4 _), trodAll_cons_mk (Below.trod relHangs_laidOut (by kernel_rfl) (of_decide_eq_true (by kernel_rfl)) k0 bel lt0) (trodAll_cons_mk (Below.trod relHangs_laidOut (by kernel_rfl) (of_decide_eq_true (by kernel_rfl)) k1 bel lt1) (trodAll_cons_mk (Below.trod relHangs_laidOut (by kernel_rfl) (of_decide_eq_true (by kernel_rfl)) k2 bel lt2) (trodAll_cons_mk (Below.trod relHangs_laidOut (by kernel_rfl) (of_decide_eq_true (by kernel_rfl)) k3 bel lt3) (trodAll_cons_mk (Below.trod relHangs_laidOut (by kernel_rfl) (of_decide_eq_true (by kernel_rfl)) k4 bel lt4) trodAll_mk0)))), rfl, bel.frame _, fun h => by cases h⟩

set_option maxRecDepth 100000 in
theorem relHangs_lifted (os : Os) (started : os.Started) (H : Type) (enc : TypeId × Value → H) (F : Stop.Interp) :
    ReturnsInHanded {} Try.checked os 6 .any ((Rows.OpenSpec.upto Rows.relationHangsSpec).pre6 enc Try.prog Try.f6 Rows.relationHangsUptoRow.domain false) (((Rows.OpenSpec.upto Rows.relationHangsSpec).at F).post enc Try.prog Try.f6 false true false false) := by
  refine returnsInHanded_of_cond (C := Try.checked) (s := Rows.OpenSpec.upto Rows.relationHangsSpec) (k := Rows.uptoSmall) rfl relHangs_own started (by kernel_rfl) Try.func6
    (OpenSpec.witness (enc := enc) (C := Try.checked) (s := Rows.OpenSpec.upto Rows.relationHangsSpec) (k := Rows.uptoSmall) rfl false ⟨#[], #[.slice none 0 0, .slice none 0 0, .agg #[.int .i64 0, .slice none 0 0], .agg #[.int .i64 0, .slice none 0 0], .agg #[.int .i64 0, .slice none 0 0]], []⟩ 8 (by kernel_rfl) (by kernel_rfl) (by kernel_rfl)
      (x := ([.nil, .nil, .agg [.lit (.int .i64 0), .nil], .agg [.lit (.int .i64 0), .nil], .agg [.lit (.int .i64 0), .nil]], [], [])) (by kernel_rfl) rfl (by kernel_rfl)) ?_
  intro W base args ds gs before hval hW _ hk _
  exact relHangs_contract H enc W base args ds gs before hval hW hk

theorem relHangs_said : Rows.RelationHangsUptoSaid :=
  OpenClaim.holds_of_cond 6 Try.f6 rfl rfl rfl rfl rfl rfl rfl ⟨rfl, rfl, rfl, rfl, rfl⟩ rfl rfl rfl rfl rfl (by kernel_rfl) Try.func6 (by kernel_rfl)
    (of_decide_eq_true (by kernel_rfl)) (by unfold Func.isWrapper; first | (rw [if_pos (by decide +kernel)]; kernel_rfl) | (rw [if_neg (by decide +kernel)]; exact ⟨rfl, rfl⟩))
    (fun os started H enc _ F => relHangs_lifted os started H enc F)
#print axioms relHangs_said

end Go.Proofs.Ytgpaleifhcdjnaa
