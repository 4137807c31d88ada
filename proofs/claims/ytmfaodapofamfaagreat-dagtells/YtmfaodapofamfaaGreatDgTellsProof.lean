/- DagTells: whatever replica and update it is handed, it returns true, and what it was handed reads as it did. -/
import Derived.Test.YtmfaodapofamfaaGreatBundleJ
import Derived.Test.YtmfaodapofamfaaGreatRows
import Derived.ProofKit
import Derived.OpenShut
import Derived.ShutString
import Derived.ChangeOld
import Derived.Below
import Derived.Carry
import Derived.SizedLaws
namespace Go.Proofs.YtmfaodapofamfaaGreat
open Go.ChangeShapes Go.WideShapes Go.ChangeAt Go.RowKit

theorem dgTells_own : ownKnob Tryz.prog.godebug = none := by kernel_rfl
theorem dgTells_laidOut : laidOutB Tryz.prog = true := by kernel_rfl
theorem dgTells_arr2 {cs : Array Value} (h : cs.size = 2) : ∃ a0 a1, cs = #[a0, a1] := by
  obtain ⟨l⟩ := cs
  match l, h with
  | [a0, a1], _ => exact ⟨a0, a1, rfl⟩
theorem dgTells_arr5 {cs : Array Value} (h : cs.size = 5) : ∃ a0 a1 a2 a3 a4, cs = #[a0, a1, a2, a3, a4] := by
  obtain ⟨l⟩ := cs
  match l, h with
  | [a0, a1, a2, a3, a4], _ => exact ⟨a0, a1, a2, a3, a4, rfl⟩
theorem dgTells_cells24 : Tryz.prog.cellsOf 24 = 2 := by kernel_rfl
theorem dgTells_cells30 : Tryz.prog.cellsOf 30 = 5 := by kernel_rfl

set_option maxRecDepth 100000 in
theorem dgTells_contract (H : Type) (enc : TypeId × Value → H) (W : World) (base : Nat) (args : Array Value) (ds gs : List (DataW H)) (before : List MemPlace)
    (hval : ∀ (j : Nat) t v, Tryz.f3.params[j]? = some t → args[j]? = some v → Value.okWide Tryz.prog W .any base t v)
    (hW : DataW.Whole enc Tryz.prog Tryz.f3.params.toList Rows.dagTellsSpec.vars false W args.toList ds gs before) (hsz : (DataW.weightsEach Tryz.prog (Tryz.f3.params.toList ++ Rows.dagTellsSpec.plain.varTypes Tryz.prog) (ds ++ gs)).all (· ≤ reachBytes) = true) :
    Calls Tryz.prog 3 args W fun e W' => ∃ v, e = .returned v ∧ Rows.dagTellsSpec.post enc Tryz.prog Tryz.f3 false true false false W args v W' := by
  have hW' := hW
  obtain ⟨p, q, hA0, hV, rfl, hfz, hnd⟩ := hW
  have hA : DataW.TrodAll enc Tryz.prog W 0 (fun _ => true) true Tryz.f3.params.toList args.toList ds p := hA0
  rw [Tryz.params3] at hA hval hsz
  obtain ⟨v0, vs0, d0, ds0, p0, q0, hargs, rfl, rfl, h0, r0⟩ := trodAll_cons hA
  obtain ⟨v1, vs1, d1, ds1, p1, q1, hargs1, rfl, rfl, h1, r1⟩ := trodAll_cons r0
  obtain ⟨rfl, rfl, rfl⟩ := trodAll_nil r1
  obtain rfl : args = #[v0, v1] := by cases args; simp_all
  obtain ⟨rfl, rfl⟩ := trodVars_none hV
  have Z_0 : ∀ m, m ∈ DataW.weights Tryz.prog 24 d0 → m ≤ reachBytes := fun m hm => by have h9 := List.all_eq_true.1 hsz m (DataW.weights_mem_each (j := 0) rfl rfl m hm); simpa using h9
  have Z_1 : ∀ m, m ∈ DataW.weights Tryz.prog 30 d1 → m ≤ reachBytes := fun m hm => by have h9 := List.all_eq_true.1 hsz m (DataW.weights_mem_each (j := 1) rfl rfl m hm); simpa using h9
  have k0 := h0
  have lt0 : ∀ x ∈ p0, x.block < W.heap.size := by obtain ⟨m, hm⟩ := k0; exact DataW.trod_lt m _ _ _ hm
  obtain ⟨fuel0, hf0⟩ := h0
  obtain ⟨cs0, rfl, hcs0⟩ := okWide_struct Tryz.underlying24 (hval 0 24 v0 rfl rfl)
  rw [dgTells_cells24] at hcs0
  obtain ⟨rh_0, rw_0, rfl⟩ := dgTells_arr2 hcs0
  obtain ⟨Q_0, R_0, hQ_0, hR_0, hM_0, hU_0⟩ := open_repS (v0 := rh_0) (v1 := rw_0) (by simpa [Value.cells] using hf0) Z_0
  have k1 := h1
  have lt1 : ∀ x ∈ p1, x.block < W.heap.size := by obtain ⟨m, hm⟩ := k1; exact DataW.trod_lt m _ _ _ hm
  obtain ⟨fuel1, hf1⟩ := h1
  obtain ⟨cs1, rfl, hcs1⟩ := okWide_struct Tryz.underlying30 (hval 1 30 v1 rfl rfl)
  rw [dgTells_cells30] at hcs1
  obtain ⟨ux_1, uy_1, up_1, us_1, ut_1, rfl⟩ := dgTells_arr5 hcs1
  obtain ⟨U_1, hE_1, hP_1, hS_1, hT_1, hF_1, hL_1⟩ := open_up (v0 := ux_1) (v1 := uy_1) (v2 := up_1) (v3 := us_1) (v4 := ut_1) (by simpa [Value.cells] using hf1)
  clear hA0

  rw [hE_1]
  refine (dagTells_any Q_0 R_0 rh_0 rw_0 ⟨U_1, up_1, us_1, ut_1⟩ W hQ_0 hR_0 ⟨by omega, by omega⟩ hU_0 ⟨hP_1, hS_1, hT_1, hF_1, hL_1⟩).mono fun e W' ⟨he, bel⟩ => ?_
  subst he
  rw [← hE_1]
  exact ⟨_, rfl, _, _, _, [], _, [], hW', trodAll_mk1 (shut_bool Tryz.underlying4 _), trodAll_cons_mk (Below.trod dgTells_laidOut (by kernel_rfl) (of_decide_eq_true (by kernel_rfl)) k0 bel lt0) (trodAll_cons_mk (Below.trod dgTells_laidOut (by kernel_rfl) (of_decide_eq_true (by kernel_rfl)) k1 bel lt1) trodAll_mk0), rfl, bel.frame _, fun h => by cases h⟩

set_option maxRecDepth 100000 in
theorem dgTells_lifted (os : Os) (started : os.Started) (H : Type) (enc : TypeId × Value → H) :
    ReturnsInHanded {} Tryz.checked os 3 .any (Rows.dagTellsSpec.pre6 enc Tryz.prog Tryz.f3 Rows.dagTellsRow.domain false) (Rows.dagTellsSpec.post enc Tryz.prog Tryz.f3 false true false false) := by
  refine returnsInHanded_of_change_sized (C := Tryz.checked) dgTells_own started (by kernel_rfl) Tryz.func3
    (ChangeSpec.witness6 (enc := enc) (C := Tryz.checked) false ⟨#[], #[.agg #[.slice none 0 0, .slice none 0 0], .agg #[.int .i64 0, .int .i64 0, .slice none 0 0, .slice none 0 0, .slice none 0 0]], []⟩ 8 (by kernel_rfl) (by kernel_rfl) (by kernel_rfl) (by kernel_rfl)) ?_
  intro W base args ds gs before hval hW _ hsz _
  exact dgTells_contract H enc W base args ds gs before hval hW hsz

theorem dgTells_said : Rows.DagTellsSaid :=
  OpenClaim.holds_of_wide 3 Tryz.f3 rfl rfl rfl rfl rfl rfl rfl ⟨rfl, rfl, rfl, rfl, rfl⟩ rfl rfl rfl rfl rfl (by kernel_rfl) Tryz.func3 dgTells_facts
    (of_decide_eq_true (by kernel_rfl)) (by unfold Func.isWrapper; first | (rw [if_pos (by decide +kernel)]; kernel_rfl) | (rw [if_neg (by decide +kernel)]; exact ⟨rfl, rfl⟩))
    (fun os started H enc _ => dgTells_lifted os started H enc)
#print axioms dgTells_said

end Go.Proofs.YtmfaodapofamfaaGreat
