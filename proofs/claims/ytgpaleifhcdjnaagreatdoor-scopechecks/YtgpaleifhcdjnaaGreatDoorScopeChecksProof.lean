/- ScopeChecks: of every program and every fact, Check and Fact of package scope answer just what the document says. Conditions: none but the row's own; the listed variables of the library read as the program lays them (the tied card pays that). -/
import Derived.Test.YtgpaleifhcdjnaaGreatDoorBundleK
import Derived.Test.YtgpaleifhcdjnaaGreatDoorRows
import Derived.Test.YtgpaleifhcdjnaaGreatDoorCards
import Derived.Test.YtgpaleifhcdjnaaGreatDoorTie
import Derived.ProofKit
import Derived.OpenShut
import Derived.ShutString
import Derived.ChangeOld
import Derived.Below
import Derived.Carry
import Derived.Deep.DeepHandedRow
namespace Go.Proofs.YtgpaleifhcdjnaaGreatDoor
open Go.ChangeShapes Go.WideShapes Go.ChangeAt Go.RowKit

theorem scopeChecks_own : ownKnob Tryz.prog.godebug = none := by kernel_rfl
theorem scopeChecks_laidOut : laidOutB Tryz.prog = true := by kernel_rfl
theorem scopeChecks_arr2 {cs : Array Value} (h : cs.size = 2) : ∃ a0 a1, cs = #[a0, a1] := by
  obtain ⟨l⟩ := cs
  match l, h with
  | [a0, a1], _ => exact ⟨a0, a1, rfl⟩
theorem scopeChecks_arr3 {cs : Array Value} (h : cs.size = 3) : ∃ a0 a1 a2, cs = #[a0, a1, a2] := by
  obtain ⟨l⟩ := cs
  match l, h with
  | [a0, a1, a2], _ => exact ⟨a0, a1, a2, rfl⟩
theorem scopeChecks_cells26 : Tryz.prog.cellsOf 26 = 3 := by kernel_rfl
theorem scopeChecks_cells28 : Tryz.prog.cellsOf 28 = 2 := by kernel_rfl

set_option maxRecDepth 100000 in
theorem scopeChecks_contract (H : Type) (enc : TypeId × Value → H) (W : World) (base : Nat) (args : Array Value) (ds gs : List (DataW H)) (before : List MemPlace)
    (hval : ∀ (j : Nat) t v, Tryz.f3.params[j]? = some t → args[j]? = some v → Value.okWide Tryz.prog W .any base t v)
    (hW : DataW.Whole enc Tryz.prog Tryz.f3.params.toList Rows.scopeChecksSpec.vars false W args.toList ds gs before) :
    Calls Tryz.prog 3 args W fun e W' => ∃ v, e = .returned v ∧ Rows.scopeChecksSpec.post enc Tryz.prog Tryz.f3 false true false false W args v W' := by
  have hW' := hW
  obtain ⟨p, q, hA0, hV, rfl, hfz, hnd⟩ := hW
  have hA : DataW.TrodAll enc Tryz.prog W 0 (fun _ => true) true Tryz.f3.params.toList args.toList ds p := hA0
  rw [Tryz.params3] at hA hval
  obtain ⟨v0, vs0, d0, ds0, p0, q0, hargs, rfl, rfl, h0, r0⟩ := trodAll_cons hA
  obtain ⟨v1, vs1, d1, ds1, p1, q1, hargs1, rfl, rfl, h1, r1⟩ := trodAll_cons r0
  obtain ⟨rfl, rfl, rfl⟩ := trodAll_nil r1
  obtain rfl : args = #[v0, v1] := by cases args; simp_all
  obtain ⟨rfl, rfl⟩ := trodVars_none hV
  have k0 := h0
  have lt0 : ∀ x ∈ p0, x.block < W.heap.size := by obtain ⟨m, hm⟩ := k0; exact DataW.trod_lt m _ _ _ hm
  obtain ⟨fuel0, hf0⟩ := h0
  obtain ⟨cs0, rfl, hcs0⟩ := okWide_struct Tryz.underlying26 (hval 0 26 v0 rfl rfl)
  rw [scopeChecks_cells26] at hcs0
  obtain ⟨ua_0, un_0, ur_0, rfl⟩ := scopeChecks_arr3 hcs0
  obtain ⟨P_0, hP_0, hF_0⟩ := open_prog (va := ua_0) (vn := un_0) (vr := ur_0) (by simpa [Value.cells] using hf0)
  have k1 := h1
  have lt1 : ∀ x ∈ p1, x.block < W.heap.size := by obtain ⟨m, hm⟩ := k1; exact DataW.trod_lt m _ _ _ hm
  obtain ⟨fuel1, hf1⟩ := h1
  obtain ⟨cs1, rfl, hcs1⟩ := okWide_struct Tryz.underlying28 (hval 1 28 v1 rfl rfl)
  rw [scopeChecks_cells28] at hcs1
  obtain ⟨u0_1, uv_1, rfl⟩ := scopeChecks_arr2 hcs1
  obtain ⟨pr_1, ar_1, rfl, hI_1, hM_1⟩ := open_fact (v0 := u0_1) (v1 := uv_1) (by simpa [Value.cells] using hf1)
  clear hA0
  refine (law_scopeChecks P_0 pr_1 ar_1 W ua_0 un_0 ur_0 uv_1 hP_0 hF_0 hI_1 hM_1).mono fun e W' ⟨he, bel⟩ => ?_
  subst he
  exact ⟨_, rfl, _, _, _, [], _, [], hW', trodAll_mk1 (shut_bool Tryz.underlying4 _), trodAll_cons_mk (Below.trod scopeChecks_laidOut (by kernel_rfl) (of_decide_eq_true (by kernel_rfl)) k0 bel lt0) (trodAll_cons_mk (Below.trod scopeChecks_laidOut (by kernel_rfl) (of_decide_eq_true (by kernel_rfl)) k1 bel lt1) trodAll_mk0), rfl, bel.frame _, fun h => by cases h⟩

theorem scopeChecks_reads (os : Os) (W : World) (hW : IsLaid os W) {H : Type} (enc : TypeId × Value → H) : ∃ places, DataW.whole enc Tryz.prog (W.forCall (fun _ _ => 0) ⟨#[], #[.agg #[.slice none 0 0, .slice none 0 0, .slice none 0 0], .agg #[.int .i64 0, .slice none 0 0]], []⟩).memory Tryz.f3.params.toList Rows.scopeChecksSpec.vars false #[Value.agg #[.slice none 0 0, .slice none 0 0, .slice none 0 0], .agg #[.int .i64 0, .slice none 0 0]].toList 8 = some ([.agg [.nil, .nil, .nil], .agg [.lit (.int .i64 0), .nil]], [], places) := by
  cases hW
  exact ⟨[], by kernel_rfl⟩

set_option maxRecDepth 100000 in
theorem scopeChecks_lifted (os : Os) (started : os.Started) (H : Type) (enc : TypeId × Value → H) (F : Stop.Interp) :
    ReturnsInHanded {} Tryz.checked os 3 .any ((OpenSpec.ofChange Rows.scopeChecksSpec).preRow enc Tryz.prog Tryz.f3 Rows.scopeChecksRow.domain false Rows.scopeChecksRow.laid) (((OpenSpec.ofChange Rows.scopeChecksSpec).at F).post enc Tryz.prog Tryz.f3 false true false false) := by
  obtain ⟨W0, hW0⟩ := isLaid os
  obtain ⟨places, hx⟩ := scopeChecks_reads os W0 hW0 enc
  have hm := laid_met os W0 hW0
  cases hW0
  refine returnsInHanded_of_row (C := Tryz.checked) (s := OpenSpec.ofChange Rows.scopeChecksSpec) scopeChecks_own started (by kernel_rfl) Tryz.func3
    (witness_row_at (enc := enc) (C := Tryz.checked) false _ #[.agg #[.slice none 0 0, .slice none 0 0, .slice none 0 0], .agg #[.int .i64 0, .slice none 0 0]] rfl (by kernel_rfl) (by kernel_rfl) (by kernel_rfl)
      (OpenSpec.preRow_of_cond 8 hx (by kernel_rfl) (fun k hk => by cases hk) (by kernel_rfl) (hm _))) ?_
  intro W base args ds gs before hval hW _ _ _ _ _ _
  exact scopeChecks_contract H enc W base args ds gs before hval hW

theorem scopeChecks_said : Rows.ScopeChecksSaid :=
  OpenClaim.holds_of_cond 3 Tryz.f3 rfl rfl rfl rfl rfl rfl rfl ⟨rfl, rfl, rfl, rfl, rfl⟩ rfl rfl rfl rfl rfl (by kernel_rfl) Tryz.func3 (by kernel_rfl)
    (of_decide_eq_true (by kernel_rfl)) (by unfold Func.isWrapper; first | (rw [if_pos (by decide +kernel)]; kernel_rfl) | (rw [if_neg (by decide +kernel)]; exact ⟨rfl, rfl⟩))
    (fun os started H enc _ F => by rw [OpenClaim.pre_eq_preRow]; exact scopeChecks_lifted os started H enc F)

theorem scopeChecks_plain (f : FuncId) (fn : Func) (hf : Tryz.pinned.checked.prog.funcNamed "groundwork/groundworklaw.ScopeChecks" = some f) (hfn : Tryz.pinned.checked.prog.funcs[f]? = some fn) :
    true = Tryz.pinned.checked.prog.looks [] ∧ ∀ (j : Nat) t, fn.params[j]? = some t → Tryz.pinned.checked.prog.wantsStandIn t = false := by
  obtain rfl : f = 3 := Option.some.inj ((show Tryz.prog.funcNamed "groundwork/groundworklaw.ScopeChecks" = some 3 by kernel_rfl).symm.trans hf) |>.symm
  obtain rfl : fn = Tryz.f3 := (Option.some.inj (Tryz.func3.symm.trans hfn)).symm
  refine ⟨by kernel_rfl, fun j t ht => ?_⟩
  rw [Tryz.params3] at ht
  have h2 : t = 26 ∨ t = 28 := by
    have := Array.mem_of_getElem? ht
    simp at this
    omega
  rcases h2 with rfl | rfl
  · exact (show Tryz.prog.wantsStandIn 26 = false by kernel_rfl)
  · exact (show Tryz.prog.wantsStandIn 28 = false by kernel_rfl)

theorem scopeChecks_card : Rows.ScopeChecksCardSaid :=
  Claim7.holds_tied_plain_at .later [] _ _ _ _ scopeChecks_said (fun _ h => by cases h) (by kernel_rfl) (fun _ h => by cases h) scopeChecks_row_tie rfl ⟨rfl, rfl⟩ (by kernel_rfl) rfl scopeChecks_plain (by kernel_rfl)
#print axioms scopeChecks_card

end Go.Proofs.YtgpaleifhcdjnaaGreatDoor
