/- ScopeResolves: of every tree, Resolve answers just what the document says, errors and places too. Conditions: none but the row's own; the listed variables of the library read as the program lays them (the tied card pays that). -/
import Derived.Test.YtgpaleifhcdjnaaGreatDoorBundleK
import Derived.Test.YtgpaleifhcdjnaaGreatDoorRows
import Derived.Test.YtgpaleifhcdjnaaGreatDoorCards
import Derived.Test.YtgpaleifhcdjnaaGreatDoorTie
import Derived.ProofKit
import Derived.OpenShut
import Derived.ShutString
import Derived.ChangeOld
import Derived.Below
import Derived.Carry
import Derived.Deep.DeepHandedRow
namespace Go.Proofs.YtgpaleifhcdjnaaGreatDoor
open Go.ChangeShapes Go.WideShapes Go.ChangeAt Go.RowKit

theorem scopeResolves_own : ownKnob Tryz.prog.godebug = none := by kernel_rfl
theorem scopeResolves_laidOut : laidOutB Tryz.prog = true := by kernel_rfl
theorem scopeResolves_arr1 {cs : Array Value} (h : cs.size = 1) : ∃ a0, cs = #[a0] := by
  obtain ⟨l⟩ := cs
  match l, h with
  | [a0], _ => exact ⟨a0, rfl⟩
theorem scopeResolves_cells36 : Tryz.prog.cellsOf 36 = 1 := by kernel_rfl

set_option maxRecDepth 100000 in
theorem scopeResolves_contract (H : Type) (enc : TypeId × Value → H) (W : World) (base : Nat) (args : Array Value) (ds gs : List (DataW H)) (before : List MemPlace)
    (hval : ∀ (j : Nat) t v, Tryz.f4.params[j]? = some t → args[j]? = some v → Value.okWide Tryz.prog W .any base t v)
    (hW : DataW.Whole enc Tryz.prog Tryz.f4.params.toList Rows.scopeResolvesSpec.vars false W args.toList ds gs before) :
    Calls Tryz.prog 4 args W fun e W' => ∃ v, e = .returned v ∧ Rows.scopeResolvesSpec.post enc Tryz.prog Tryz.f4 false true false false W args v W' := by
  have hW' := hW
  obtain ⟨p, q, hA0, hV, rfl, hfz, hnd⟩ := hW
  have hA : DataW.TrodAll enc Tryz.prog W 0 (fun _ => true) true Tryz.f4.params.toList args.toList ds p := hA0
  rw [Tryz.params4] at hA hval
  obtain ⟨v0, vs0, d0, ds0, p0, q0, hargs, rfl, rfl, h0, r0⟩ := trodAll_cons hA
  obtain ⟨rfl, rfl, rfl⟩ := trodAll_nil r0
  obtain rfl : args = #[v0] := by cases args; simp_all
  obtain ⟨rfl, rfl⟩ := trodVars_none hV
  have k0 := h0
  have lt0 : ∀ x ∈ p0, x.block < W.heap.size := by obtain ⟨m, hm⟩ := k0; exact DataW.trod_lt m _ _ _ hm
  obtain ⟨fuel0, hf0⟩ := h0
  obtain ⟨cs0, rfl, hcs0⟩ := okWide_struct Tryz.underlying36 (hval 0 36 v0 rfl rfl)
  rw [scopeResolves_cells36] at hcs0
  obtain ⟨u_0, rfl⟩ := scopeResolves_arr1 hcs0
  obtain ⟨l_0, hR_0, hFi_0⟩ := open_tree (v := u_0) (by simpa [Value.cells] using hf0)
  clear hA0
  refine (law_scopeResolves l_0 W u_0 hR_0).mono fun e W' ⟨he, bel⟩ => ?_
  subst he
  exact ⟨_, rfl, _, _, _, [], _, [], hW', trodAll_mk1 (shut_bool Tryz.underlying4 _), trodAll_cons_mk (Below.trod scopeResolves_laidOut (by kernel_rfl) (of_decide_eq_true (by kernel_rfl)) k0 bel lt0) trodAll_mk0, rfl, bel.frame _, fun h => by cases h⟩

theorem scopeResolves_reads (os : Os) (W : World) (hW : IsLaid os W) {H : Type} (enc : TypeId × Value → H) : ∃ places, DataW.whole enc Tryz.prog (W.forCall (fun _ _ => 0) ⟨#[], #[.agg #[.slice none 0 0]], []⟩).memory Tryz.f4.params.toList Rows.scopeResolvesSpec.vars false #[Value.agg #[.slice none 0 0]].toList 8 = some ([.agg [.nil]], [], places) := by
  cases hW
  exact ⟨[], by kernel_rfl⟩

set_option maxRecDepth 100000 in
theorem scopeResolves_lifted (os : Os) (started : os.Started) (H : Type) (enc : TypeId × Value → H) (F : Stop.Interp) :
    ReturnsInHanded {} Tryz.checked os 4 .any ((OpenSpec.ofChange Rows.scopeResolvesSpec).preRow enc Tryz.prog Tryz.f4 Rows.scopeResolvesRow.domain false Rows.scopeResolvesRow.laid) (((OpenSpec.ofChange Rows.scopeResolvesSpec).at F).post enc Tryz.prog Tryz.f4 false true false false) := by
  obtain ⟨W0, hW0⟩ := isLaid os
  obtain ⟨places, hx⟩ := scopeResolves_reads os W0 hW0 enc
  have hm := laid_met os W0 hW0
  cases hW0
  refine returnsInHanded_of_row (C := Tryz.checked) (s := OpenSpec.ofChange Rows.scopeResolvesSpec) scopeResolves_own started (by kernel_rfl) Tryz.func4
    (witness_row_at (enc := enc) (C := Tryz.checked) false _ #[.agg #[.slice none 0 0]] rfl (by kernel_rfl) (by kernel_rfl) (by kernel_rfl)
      (OpenSpec.preRow_of_cond 8 hx (by kernel_rfl) (fun k hk => by cases hk) (by kernel_rfl) (hm _))) ?_
  intro W base args ds gs before hval hW _ _ _ _ _ _
  exact scopeResolves_contract H enc W base args ds gs before hval hW

theorem scopeResolves_said : Rows.ScopeResolvesSaid :=
  OpenClaim.holds_of_cond 4 Tryz.f4 rfl rfl rfl rfl rfl rfl rfl ⟨rfl, rfl, rfl, rfl, rfl⟩ rfl rfl rfl rfl rfl (by kernel_rfl) Tryz.func4 (by kernel_rfl)
    (of_decide_eq_true (by kernel_rfl)) (by unfold Func.isWrapper; first | (rw [if_pos (by decide +kernel)]; kernel_rfl) | (rw [if_neg (by decide +kernel)]; exact ⟨rfl, rfl⟩))
    (fun os started H enc _ F => by rw [OpenClaim.pre_eq_preRow]; exact scopeResolves_lifted os started H enc F)

theorem scopeResolves_plain (f : FuncId) (fn : Func) (hf : Tryz.pinned.checked.prog.funcNamed "groundwork/groundworklaw.ScopeResolves" = some f) (hfn : Tryz.pinned.checked.prog.funcs[f]? = some fn) :
    true = Tryz.pinned.checked.prog.looks [] ∧ ∀ (j : Nat) t, fn.params[j]? = some t → Tryz.pinned.checked.prog.wantsStandIn t = false := by
  obtain rfl : f = 4 := Option.some.inj ((show Tryz.prog.funcNamed "groundwork/groundworklaw.ScopeResolves" = some 4 by kernel_rfl).symm.trans hf) |>.symm
  obtain rfl : fn = Tryz.f4 := (Option.some.inj (Tryz.func4.symm.trans hfn)).symm
  refine ⟨by kernel_rfl, fun j t ht => ?_⟩
  rw [Tryz.params4] at ht
  obtain rfl : t = 36 := by
    have := Array.mem_of_getElem? ht
    simpa using this
  exact (show Tryz.prog.wantsStandIn 36 = false by kernel_rfl)

theorem scopeResolves_card : Rows.ScopeResolvesCardSaid :=
  Claim7.holds_tied_plain_at .later [] _ _ _ _ scopeResolves_said (fun _ h => by cases h) (by kernel_rfl) (fun _ h => by cases h) scopeResolves_row_tie rfl ⟨rfl, rfl⟩ (by kernel_rfl) rfl scopeResolves_plain (by kernel_rfl)
#print axioms scopeResolves_card

end Go.Proofs.YtgpaleifhcdjnaaGreatDoor
