/- Package token: the deferred function of scan. -/
import Derived.Test.YtcfmjoidaehfkaaSkip
import Derived.Defers
import Derived.Recover
import Derived.RegionTactic
import Derived.ChangeAlike
namespace Go.Proofs.Ytcfmjoidaehfkaa
open Go.RowKit

set_option maxHeartbeats 400000 in
theorem catch_idle (pl pg : Addr) (w : World) :
    CallsD Try.prog 21 #[.pointer (some pl), .pointer (some pg)] .returning w fun e u' w' => e = .returned (.tuple #[]) ∧ u' = .returning ∧ w' = w := by
  refine callsD_of_wpS Try.func21 rfl fun c₀ cs hu => ?_
  apply wpS_seq
  apply wpS_region
  simp [wpOpsS, go_sem, recoverD, hu, Try.ntmps21, Exit.thenS]
  refine wpS_of_wp ?_
  rw [show (#[Value.pointer (some pl), Value.pointer (some pg)] ++ ((Array.replicate 6 undef).setIfInBounds 1 Value.nilIface).setIfInBounds 0 Value.nilIface) = #[.pointer (some pl), .pointer (some pg), .nilIface, .nilIface, undef, undef, undef, undef] from rfl]
  go_wp2
  refine ⟨rfl, .returning, ?_, .tuple #[], ?_, rfl, rfl, rfl⟩
  · rw [← hu]
  · simp [results, Try.results21]

set_option maxHeartbeats 400000 in
theorem catch_panicking (bl bg B : Nat) (lv g0 g1 : Value) (a c : Int) (older : List PanicEntry) (w : World)
    (hl : w.cell? ⟨bl, 0, none⟩ = some lv) (fl : w.frozen? ⟨bl, 0, none⟩ = false) (hg0 : w.cell? ⟨bg, 0, none⟩ = some g0) (hg1 : w.cell? ⟨bg, 1, none⟩ = some g1)
    (fg0 : w.frozen? ⟨bg, 0, none⟩ = false) (fg1 : w.frozen? ⟨bg, 1, none⟩ = false) (hB1 : B ≤ bl) (hB2 : bl < bg) :
    CallsD Try.prog 21 #[.pointer (some ⟨bl, 0, none⟩), .pointer (some ⟨bg, 0, none⟩)] (.panicking ({ v := .iface 36 (.agg #[.int .i64 a, .int .i64 c]), recovered := false } :: older)) w fun e u' w' =>
      e = .returned (.tuple #[]) ∧ u' = .panicking ({ v := .iface 36 (.agg #[.int .i64 a, .int .i64 c]), recovered := true } :: older) ∧
      w'.cell? ⟨bl, 0, none⟩ = some (.slice none 0 0) ∧ w'.cell? ⟨bg, 0, none⟩ = some (.int .i64 a) ∧ w'.cell? ⟨bg, 1, none⟩ = some (.int .i64 c) ∧ Below B w w' := by
  have hta : ∀ w : World, (Instr.typeAssert (.iface 36 (.agg #[.int .i64 a, .int .i64 c])) 20 36 false).run Try.prog w = .ok (.agg #[.int .i64 a, .int .i64 c]) w := fun _ => by kernel_rfl
  refine callsD_of_wpS Try.func21 rfl fun c₀ cs hu => ?_
  apply wpS_seq
  apply wpS_region
  simp [wpOpsS, go_sem, recoverD, hu, Try.ntmps21, Exit.thenS]
  refine wpS_of_wp ?_
  rw [show (#[Value.pointer (some { block := bl, off := 0 }), Value.pointer (some { block := bg, off := 0 })] ++
          ((Array.replicate 6 undef).setIfInBounds 1
                (Value.iface 36 (Value.agg #[Value.int IntKind.i64 a, Value.int IntKind.i64 c]))).setIfInBounds
            0 (Value.iface 36 (Value.agg #[Value.int IntKind.i64 a, Value.int IntKind.i64 c]))) = #[Value.pointer (some { block := bl, off := 0 }), Value.pointer (some { block := bg, off := 0 }), (Value.iface 36 (Value.agg #[Value.int IntKind.i64 a, Value.int IntKind.i64 c])), (Value.iface 36 (Value.agg #[Value.int IntKind.i64 a, Value.int IntKind.i64 c])), undef, undef, undef, undef] from rfl]
  go_wp2
  go_region
  have hne : ¬ bl = bg := by omega
  have hne' : ¬ bg = bl := by omega
  refine ⟨rfl, _, rfl, .tuple #[], ?_, rfl, rfl, ?_, ?_, ?_, ?_⟩
  · simp [results, Try.results21]
  · simp [go_sem, hl]
  · simp [go_sem, hg0]
  · simp [go_sem, hg1]
  · exact ((((Below.refl _ _).setCell (p := ⟨bl, 0, none⟩) hB1 _).setCell (p := ⟨bg, 0, none⟩) (show B ≤ bg by omega) _).setCell (p := ⟨bg, 1, none⟩) (show B ≤ bg by omega) _).drew

end Go.Proofs.Ytcfmjoidaehfkaa
