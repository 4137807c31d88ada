/- What must be in any case: the statements' own example. -/
import Derived.Test.YtcfmjoidaehfkaaJoin
namespace Go.Proofs.Ytcfmjoidaehfkaa
open Go.RowKit

set_option maxHeartbeats 400000 in
theorem Join_none (w : World) (ao : Option Addr) (cap : Nat) :
    Calls Try.prog 11 #[.slice ao 0 cap] w fun e w' => e = .returned (.tuple #[.string ⟨#[]⟩, .int .i64 0]) ∧ Below w.heap.size w w' := by
  have hbu : Lib.IsBuilder 44 5 w.heap.size w.heap.size (Lib.byteCells []) (w.alloc (.cells #[.pointer none, .slice none 0 0] 44)) := Lib.fresh_isBuilder 44 5 w
  have hbel : Below w.heap.size w (w.alloc (.cells #[.pointer none, .slice none 0 0] 44)) := (Below.refl _ _).alloc (Nat.le_refl _) _
  go_enter Try.func11, Try.ntmps11
  go_wp2_with fail
  refine wp_loop_rounds 1 ?_
  rw [rounds_succ]
  go_wp2_with (first | (go_at_call 18; refine (Try.Builder_Len _ _ _ _ hbu).mono ?_; rintro e w' ⟨rfl, rfl⟩; rw [Lib.byteCells_length]) | (go_at_call 19; refine (Try.Builder_String_any _ _ _ _ hbu (by simp)).mono ?_; rintro e w2 ⟨rfl, hbel2⟩))
  go_ret2
  exact ⟨rfl, hbel.trans hbel2⟩

/-- Join, whatever tokens it is handed. -/
theorem Join_any (l : List Tk.Tok) (w : World) (ao : Option Addr) (cap : Nat) (hmax : l.length ≤ 4398046511104) (hA : ToksAt w ao l) :
    Calls Try.prog 11 #[.slice ao l.length cap] w fun e w' => e = .returned (.tuple #[.string ⟨(Tk.join l).1.toArray⟩, .int .i64 (Tk.join l).2]) ∧ Below w.heap.size w w' := by
  rcases hA with rfl | ⟨b, off, rfl, hA⟩
  · exact Join_none w ao cap
  · exact Join_some l w l.length b off cap rfl hmax hA

def begunToks : List Tk.Tok := [⟨1, 0, [97, 98]⟩, ⟨4, 3, [60, 61]⟩, ⟨3, 6, [55]⟩, ⟨4, 7, [46]⟩]
theorem begun_scan : Tk.scan [97, 98, 32, 60, 61, 32, 55, 46, 37, 120] = (begunToks, 0, 0) := by rfl
theorem begun_join : Tk.join begunToks = ([97, 98, 32, 60, 61, 32, 55, 32, 46], 0) := by rfl

set_option maxRecDepth 100000 in
set_option maxHeartbeats 1000000 in
theorem begun_any (w : World) : Calls Try.prog 9 #[] w fun e w' => e = .returned (.bool true) ∧ Below w.heap.size w w' := by
  have HS : Hid (∀ w, Calls Try.prog 7 #[.string ⟨#[97, 98, 32, 60, 61, 32, 55, 46, 37, 120]⟩] w fun e w' => ∃ ao cap, e = .returned (.tuple #[.slice ao 4 cap, .int .i64 0, .int .i64 0]) ∧ ToksAt w' ao begunToks ∧ Below w.heap.size w w') := by
    intro w
    refine (Scan_any ⟨#[97, 98, 32, 60, 61, 32, 55, 46, 37, 120]⟩ w).mono ?_
    rintro e w' ⟨ao, cap, he, hown, hb⟩
    have hd : (⟨#[97, 98, 32, 60, 61, 32, 55, 46, 37, 120]⟩ : ByteArray).data.toList = [97, 98, 32, 60, 61, 32, 55, 46, 37, 120] := rfl
    rw [hd, begun_scan] at he hown
    exact ⟨ao, cap, he, toksAt_own hown, hb⟩
  have HJ : Hid (∀ w ao cap, ToksAt w ao begunToks → Calls Try.prog 11 #[.slice ao 4 cap] w fun e w' => e = .returned (.tuple #[.string ⟨#[97, 98, 32, 60, 61, 32, 55, 32, 46]⟩, .int .i64 0]) ∧ Below w.heap.size w w') := by
    intro w ao cap h
    have hJ := Join_any begunToks w ao cap (by decide) h
    rw [begun_join] at hJ
    exact hJ
  go_enter Try.func9, Try.ntmps9
  go_wp2_with fail
  refine (HS.out _).mono ?_
  rintro e w1 ⟨ao, cap, rfl, hT, hb⟩
  go_wp2_with fail
  refine (HJ.out _ _ _ hT).mono ?_
  rintro e w2 ⟨rfl, hb2⟩
  have hbel := hb.trans (hb2.mono hb.size)
  rcases hT with h | ⟨b, off, rfl, hc⟩
  · exact absurd h (by simp [begunToks])
  obtain ⟨a0, a1, a2⟩ := hc 1 (by decide)
  have hbw : b < w1.heap.size := World.block_lt_of_cell? w1 _ a0
  have a0' : w2.cell? ⟨b, off + 3, none⟩ = some (.int .i64 4) := (hb2.cell (p := ⟨b, _, none⟩) hbw).trans a0
  have a1' : w2.cell? ⟨b, off + 3 + 1, none⟩ = some (.int .i64 3) := (hb2.cell (p := ⟨b, _, none⟩) hbw).trans a1
  have a2' : w2.cell? ⟨b, off + 3 + 2, none⟩ = some (.string ⟨#[60, 61]⟩) := (hb2.cell (p := ⟨b, _, none⟩) hbw).trans a2
  clear a0 a1 a2 hc HS HJ hb hb2
  go_wp2_with fail
  go_ret
  exact ⟨rfl, hbel⟩

end Go.Proofs.Ytcfmjoidaehfkaa
