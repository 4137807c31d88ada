/- Package token: Scan answers just the tokens of the text, or where it is wrong and why. -/
import Derived.Test.YtcfmjoidaehfkaaScan
namespace Go.Proofs.Ytcfmjoidaehfkaa
open Go.RowKit

theorem scan_any (s : ByteArray) (w : World) : Calls Try.prog 13 #[.string s] w (ScanEnd s.data.toList w) := by
  by_cases h : 5000 < s.size
  · exact scan_long s w h
  · exact scan_short s w (by omega)

theorem ownsRow_drewN {w : World} {base : Nat} {e : TypeId} {size : Nat} {v : Value} {n : Nat} {xs : List Value} (h : w.ownsRow base e size v n xs) (k : Nat) : (w.drewN k).ownsRow base e size v n xs := h

/-- What Scan leaves. -/
def ScanTop (L : List UInt8) (w : World) (e : Ending) (w' : World) : Prop :=
  ∃ ao cap, e = .returned (.tuple #[.slice ao (Tk.scan L).1.length cap, .int .i64 ((Tk.scan L).2.1 : Nat), .int .i64 (Tk.scan L).2.2]) ∧ w'.ownsRow w.heap.size 34 3 (.slice ao (Tk.scan L).1.length cap) (Tk.scan L).1.length (allCells (Tk.scan L).1) ∧ Below w.heap.size w w'

set_option maxHeartbeats 400000 in
theorem Scan_any (s : ByteArray) (w : World) : Calls Try.prog 7 #[.string s] w (ScanTop s.data.toList w) := by
  go_enter Try.func7, Try.ntmps7
  go_wp2_with fail
  refine (scan_any s _).mono ?_
  rintro e w1 ⟨v, rfl, hown, hb⟩
  obtain ⟨ao, cap, rfl⟩ := own_slice hown
  have hown2 : ∀ o, (w1.alloc o).ownsRow w.heap.size 34 3 (.slice ao (Tk.scan s.data.toList).1.length cap) (Tk.scan s.data.toList).1.length (allCells (Tk.scan s.data.toList).1) := fun o => hown.alloc o
  have hz := hb.size
  have hb2 : ∀ o, Below w.heap.size w (w1.alloc o) := fun o => hb.alloc hz o
  go_wp2
  go_quiet (fail)
  go_wp2
  go_ret3
  exact ⟨ao, cap, rfl, ownsRow_drewN (hown2 _) _, below_drewN (hb2 _) _⟩

end Go.Proofs.Ytcfmjoidaehfkaa
