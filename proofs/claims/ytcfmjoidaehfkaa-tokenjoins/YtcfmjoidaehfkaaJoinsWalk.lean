/- TokenJoins: the walk of the statement's function. -/
import Derived.Test.YtcfmjoidaehfkaaBegun
import Derived.Test.YtcfmjoidaehfkaaRefJoin
import Derived.Test.YtcfmjoidaehfkaaScansWalk
namespace Go.Proofs.Ytcfmjoidaehfkaa
open Go.RowKit

theorem toksAt_drewN {w : World} {ao : Option Addr} {l : List Tk.Tok} (h : ToksAt w ao l) (n : Nat) : ToksAt (w.drewN n) ao l := h

set_option maxRecDepth 100000 in
set_option maxHeartbeats 1000000 in
theorem law_joins (l : List Tk.Tok) (w : World) (ao : Option Addr) (cap : Nat) (hmax : l.length ≤ 4398046511104) (hA : ToksAt w ao l) :
    Calls Try.prog 4 #[.slice ao l.length cap] w fun e w' => e = .returned (.bool true) ∧ Below w.heap.size w w' := by
  have HJ : Hid (_) := fun w hA => Join_any l w ao cap hmax hA
  have HR : Hid (_) := fun w hA => JoinOf_any l w ao cap hmax hA
  go_enter Try.func4, Try.ntmps4
  go_wp2_with fail
  refine Calls.mono (HJ.out _ hA) ?_
  rintro e w1 ⟨rfl, hb⟩
  have hA1 := toksAt_below hA hb
  go_wp2_with fail
  refine Calls.mono (HR.out _ hA1) ?_
  rintro e w2 ⟨rfl, nq, rfl⟩
  go_wp2_with fail
  refine (begun_any _).mono ?_
  rintro e w3 ⟨rfl, hb3⟩
  have hbel := (below_drewN hb nq).trans (hb3.mono hb.size)
  clear HJ HR hA hA1 hb hb3
  generalize Tk.join l = X
  go_wp2_with fail
  go_ret
  exact ⟨rfl, hbel⟩

end Go.Proofs.Ytcfmjoidaehfkaa
