/-
  No cell of these rows narrows 'for every input' (looked for: loops, veiled, ifaces, maps, wideKeys, modest, calm, conditions, laid).
  DERIVED. THE GIVEN ROWS OF THIS SEAT. 4 by the template 'for every input the law returns true; each argument reads behind the call as it read before'; 0 by the template 'total and deterministic' (their statements: YtgpaleifhcdjnaaTotals.lean).
  GIVEN WITH THE SEED: the statements are not yours to turn. If you find one false, say at which input.
  Laid BY PROGRAM, IN A SANDBOX (cutbox-rows.mjs): the forced cells as the released guide's own fill.sh prints them over the translation 11cc41e749221829… (all of the seat's roots in one cut). By AI agents, Wed Nov 11 2026. No macro, syntax, notation, axiom, sorry.
-/
import Derived.Test.YtgpaleifhcdjnaaChecked
import GoSem.Claim
import GoSem.ClaimJoined
import GoSem.ClaimMapViews
import Derived.JoinedTies
import Derived.KernelRfl
namespace Go.Proofs.Ytgpaleifhcdjnaa
/- THE CELL 'sum', in the pinned program and in every row, IS THE sha256 OF THE DUMP (.gsa) THAT YtgpaleifhcdjnaaProg.lean LOADS. Nothing in Lean hashes anything: it is a label: what it is worth is what the hold of that sum in a sandbox is worth. -/
noncomputable def Try.pinned : Pinned := { name := "ytgpaleifhcdjnaa", sum := "11cc41e749221829d84aed2466badb6e6b0f3b6ccf6f9902f31b833ea1ac7c96", checked := Try.checked }
namespace Rows
def none {H : Type} : Left H := { results := [], args := [] }

/-- 'groundworklaw.StrataTells': WHATEVER THE INPUT: true; the input reads as it did. -/
def strataTellsSpec : ChangeSpec := { name := "strataTells", fn := fun _ => fun
  | [d1, d2] => { results := [.lit (.bool true)], args := [d1, d2] }
  | _ => none }
def strataTellsRow : OpenClaim := { program := "ytgpaleifhcdjnaa", sum := "11cc41e749221829d84aed2466badb6e6b0f3b6ccf6f9902f31b833ea1ac7c96", func := "groundwork/groundworklaw.StrataTells", spec := "strataTells", inPlace := ["internal/bytealg.IndexByteString", "internal/abi.NoEscape"], unfollowed := true, recurses := true, apart := false }
def StrataTellsSaid : Prop := strataTellsRow.holds Try.pinned (OpenSpec.ofChange strataTellsSpec)

/-- ITS FALSE NEIGHBOUR: 'it returns false'. Refute it at one input. -/
def strataTellsWrong : ChangeSpec := { name := "strataTells", fn := fun _ => fun
  | [d1, d2] => { results := [.lit (.bool false)], args := [d1, d2] }
  | _ => none }
def StrataTellsWrongFalsely : Prop := strataTellsRow.holds Try.pinned (OpenSpec.ofChange strataTellsWrong)

/-- 'groundworklaw.StrataLeast': WHATEVER THE INPUT: true; the input reads as it did. -/
def strataLeastSpec : ChangeSpec := { name := "strataLeast", fn := fun _ => fun
  | [d1, d2, d3] => { results := [.lit (.bool true)], args := [d1, d2, d3] }
  | _ => none }
def strataLeastRow : OpenClaim := { program := "ytgpaleifhcdjnaa", sum := "11cc41e749221829d84aed2466badb6e6b0f3b6ccf6f9902f31b833ea1ac7c96", func := "groundwork/groundworklaw.StrataLeast", spec := "strataLeast", inPlace := ["internal/bytealg.IndexByteString", "internal/abi.NoEscape"], unfollowed := true, recurses := true, apart := false }
def StrataLeastSaid : Prop := strataLeastRow.holds Try.pinned (OpenSpec.ofChange strataLeastSpec)

/-- ITS FALSE NEIGHBOUR: 'it returns false'. Refute it at one input. -/
def strataLeastWrong : ChangeSpec := { name := "strataLeast", fn := fun _ => fun
  | [d1, d2, d3] => { results := [.lit (.bool false)], args := [d1, d2, d3] }
  | _ => none }
def StrataLeastWrongFalsely : Prop := strataLeastRow.holds Try.pinned (OpenSpec.ofChange strataLeastWrong)

/-- 'groundworklaw.RelationTells': WHATEVER THE INPUT: true; the input reads as it did. -/
def relationTellsSpec : ChangeSpec := { name := "relationTells", fn := fun _ => fun
  | [d1, d2, d3, d4, d5, d6] => { results := [.lit (.bool true)], args := [d1, d2, d3, d4, d5, d6] }
  | _ => none }
def relationTellsRow : OpenClaim := { program := "ytgpaleifhcdjnaa", sum := "11cc41e749221829d84aed2466badb6e6b0f3b6ccf6f9902f31b833ea1ac7c96", func := "groundwork/groundworklaw.RelationTells", spec := "relationTells", unfollowed := true, recurses := true, apart := false }
def RelationTellsSaid : Prop := relationTellsRow.holds Try.pinned (OpenSpec.ofChange relationTellsSpec)

/-- ITS FALSE NEIGHBOUR: 'it returns false'. Refute it at one input. -/
def relationTellsWrong : ChangeSpec := { name := "relationTells", fn := fun _ => fun
  | [d1, d2, d3, d4, d5, d6] => { results := [.lit (.bool false)], args := [d1, d2, d3, d4, d5, d6] }
  | _ => none }
def RelationTellsWrongFalsely : Prop := relationTellsRow.holds Try.pinned (OpenSpec.ofChange relationTellsWrong)

/-- 'groundworklaw.RelationHangs': WHATEVER THE INPUT: true; the input reads as it did. -/
def relationHangsSpec : ChangeSpec := { name := "relationHangs", fn := fun _ => fun
  | [d1, d2, d3, d4, d5] => { results := [.lit (.bool true)], args := [d1, d2, d3, d4, d5] }
  | _ => none }
def relationHangsRow : OpenClaim := { program := "ytgpaleifhcdjnaa", sum := "11cc41e749221829d84aed2466badb6e6b0f3b6ccf6f9902f31b833ea1ac7c96", func := "groundwork/groundworklaw.RelationHangs", spec := "relationHangs", unfollowed := true, recurses := true, apart := false }
def RelationHangsSaid : Prop := relationHangsRow.holds Try.pinned (OpenSpec.ofChange relationHangsSpec)

/-- ITS FALSE NEIGHBOUR: 'it returns false'. Refute it at one input. -/
def relationHangsWrong : ChangeSpec := { name := "relationHangs", fn := fun _ => fun
  | [d1, d2, d3, d4, d5] => { results := [.lit (.bool false)], args := [d1, d2, d3, d4, d5] }
  | _ => none }
def RelationHangsWrongFalsely : Prop := relationHangsRow.holds Try.pinned (OpenSpec.ofChange relationHangsWrong)

/- THE SECOND FORM. 'bulk': how many values and letters a reading holds, each counted each time it is reached (what is shared counts as often as it is met; a slice's spare places count too). A statement '..UptoSaid' is the law's where the arguments, and the package variables that the reading takes, are together of bulk at most 1048576: NARROWER than '..Said'. Prove '..Said' where nothing that the law and all that it calls make is longer than what came in: it says more and counts as full. Else prove '..UptoSaid'. A law counts once. -/
mutual
def uptoBulk {H : Type} : DataW H → Nat
  | .lit (.string bytes) => bytes.length + 1
  | .lit _ => 1
  | .nil => 1
  | .ptr d => uptoBulk d + 1
  | .slice elems spare => uptoBulkAll elems + uptoBulkAll spare + 1
  | .agg parts => uptoBulkAll parts + 1
  | .iface _ d => uptoBulk d + 1
  | .map entries => uptoBulkEntries entries + 1
  | .held _ => 1
def uptoBulkAll {H : Type} : List (DataW H) → Nat
  | [] => 0
  | d :: r => uptoBulk d + uptoBulkAll r
def uptoBulkEntries {H : Type} : List (Lit × DataW H) → Nat
  | [] => 0
  | x :: r => uptoBulkEntry x + uptoBulkEntries r
def uptoBulkEntry {H : Type} : Lit × DataW H → Nat
  | (.string bytes, d) => bytes.length + uptoBulk d + 1
  | (_, d) => uptoBulk d + 1
 end
def uptoSmall : (H : Type) → List (DataW H) → Bool := fun _ ds => decide (uptoBulkAll ds ≤ 1048576)
def OpenSpec.upto (s : _root_.Go.ChangeSpec) : _root_.Go.OpenSpec := { _root_.Go.OpenSpec.ofChange s with cond := some uptoSmall }

/-- 'groundworklaw.StrataTells', WHERE WHAT IT READS IS OF BULK AT MOST 1048576: true; the input reads as it did. -/
def strataTellsUptoRow : OpenClaim := { program := "ytgpaleifhcdjnaa", sum := "11cc41e749221829d84aed2466badb6e6b0f3b6ccf6f9902f31b833ea1ac7c96", func := "groundwork/groundworklaw.StrataTells", spec := "strataTells", inPlace := ["internal/bytealg.IndexByteString", "internal/abi.NoEscape"], unfollowed := true, recurses := true, apart := false, narrowed := true }
def StrataTellsUptoSaid : Prop := strataTellsUptoRow.holds Try.pinned (OpenSpec.upto strataTellsSpec)

/-- 'groundworklaw.StrataLeast', WHERE WHAT IT READS IS OF BULK AT MOST 1048576: true; the input reads as it did. -/
def strataLeastUptoRow : OpenClaim := { program := "ytgpaleifhcdjnaa", sum := "11cc41e749221829d84aed2466badb6e6b0f3b6ccf6f9902f31b833ea1ac7c96", func := "groundwork/groundworklaw.StrataLeast", spec := "strataLeast", inPlace := ["internal/bytealg.IndexByteString", "internal/abi.NoEscape"], unfollowed := true, recurses := true, apart := false, narrowed := true }
def StrataLeastUptoSaid : Prop := strataLeastUptoRow.holds Try.pinned (OpenSpec.upto strataLeastSpec)

/-- 'groundworklaw.RelationTells', WHERE WHAT IT READS IS OF BULK AT MOST 1048576: true; the input reads as it did. -/
def relationTellsUptoRow : OpenClaim := { program := "ytgpaleifhcdjnaa", sum := "11cc41e749221829d84aed2466badb6e6b0f3b6ccf6f9902f31b833ea1ac7c96", func := "groundwork/groundworklaw.RelationTells", spec := "relationTells", unfollowed := true, recurses := true, apart := false, narrowed := true }
def RelationTellsUptoSaid : Prop := relationTellsUptoRow.holds Try.pinned (OpenSpec.upto relationTellsSpec)

/-- 'groundworklaw.RelationHangs', WHERE WHAT IT READS IS OF BULK AT MOST 1048576: true; the input reads as it did. -/
def relationHangsUptoRow : OpenClaim := { program := "ytgpaleifhcdjnaa", sum := "11cc41e749221829d84aed2466badb6e6b0f3b6ccf6f9902f31b833ea1ac7c96", func := "groundwork/groundworklaw.RelationHangs", spec := "relationHangs", unfollowed := true, recurses := true, apart := false, narrowed := true }
def RelationHangsUptoSaid : Prop := relationHangsUptoRow.holds Try.pinned (OpenSpec.upto relationHangsSpec)

end Rows
end Go.Proofs.Ytgpaleifhcdjnaa
