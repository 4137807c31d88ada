/-
  No cell of these rows narrows 'for every input' (looked for: loops, veiled, ifaces, maps, wideKeys, modest, calm, conditions, laid).
  DERIVED. THE GIVEN ROWS OF THIS SEAT. 3 by the template 'for every input the law returns true; each argument reads behind the call as it read before'; 0 by the template 'total and deterministic' (their statements: YtmfaodapofamfaaGreatTotals.lean).
  GIVEN WITH THE SEED: the statements are not yours to turn. If you find one false, say at which input.
  Laid BY PROGRAM, IN A SANDBOX (cutbox-rows.mjs): the forced cells as the released guide's own fill.sh prints them over the translation f70a5aaea92de461… (all of the seat's roots in one cut). By AI agents, Wed Nov 11 2026. No macro, syntax, notation, axiom, sorry.
-/
import Derived.Test.YtmfaodapofamfaaGreatChecked
import GoSem.Claim
import GoSem.ClaimJoined
import GoSem.ClaimMapViews
import Derived.JoinedTies
import Derived.KernelRfl
namespace Go.Proofs.YtmfaodapofamfaaGreat
/- THE CELL 'sum', in the pinned program and in every row, IS THE sha256 OF THE DUMP (.gsa) THAT YtmfaodapofamfaaGreatProg.lean LOADS. Nothing in Lean hashes anything: it is a label: what it is worth is what the hold of that sum in a sandbox is worth. -/
noncomputable def Tryz.pinned : Pinned := { name := "ytmfaodapofamfaagreat", sum := "f70a5aaea92de4619f167ac37b3b9e05f6a833cb54ae59568598287c63fc1578", checked := Tryz.checked }
namespace Rows
def none {H : Type} : Left H := { results := [], args := [] }

/-- 'groundworklaw.DagTells': WHATEVER THE INPUT: true; the input reads as it did. -/
def dagTellsSpec : ChangeSpec := { name := "dagTells", fn := fun _ => fun
  | [d1, d2] => { results := [.lit (.bool true)], args := [d1, d2] }
  | _ => none }
def dagTellsRow : OpenClaim := { program := "ytmfaodapofamfaagreat", sum := "f70a5aaea92de4619f167ac37b3b9e05f6a833cb54ae59568598287c63fc1578", func := "groundwork/groundworklaw.DagTells", spec := "dagTells", unfollowed := true, recurses := true, plainKeys := false, apart := false }
def DagTellsSaid : Prop := dagTellsRow.holds Tryz.pinned (OpenSpec.ofChange dagTellsSpec)

/-- ITS FALSE NEIGHBOUR: 'it returns false'. Refute it at one input. -/
def dagTellsWrong : ChangeSpec := { name := "dagTells", fn := fun _ => fun
  | [d1, d2] => { results := [.lit (.bool false)], args := [d1, d2] }
  | _ => none }
def DagTellsWrongFalsely : Prop := dagTellsRow.holds Tryz.pinned (OpenSpec.ofChange dagTellsWrong)

/-- 'groundworklaw.DagAny': WHATEVER THE INPUT: true; the input reads as it did. -/
def dagAnySpec : ChangeSpec := { name := "dagAny", fn := fun _ => fun
  | [d1, d2, d3] => { results := [.lit (.bool true)], args := [d1, d2, d3] }
  | _ => none }
def dagAnyRow : OpenClaim := { program := "ytmfaodapofamfaagreat", sum := "f70a5aaea92de4619f167ac37b3b9e05f6a833cb54ae59568598287c63fc1578", func := "groundwork/groundworklaw.DagAny", spec := "dagAny", unfollowed := true, recurses := true, plainKeys := false, apart := false }
def DagAnySaid : Prop := dagAnyRow.holds Tryz.pinned (OpenSpec.ofChange dagAnySpec)

/-- ITS FALSE NEIGHBOUR: 'it returns false'. Refute it at one input. -/
def dagAnyWrong : ChangeSpec := { name := "dagAny", fn := fun _ => fun
  | [d1, d2, d3] => { results := [.lit (.bool false)], args := [d1, d2, d3] }
  | _ => none }
def DagAnyWrongFalsely : Prop := dagAnyRow.holds Tryz.pinned (OpenSpec.ofChange dagAnyWrong)

/-- 'groundworklaw.GossipTells': WHATEVER THE INPUT: true; the input reads as it did. -/
def gossipTellsSpec : ChangeSpec := { name := "gossipTells", fn := fun _ => fun
  | [d1, d2, d3] => { results := [.lit (.bool true)], args := [d1, d2, d3] }
  | _ => none }
def gossipTellsRow : OpenClaim := { program := "ytmfaodapofamfaagreat", sum := "f70a5aaea92de4619f167ac37b3b9e05f6a833cb54ae59568598287c63fc1578", func := "groundwork/groundworklaw.GossipTells", spec := "gossipTells", unfollowed := true, recurses := true, plainKeys := false, apart := false }
def GossipTellsSaid : Prop := gossipTellsRow.holds Tryz.pinned (OpenSpec.ofChange gossipTellsSpec)

/-- ITS FALSE NEIGHBOUR: 'it returns false'. Refute it at one input. -/
def gossipTellsWrong : ChangeSpec := { name := "gossipTells", fn := fun _ => fun
  | [d1, d2, d3] => { results := [.lit (.bool false)], args := [d1, d2, d3] }
  | _ => none }
def GossipTellsWrongFalsely : Prop := gossipTellsRow.holds Tryz.pinned (OpenSpec.ofChange gossipTellsWrong)

/- THE SECOND FORM. 'bulk': how many values and letters a reading holds, each counted each time it is reached (what is shared counts as often as it is met; a slice's spare places count too). A statement '..UptoSaid' is the law's where the arguments, and the package variables that the reading takes, are together of bulk at most 1048576: NARROWER than '..Said'. Prove '..Said' where nothing that the law and all that it calls make is longer than what came in: it says more and counts as full. Else prove '..UptoSaid'. A law counts once. -/
mutual
def uptoBulk {H : Type} : DataW H → Nat
  | .lit (.string bytes) => bytes.length + 1
  | .lit _ => 1
  | .nil => 1
  | .ptr d => uptoBulk d + 1
  | .slice elems spare => uptoBulkAll elems + uptoBulkAll spare + 1
  | .agg parts => uptoBulkAll parts + 1
  | .iface _ d => uptoBulk d + 1
  | .map entries => uptoBulkEntries entries + 1
  | .held _ => 1
def uptoBulkAll {H : Type} : List (DataW H) → Nat
  | [] => 0
  | d :: r => uptoBulk d + uptoBulkAll r
def uptoBulkEntries {H : Type} : List (Lit × DataW H) → Nat
  | [] => 0
  | x :: r => uptoBulkEntry x + uptoBulkEntries r
def uptoBulkEntry {H : Type} : Lit × DataW H → Nat
  | (.string bytes, d) => bytes.length + uptoBulk d + 1
  | (_, d) => uptoBulk d + 1
 end
def uptoSmall : (H : Type) → List (DataW H) → Bool := fun _ ds => decide (uptoBulkAll ds ≤ 1048576)
def OpenSpec.upto (s : _root_.Go.ChangeSpec) : _root_.Go.OpenSpec := { _root_.Go.OpenSpec.ofChange s with cond := some uptoSmall }

/-- 'groundworklaw.DagTells', WHERE WHAT IT READS IS OF BULK AT MOST 1048576: true; the input reads as it did. -/
def dagTellsUptoRow : OpenClaim := { program := "ytmfaodapofamfaagreat", sum := "f70a5aaea92de4619f167ac37b3b9e05f6a833cb54ae59568598287c63fc1578", func := "groundwork/groundworklaw.DagTells", spec := "dagTells", unfollowed := true, recurses := true, plainKeys := false, apart := false, narrowed := true }
def DagTellsUptoSaid : Prop := dagTellsUptoRow.holds Tryz.pinned (OpenSpec.upto dagTellsSpec)

/-- 'groundworklaw.DagAny', WHERE WHAT IT READS IS OF BULK AT MOST 1048576: true; the input reads as it did. -/
def dagAnyUptoRow : OpenClaim := { program := "ytmfaodapofamfaagreat", sum := "f70a5aaea92de4619f167ac37b3b9e05f6a833cb54ae59568598287c63fc1578", func := "groundwork/groundworklaw.DagAny", spec := "dagAny", unfollowed := true, recurses := true, plainKeys := false, apart := false, narrowed := true }
def DagAnyUptoSaid : Prop := dagAnyUptoRow.holds Tryz.pinned (OpenSpec.upto dagAnySpec)

/-- 'groundworklaw.GossipTells', WHERE WHAT IT READS IS OF BULK AT MOST 1048576: true; the input reads as it did. -/
def gossipTellsUptoRow : OpenClaim := { program := "ytmfaodapofamfaagreat", sum := "f70a5aaea92de4619f167ac37b3b9e05f6a833cb54ae59568598287c63fc1578", func := "groundwork/groundworklaw.GossipTells", spec := "gossipTells", unfollowed := true, recurses := true, plainKeys := false, apart := false, narrowed := true }
def GossipTellsUptoSaid : Prop := gossipTellsUptoRow.holds Tryz.pinned (OpenSpec.upto gossipTellsSpec)

end Rows
end Go.Proofs.YtmfaodapofamfaaGreat
