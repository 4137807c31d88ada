/- Own texts, one behind the other (part 12). -/
import Derived.Test.YtmfaodapofamfaaGreatBundleK
import Derived.Test.YtmfaodapofamfaaGreatRows
import Derived.ProofKit
import Derived.Deep.Slices
import Derived.JoinedOf
import Derived.JoinedCond
/- Replicas that came in, and how many updates they hold at most. -/
namespace Go.Proofs.YtmfaodapofamfaaGreat
open Go.RowKit

theorem bulk_pos {H : Type} (d : DataW H) : 1 ≤ Rows.uptoBulk d := by
  cases d with
  | lit l => cases l <;> simp [Rows.uptoBulk]
  | nil => simp [Rows.uptoBulk]
  | ptr d => simp [Rows.uptoBulk]
  | slice a b => simp [Rows.uptoBulk]
  | agg a => simp [Rows.uptoBulk]
  | iface t d => simp [Rows.uptoBulk]
  | map m => simp [Rows.uptoBulk]
  | held h => simp [Rows.uptoBulk]
theorem bulk_row {H : Type} (D : Nat → DataW H) : ∀ n : Nat, n ≤ Rows.uptoBulkAll ((List.range n).map D) ∧ ∀ i, i < n → Rows.uptoBulk (D i) ≤ Rows.uptoBulkAll ((List.range n).map D) := by
  have happ : ∀ (l r : List (DataW H)), Rows.uptoBulkAll (l ++ r) = Rows.uptoBulkAll l + Rows.uptoBulkAll r := by
    intro l r
    induction l with
    | nil => simp [Rows.uptoBulkAll]
    | cons x l ih => simp only [List.cons_append, Rows.uptoBulkAll, ih]; omega
  intro n
  induction n with
  | zero => exact ⟨Nat.zero_le _, fun i hi => absurd hi (Nat.not_lt_zero _)⟩
  | succ n ih =>
    rw [List.range_succ, List.map_append, happ]
    have h1 := bulk_pos (D n)
    have h2 : Rows.uptoBulkAll (List.map D [n]) = Rows.uptoBulk (D n) := by simp [Rows.uptoBulkAll]
    rw [h2]
    refine ⟨by omega, fun i hi => ?_⟩
    by_cases hin : i = n
    · subst hin; omega
    · have := ih.2 i (by omega); omega

section
variable {H : Type} {enc : TypeId × Value → H} {w : World} {base : Nat} {spare : Nat → Bool} {held : Bool}
theorem bulk_slice {st e : TypeId} (ht : Tryz.prog.underlying st = some (.slice e)) {fuel : Nat} {a : Option Addr} {n c : Nat} {x : DataW H × List MemPlace} (h : DataW.trod enc Tryz.prog w base spare held fuel st [.slice a n c] = some x) : n ≤ Rows.uptoBulk x.1 := by
  rcases Deep.open_slice ht h with ⟨hv, _⟩ | ⟨a', len, cap, m, n', D, Pl, hv, hb, hl, hm, hmm, hx, hel⟩
  · have hv' : (.slice a n c : Value) = .slice none 0 0 := by simpa using hv
    injection hv' with _ h1 _
    omega
  · have hv' : (.slice a n c : Value) = .slice (some a') len cap := by simpa using hv
    injection hv' with _ h1 _
    have hbr := bulk_row D len
    have hxb : Rows.uptoBulkAll ((List.range len).map D) ≤ Rows.uptoBulk x.1 := by rw [hx]; simp only [Rows.uptoBulk]; omega
    omega
theorem open_struct2B {t : TypeId} {f0 f1 : Field} {fuel : Nat} {cs : List Value} {x : DataW H × List MemPlace} (ht : Tryz.prog.underlying t = some (.struct #[f0, f1])) (h : DataW.trod enc Tryz.prog w base spare held fuel t cs = some x) :
    ∃ y0 y1 n, DataW.trod enc Tryz.prog w base spare held n f0.type ((cs.drop f0.offset).take (Tryz.prog.cellsOf f0.type)) = some y0 ∧ Rows.uptoBulk y0.1 ≤ Rows.uptoBulk x.1 ∧
      DataW.trod enc Tryz.prog w base spare held n f1.type ((cs.drop f1.offset).take (Tryz.prog.cellsOf f1.type)) = some y1 ∧ Rows.uptoBulk y1.1 ≤ Rows.uptoBulk x.1 := by
  obtain ⟨xs, n, _, rfl, hl, hlen, hf⟩ := DataW.trod_struct ht h
  match xs, hlen with
  | [y0, y1], _ => exact ⟨y0, y1, n, by simpa using hf 0 f0 rfl, by simp [Rows.uptoBulk, Rows.uptoBulkAll]; omega, by simpa using hf 1 f1 rfl, by simp [Rows.uptoBulk, Rows.uptoBulkAll]; omega⟩
theorem open_upsB {fuel : Nat} {v : Value} {x : DataW H × List MemPlace} (h : DataW.trod enc Tryz.prog w base spare held fuel 22 [v] = some x) : ∃ q, UpsV w v q ∧ q.length ≤ Rows.uptoBulk x.1 ∧ ∀ x, x ∈ q → UvOk w x := by
  obtain ⟨q, h1, _, h3⟩ := open_ups h
  obtain ⟨ao, cap, rfl, _⟩ := id h1
  exact ⟨q, h1, bulk_slice Tryz.underlying22 h, h3⟩
theorem open_repB {fuel : Nat} {v0 v1 : Value} {x : DataW H × List MemPlace} (h : DataW.trod enc Tryz.prog w base spare held fuel 24 [v0, v1] = some x) :
    ∃ hq wq, UpsV w v0 hq ∧ UpsV w v1 wq ∧ (hq.length ≤ Rows.uptoBulk x.1 ∧ wq.length ≤ Rows.uptoBulk x.1) ∧ ∀ x, x ∈ hq ++ wq → UvOk w x := by
  obtain ⟨y0, y1, n, g0, b0, g1, b1⟩ := open_struct2B Tryz.underlying24 h
  simp [O_cells22] at g0 g1
  obtain ⟨hq, h1, h2, h3⟩ := open_upsB g0
  obtain ⟨wq, k1, k2, k3⟩ := open_upsB g1
  exact ⟨hq, wq, h1, k1, ⟨Nat.le_trans h2 b0, Nat.le_trans k2 b1⟩, fun x hx => by
    rcases List.mem_append.mp hx with hx | hx
    · exact h3 x hx
    · exact k3 x hx⟩
end
end Go.Proofs.YtmfaodapofamfaaGreat

/- Ids that came in, and how many there are at most. -/
namespace Go.Proofs.YtmfaodapofamfaaGreat
open Go.RowKit

section
variable {H : Type} {enc : TypeId × Value → H} {w : World} {base : Nat} {spare : Nat → Bool} {held : Bool}
theorem open_idsB {fuel : Nat} {v : Value} {x : DataW H × List MemPlace} (h : DataW.trod enc Tryz.prog w base spare held fuel 27 [v] = some x) : ∃ l, IdsV w v l ∧ l.length ≤ Rows.uptoBulk x.1 := by
  obtain ⟨q, h1, _⟩ := open_ids h
  obtain ⟨ao, cap, rfl, _⟩ := id h1
  exact ⟨q, h1, bulk_slice Tryz.underlying27 h⟩
end
end Go.Proofs.YtmfaodapofamfaaGreat

/- The closed facts of the row, one by one. -/
namespace Go.Proofs.YtmfaodapofamfaaGreat
open Go.ChangeShapes Go.WideShapes Go.ChangeAt Go.RowKit
theorem gsTells_and {a b : Bool} (ha : a = true) (hb : b = true) : (a && b) = true := by rw [ha, hb]; rfl
theorem gsTells_j1 : Rows.gossipTellsUptoRow.wf (OpenSpec.ofChange (Rows.OpenSpec.upto Rows.gossipTellsSpec).bare) = true := by kernel_rfl
theorem gsTells_j2 : laidOutB Tryz.prog = true := by kernel_rfl
theorem gsTells_j3 : mapsRowed Tryz.prog = true := by kernel_rfl
theorem gsTells_j4 : Tryz.f5.params.all (Tryz.prog.readableRec ·) = true := by kernel_rfl
theorem gsTells_j5 : namedTie Tryz.prog Rows.gossipTellsUptoRow.named (Rows.OpenSpec.upto Rows.gossipTellsSpec).bare.vars = true := by kernel_rfl
theorem gsTells_j6 : (Rows.gossipTellsUptoRow.stops == []) = true := by kernel_rfl
theorem gsTells_j7 : (Tryz.prog.stops == []) = true := by kernel_rfl
theorem gsTells_j8 : (Rows.gossipTellsUptoRow.knobs == []) = true := by kernel_rfl
theorem gsTells_j9 : (Tryz.prog.stopKnobs == []) = true := by kernel_rfl
theorem gsTells_j10 : (Rows.gossipTellsUptoRow.inPlace == Tryz.prog.inPlace 5) = true := by kernel_rfl
theorem gsTells_j11 : (Rows.gossipTellsUptoRow.unfollowed == Tryz.prog.unfollowed 5) = true := by kernel_rfl
theorem gsTells_j12 : (Rows.gossipTellsUptoRow.recurses == Tryz.prog.recurses 5) = true := by kernel_rfl
theorem gsTells_j13 : (Rows.gossipTellsUptoRow.named == Tryz.prog.varsNamed 5) = true := by kernel_rfl
theorem gsTells_j14 : (Rows.gossipTellsUptoRow.maps == (Tryz.f5.params.toList ++ (Rows.OpenSpec.upto Rows.gossipTellsSpec).bare.plain.varTypes Tryz.prog).any (Tryz.prog.mapsRec ·)) = true := by kernel_rfl
theorem gsTells_j15 : (Rows.gossipTellsUptoRow.ifaces == (Tryz.f5.params.toList ++ (Rows.OpenSpec.upto Rows.gossipTellsSpec).bare.plain.varTypes Tryz.prog).any (Tryz.prog.ifacesRec ·)) = true := by kernel_rfl
theorem gsTells_j16 : (Rows.gossipTellsUptoRow.mapsOut == Tryz.prog.mapsAmong Tryz.f5.resultTypes.toList) = true := by kernel_rfl
theorem gsTells_j17 : (Rows.gossipTellsUptoRow.loops == (Tryz.f5.params.toList ++ (Rows.OpenSpec.upto Rows.gossipTellsSpec).bare.plain.varTypes Tryz.prog).any (Tryz.prog.loopsFrom ·)) = true := by kernel_rfl
theorem gsTells_j18 : (Rows.gossipTellsUptoRow.wideKeys == (Tryz.f5.params.toList ++ (Rows.OpenSpec.upto Rows.gossipTellsSpec).bare.plain.varTypes Tryz.prog ++ Tryz.f5.resultTypes.toList).any (Tryz.prog.wideKeysFrom ·)) = true := by kernel_rfl
theorem gsTells_j19 : (Rows.OpenSpec.upto Rows.gossipTellsSpec).bare.vars.all (Tryz.prog.varReadable ·) = true := by kernel_rfl
theorem gsTells_j20 : Tryz.f5.resultTypes.all (fun t => Tryz.prog.readableRec t && decide (t < Tryz.prog.types.size)) = true := by kernel_rfl
theorem gsTells_j21 : (Rows.gossipTellsUptoRow.ifacesOut == Tryz.f5.resultTypes.toList.any (Tryz.prog.ifacesRec ·)) = true := by kernel_rfl
theorem gsTells_j22 : (Rows.gossipTellsUptoRow.loopsOut == Tryz.f5.resultTypes.toList.any (Tryz.prog.loopsFrom ·)) = true := by kernel_rfl
theorem gsTells_j23 : (Rows.gossipTellsUptoRow.plainKeys == Tryz.prog.plainKeys) = true := by kernel_rfl
theorem gsTells_j24 : Rows.gossipTellsUptoRow.shortTexts.isNone = true := by kernel_rfl
theorem gsTells_j25 : Tryz.prog.stopsHeard = true := by kernel_rfl
theorem gsTells_j26 : Tryz.prog.mayEnter = true := by kernel_rfl
theorem gsTells_j27 : (Rows.gossipTellsUptoRow.lifted == Tryz.prog.liftsFinal) = true := by kernel_rfl
theorem gsTells_j28 : (Tryz.prog.make == some Rows.gossipTellsUptoRow.make) = true := by kernel_rfl
theorem gsTells_j29 : (Rows.gossipTellsUptoRow.kinds == (if Rows.gossipTellsUptoRow.domain.isEmpty then [] else Tryz.f5.params.toList.map fun t => match Tryz.prog.underlying t with | some (.int k) => some k | _ => none)) = true := by kernel_rfl
theorem gsTells_j30 : (Rows.gossipTellsUptoRow.pinned == Rows.gossipTellsUptoRow.pinnedBy) = true := by kernel_rfl
theorem gsTells_j31 : (Rows.gossipTellsUptoRow.veiled == (Tryz.f5.params.toList ++ (Rows.OpenSpec.upto Rows.gossipTellsSpec).bare.plain.varTypes Tryz.prog ++ Tryz.f5.resultTypes.toList).any (Tryz.prog.veiledRec ·)) = true := by kernel_rfl
theorem gsTells_j32 : Rows.gossipTellsUptoRow.veiledFits Tryz.prog Tryz.f5.params.toList (Tryz.f5.params.toList ++ (Rows.OpenSpec.upto Rows.gossipTellsSpec).bare.plain.varTypes Tryz.prog ++ Tryz.f5.resultTypes.toList) = true := by kernel_rfl
set_option maxRecDepth 100000 in
theorem gsTells_facts : joinedFacts Tryz.prog 5 Tryz.f5 ((Rows.OpenSpec.upto Rows.gossipTellsSpec).bare) Rows.gossipTellsUptoRow = true := by
  unfold joinedFacts
  exact gsTells_and (gsTells_and (gsTells_and (gsTells_and (gsTells_and (gsTells_and (gsTells_and (gsTells_and (gsTells_and (gsTells_and (gsTells_and (gsTells_and (gsTells_and (gsTells_and (gsTells_and (gsTells_and (gsTells_and (gsTells_and (gsTells_and (gsTells_and (gsTells_and (gsTells_and (gsTells_and (gsTells_and (gsTells_and (gsTells_and (gsTells_and (gsTells_and (gsTells_and (gsTells_and (gsTells_and gsTells_j1 gsTells_j2) gsTells_j3) gsTells_j4) gsTells_j5) gsTells_j6) gsTells_j7) gsTells_j8) gsTells_j9) gsTells_j10) gsTells_j11) gsTells_j12) gsTells_j13) gsTells_j14) gsTells_j15) gsTells_j16) gsTells_j17) gsTells_j18) gsTells_j19) gsTells_j20) gsTells_j21) gsTells_j22) gsTells_j23) gsTells_j24) gsTells_j25) gsTells_j26) gsTells_j27) gsTells_j28) gsTells_j29) gsTells_j30) gsTells_j31) gsTells_j32
end Go.Proofs.YtmfaodapofamfaaGreat

