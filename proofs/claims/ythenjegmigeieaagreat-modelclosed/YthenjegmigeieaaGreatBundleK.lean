/- Own texts, one behind the other (part 11). -/
import Derived.Test.YthenjegmigeieaaGreatBundleJ
import Derived.Test.YthenjegmigeieaaGreatRows
import Derived.ProofKit
import Derived.Deep.Slices
import Derived.JoinedOf
/- A program, a fact, that came in, read out of memory. -/
namespace Go.Proofs.YthenjegmigeieaaGreat
open Go.RowKit

theorem P_cells28 : Tryz.prog.cellsOf 55 = 2 := by kernel_rfl
theorem P_cells22 : Tryz.prog.cellsOf 22 = 1 := by kernel_rfl
theorem P_cells23 : Tryz.prog.cellsOf 23 = 1 := by kernel_rfl
theorem P_cells24 : Tryz.prog.cellsOf 24 = 1 := by kernel_rfl
theorem P_cells64 : Tryz.prog.cellsOf 37 = 1 := by kernel_rfl
theorem P_cells65 : Tryz.prog.cellsOf 38 = 1 := by kernel_rfl
theorem P_cells67 : Tryz.prog.cellsOf 40 = 5 := by kernel_rfl
theorem P_cells84 : Tryz.prog.cellsOf 49 = 4 := by kernel_rfl
theorem P_cells130 : Tryz.prog.cellsOf 147 = 2 := by kernel_rfl

theorem list4 {l : List Value} (h : l.length = 4) : ∃ a b c d, l = [a, b, c, d] := by
  match l, h with
  | [a, b, c, d], _ => exact ⟨a, b, c, d, rfl⟩

section
variable {H : Type} {enc : TypeId × Value → H} {w : World} {base : Nat} {spare : Nat → Bool} {held : Bool}

/-- A slice whose elements can be read; its length is no more than its room. -/
theorem open_rowC {α : Type} {st e : TypeId} {k : Nat} (ht : Tryz.prog.underlying st = some (.slice e)) (hk : Tryz.prog.cellsOf e = k) (hk0 : 0 < k) (d : α) (In : Nat → Nat → α → Prop)
    (el : ∀ n cs' y b off, cs'.length = k → (∀ j, j < k → w.cell? ⟨b, off + j, none⟩ = cs'[j]?) → DataW.trod enc Tryz.prog w base spare held n e cs' = some y → ∃ a, In b off a)
    {fuel : Nat} {v : Value} {x : DataW H × List MemPlace} (h : DataW.trod enc Tryz.prog w base spare held fuel st [v] = some x) :
    ∃ (ao : Option Addr) (l : List α) (cap : Nat), v = .slice ao l.length cap ∧ l.length ≤ cap ∧ l.length ≤ 9223372036854775807 ∧ (l = [] ∨ ∃ b off, ao = some ⟨b, off, none⟩ ∧ ∀ i, i < l.length → In b (off + i * k) (l.getD i d)) := by
  obtain ⟨ao, l, cap, hv, hm, hl⟩ := open_row ht hk hk0 d In el h
  refine ⟨ao, l, cap, hv, ?_, hm, hl⟩
  rcases Deep.open_slice ht h with ⟨hv2, _⟩ | ⟨a, len, cap2, m, n, D, Pl, hv2, hb, hl2, _⟩
  · have hv' : v = .slice none 0 0 := by simpa using hv2
    rw [hv] at hv'
    injection hv' with _ h1 h2
    omega
  · have hv' : v = .slice (some a) len cap2 := by simpa using hv2
    rw [hv] at hv'
    injection hv' with _ h1 h2
    omega

theorem trod_struct3 {t : TypeId} {f0 f1 f2 : Field} {fuel : Nat} {cs : List Value} {x : DataW H × List MemPlace} (ht : Tryz.prog.underlying t = some (.struct #[f0, f1, f2])) (h : DataW.trod enc Tryz.prog w base spare held fuel t cs = some x) :
    ∃ y0 y1 y2 n, cs.length = Tryz.prog.cellsOf t ∧ DataW.trod enc Tryz.prog w base spare held n f0.type ((cs.drop f0.offset).take (Tryz.prog.cellsOf f0.type)) = some y0 ∧
      DataW.trod enc Tryz.prog w base spare held n f1.type ((cs.drop f1.offset).take (Tryz.prog.cellsOf f1.type)) = some y1 ∧ DataW.trod enc Tryz.prog w base spare held n f2.type ((cs.drop f2.offset).take (Tryz.prog.cellsOf f2.type)) = some y2 := by
  obtain ⟨xs, n, _, rfl, hl, hlen, hf⟩ := DataW.trod_struct ht h
  match xs, hlen with
  | [y0, y1, y2], _ => exact ⟨y0, y1, y2, n, hl, by simpa using hf 0 f0 rfl, by simpa using hf 1 f1 rfl, by simpa using hf 2 f2 rfl⟩
theorem trod_struct4 {t : TypeId} {f0 f1 f2 f3 : Field} {fuel : Nat} {cs : List Value} {x : DataW H × List MemPlace} (ht : Tryz.prog.underlying t = some (.struct #[f0, f1, f2, f3])) (h : DataW.trod enc Tryz.prog w base spare held fuel t cs = some x) :
    ∃ y0 y1 y2 y3 n, cs.length = Tryz.prog.cellsOf t ∧ DataW.trod enc Tryz.prog w base spare held n f0.type ((cs.drop f0.offset).take (Tryz.prog.cellsOf f0.type)) = some y0 ∧
      DataW.trod enc Tryz.prog w base spare held n f1.type ((cs.drop f1.offset).take (Tryz.prog.cellsOf f1.type)) = some y1 ∧ DataW.trod enc Tryz.prog w base spare held n f2.type ((cs.drop f2.offset).take (Tryz.prog.cellsOf f2.type)) = some y2 ∧
      DataW.trod enc Tryz.prog w base spare held n f3.type ((cs.drop f3.offset).take (Tryz.prog.cellsOf f3.type)) = some y3 := by
  obtain ⟨xs, n, _, rfl, hl, hlen, hf⟩ := DataW.trod_struct ht h
  match xs, hlen with
  | [y0, y1, y2, y3], _ => exact ⟨y0, y1, y2, y3, n, hl, by simpa using hf 0 f0 rfl, by simpa using hf 1 f1 rfl, by simpa using hf 2 f2 rfl, by simpa using hf 3 f3 rfl⟩

theorem open_ints {fuel : Nat} {v : Value} {x : DataW H × List MemPlace} (h : DataW.trod enc Tryz.prog w base spare held fuel 22 [v] = some x) : ∃ l, IntsV w v l ∧ l.length ≤ 9223372036854775807 := by
  obtain ⟨ao, l, cap, hv, _, hmx, hl⟩ := open_rowC Tryz.underlying22 A_cells3 (by decide) (0 : Int) (fun b off a => w.cell? ⟨b, off, none⟩ = some (.int .i64 a)) (fun n cs' y b off hlen hc h2 => by
    match cs', hlen with
    | [v0], _ =>
      obtain ⟨k0, e0, _, _⟩ := DataW.trod_int Tryz.underlying3 h2
      simp at e0
      subst e0
      exact ⟨k0, hc 0 (by decide)⟩) h
  refine ⟨l, ⟨ao, cap, hv, ?_⟩, hmx⟩
  rcases hl with h | ⟨b, off, he, hc⟩
  · exact .inl h
  · exact .inr ⟨b, off, he, fun i hi => by have := hc i hi; rw [Nat.mul_one] at this; exact this⟩
theorem open_strs {fuel : Nat} {v : Value} {x : DataW H × List MemPlace} (h : DataW.trod enc Tryz.prog w base spare held fuel 23 [v] = some x) : ∃ l, StrsV w v l ∧ l.length ≤ 9223372036854775807 := by
  obtain ⟨ao, l, cap, hv, _, hmx, hl⟩ := open_rowC Tryz.underlying23 A_cells9 (by decide) ([] : List UInt8) (fun b off a => w.cell? ⟨b, off, none⟩ = some (.string ⟨a.toArray⟩)) (fun n cs' y b off hlen hc h2 => by
    match cs', hlen with
    | [v0], _ =>
      obtain ⟨k0, e0, _, _⟩ := DataW.trod_string Tryz.underlying9 h2
      simp at e0
      subst e0
      exact ⟨k0.data.toList, hc 0 (by decide)⟩) h
  refine ⟨l, ⟨ao, cap, hv, ?_⟩, hmx⟩
  rcases hl with h | ⟨b, off, he, hc⟩
  · exact .inl h
  · exact .inr ⟨b, off, he, fun i hi => by have := hc i hi; rw [Nat.mul_one] at this; exact this⟩
theorem open_pterms {fuel : Nat} {v : Value} {x : DataW H × List MemPlace} (h : DataW.trod enc Tryz.prog w base spare held fuel 37 [v] = some x) : ∃ l, PTermsV w v l ∧ l.length ≤ 9223372036854775807 := by
  obtain ⟨ao, l, cap, hv, hcap, hmx, hl⟩ := open_rowC Tryz.underlying37 P_cells130 (by decide) (⟨0, 0⟩ : Sc.Term) (PTermIn w) (fun n cs' y b off hlen hc h2 => by
    obtain ⟨y0, y1, k, _, g0, g1⟩ := trod_struct2 Tryz.underlying147 h2
    obtain ⟨v0, v1, rfl⟩ := list2 hlen
    simp [A_cells3] at g0 g1
    obtain ⟨k0, e0, _, _⟩ := DataW.trod_int Tryz.underlying3 g0
    obtain ⟨k1, e1, _, _⟩ := DataW.trod_int Tryz.underlying3 g1
    simp at e0 e1
    subst e0 e1
    exact ⟨⟨k0, k1⟩, hc 0 (by decide), hc 1 (by decide)⟩) h
  exact ⟨l, ⟨ao, cap, hv, hcap, hl⟩, hmx⟩
theorem open_fact {fuel : Nat} {v0 v1 : Value} {x : DataW H × List MemPlace} (h : DataW.trod enc Tryz.prog w base spare held fuel 55 [v0, v1] = some x) : ∃ pred args, v0 = .int .i64 pred ∧ IntsV w v1 args ∧ args.length ≤ 9223372036854775807 := by
  obtain ⟨y0, y1, n, _, g0, g1⟩ := trod_struct2 Tryz.underlying55 h
  simp [A_cells3, P_cells22] at g0 g1
  obtain ⟨k0, e0, _, _⟩ := DataW.trod_int Tryz.underlying3 g0
  obtain ⟨l1, hl1, hm1⟩ := open_ints g1
  simp at e0
  exact ⟨k0, l1, e0, hl1, hm1⟩
end

end Go.Proofs.YthenjegmigeieaaGreat

/- Facts, numbers and truths that came in, read out of memory; and how many there are at most. -/
namespace Go.Proofs.YthenjegmigeieaaGreat
open Go.RowKit

section
variable {H : Type} {enc : TypeId × Value → H} {w : World} {base : Nat} {spare : Nat → Bool} {held : Bool}

end

end Go.Proofs.YthenjegmigeieaaGreat

/- What came in for the laws of rules: a program with what its bodies have room for, facts. -/
namespace Go.Proofs.YthenjegmigeieaaGreat
open Go.RowKit

section
variable {H : Type} {enc : TypeId × Value → H} {w : World} {base : Nat} {spare : Nat → Bool} {held : Bool}

theorem open_plitsC {fuel : Nat} {v : Value} {x : DataW H × List MemPlace} (h : DataW.trod enc Tryz.prog w base spare held fuel 38 [v] = some x) : ∃ l, PLitsV w v l ∧ l.length ≤ 9223372036854775807 ∧ (∀ i, i < l.length → LitFit (Sc.litD l i)) ∧ CapOk v := by
  obtain ⟨ao, l, cap, hv, hcp, hmx, hl⟩ := open_rowC Tryz.underlying38 P_cells84 (by decide) (⟨0, 0, 0, []⟩ : Sc.Lit) (fun b off x => PLitIn w b off x ∧ LitFit x) (fun n cs' y b off hlen hc h2 => by
    obtain ⟨y0, y1, y2, y3, k, _, g0, g1, g2, g3⟩ := trod_struct4 Tryz.underlying49 h2
    obtain ⟨v0, v1, v2, v3, rfl⟩ := list4 hlen
    simp [A_cells3, P_cells64] at g0 g1 g2 g3
    obtain ⟨k0, e0, _, _⟩ := DataW.trod_int Tryz.underlying3 g0
    obtain ⟨k1, e1, _, _⟩ := DataW.trod_int Tryz.underlying3 g1
    obtain ⟨k2, e2, _, _⟩ := DataW.trod_int Tryz.underlying3 g2
    obtain ⟨l3, hl3, hm3⟩ := open_pterms g3
    simp at e0 e1 e2
    subst e0 e1 e2
    exact ⟨⟨k0, k1, k2, l3⟩, ⟨hc 0 (by decide), hc 1 (by decide), hc 2 (by decide), v3, hc 3 (by decide), hl3⟩, hm3⟩) h
  refine ⟨l, ⟨ao, cap, hv, ?_⟩, hmx, ?_, fun ao2 n2 c2 h2 => by rw [hv] at h2; injection h2 with _ e1 e2; subst e1 e2; exact hcp⟩
  · rcases hl with h | ⟨b, off, he, hc⟩
    · exact .inl h
    · exact .inr ⟨b, off, he, fun i hi => (hc i hi).1⟩
  · intro i hi
    rcases hl with h | ⟨b, off, he, hc⟩
    · rw [h] at hi; simp at hi
    · exact (hc i hi).2
theorem open_prulesC {fuel : Nat} {v : Value} {x : DataW H × List MemPlace} (h : DataW.trod enc Tryz.prog w base spare held fuel 24 [v] = some x) : ∃ l, PRulesV w v l ∧ l.length ≤ 9223372036854775807 ∧ (∀ i, i < l.length → RuleFit (Sc.ruleD l i)) ∧ RulesCap w v := by
  obtain ⟨ao, l, cap, hv, _, hmx, hl⟩ := open_rowC Tryz.underlying24 P_cells67 (by decide) (⟨0, [], 0, [], 0⟩ : Sc.Rule) (fun b off x => PRuleIn w b off x ∧ RuleFit x ∧ ∃ u, w.cell? ⟨b, off + 3, none⟩ = some u ∧ CapOk u) (fun n cs' y b off hlen hc h2 => by
    obtain ⟨y0, y1, y2, y3, y4, k, _, g0, g1, g2, g3, g4⟩ := trod_struct5 Tryz.underlying40 h2
    obtain ⟨v0, v1, v2, v3, v4, rfl⟩ := list5 hlen
    simp [A_cells3, P_cells64, P_cells65] at g0 g1 g2 g3 g4
    obtain ⟨k0, e0, _, _⟩ := DataW.trod_int Tryz.underlying3 g0
    obtain ⟨l1, hl1, hm1⟩ := open_pterms g1
    obtain ⟨k2, e2, _, _⟩ := DataW.trod_int Tryz.underlying3 g2
    obtain ⟨l3, hl3, hm3, hf3, hcp3⟩ := open_plitsC g3
    obtain ⟨k4, e4, _, _⟩ := DataW.trod_int Tryz.underlying3 g4
    simp at e0 e2 e4
    subst e0 e2 e4
    exact ⟨⟨k0, l1, k2, l3, k4⟩, ⟨hc 0 (by decide), ⟨v1, hc 1 (by decide), hl1⟩, hc 2 (by decide), ⟨v3, hc 3 (by decide), hl3⟩, hc 4 (by decide)⟩, ⟨hm1, hm3, hf3⟩, v3, hc 3 (by decide), hcp3⟩) h
  refine ⟨l, ⟨ao, cap, hv, ?_⟩, hmx, ?_, ?_⟩
  · rcases hl with h | ⟨b, off, he, hc⟩
    · exact .inl h
    · exact .inr ⟨b, off, he, fun i hi => (hc i hi).1⟩
  · intro i hi
    rcases hl with h | ⟨b, off, he, hc⟩
    · rw [h] at hi; simp at hi
    · exact (hc i hi).2.1
  · intro b off n cap2 hv2 k hk u hu
    rw [hv] at hv2
    injection hv2 with e1 e2 e3
    subst e1 e2 e3
    rcases hl with h | ⟨b2, off2, he, hc⟩
    · rw [h] at hk; simp at hk
    · injection he with he
      injection he with e1 e2
      subst e1 e2
      obtain ⟨u2, hu2, hok⟩ := (hc k hk).2.2
      rw [hu2] at hu
      injection hu with hu
      subst hu
      exact hok
theorem open_progC {fuel : Nat} {va vn vr : Value} {x : DataW H × List MemPlace} (h : DataW.trod enc Tryz.prog w base spare held fuel 26 [va, vn, vr] = some x) : ∃ p, ProgV w va vn vr p ∧ ProgFit p ∧ RulesCap w vr := by
  obtain ⟨y0, y1, y2, n, _, g0, g1, g2⟩ := trod_struct3 Tryz.underlying26 h
  simp [P_cells22, P_cells23, P_cells24] at g0 g1 g2
  obtain ⟨l0, hl0, hm0⟩ := open_ints g0
  obtain ⟨l1, hl1, hm1⟩ := open_strs g1
  obtain ⟨l2, hl2, hm2, hf2, hcp2⟩ := open_prulesC g2
  exact ⟨⟨l0, l1, l2⟩, ⟨hl0, hl1, hl2⟩, ⟨hm0, hm1, hm2, hf2⟩, hcp2⟩
theorem open_factsC {fuel : Nat} {v : Value} {x : DataW H × List MemPlace} (h : DataW.trod enc Tryz.prog w base spare held fuel 27 [v] = some x) : ∃ l, FactsV w v l ∧ l.length ≤ 9223372036854775807 ∧ ∀ f, f ∈ l → FFit f := by
  obtain ⟨ao, l, cap, hv, hcp, hmx, hl⟩ := open_rowC Tryz.underlying27 P_cells28 (by decide) (⟨0, []⟩ : Rl.Fc) (fun b off f => FactIn w b off f ∧ FFit f) (fun n cs' y b off hlen hc h2 => by
    match cs', hlen with
    | [v0, v1], _ =>
      obtain ⟨pr, ar, e0, hI, hm⟩ := open_fact h2
      exact ⟨⟨pr, ar⟩, ⟨by rw [← e0]; exact hc 0 (by decide), v1, hc 1 (by decide), hI⟩, hm⟩) h
  refine ⟨l, ⟨ao, cap, hv, ⟨hcp, fun e => ?_⟩, ?_⟩, hmx, fun f hf => ?_⟩
  · subst e
    rcases Deep.open_slice Tryz.underlying27 h with ⟨hv2, _⟩ | ⟨a, len, cap2, m, n, D, Pl, hv2, _⟩
    · have hv' : v = .slice none 0 0 := by simpa using hv2
      rw [hv] at hv'
      injection hv' with _ _ h2
    · have hv' : v = .slice (some a) len cap2 := by simpa using hv2
      rw [hv] at hv'
      injection hv' with h1
      cases h1
  · rcases hl with h | ⟨b, off, he, hc⟩
    · exact .inl h
    · exact .inr ⟨b, off, he, fun i hi => (hc i hi).1⟩
  · obtain ⟨i, hi, rfl⟩ := List.getElem_of_mem hf
    rcases hl with h | ⟨b, off, he, hc⟩
    · rw [h] at hi; simp at hi
    · have := (hc i hi).2
      rwa [List.getD_eq_getElem?_getD, List.getElem?_eq_getElem hi] at this
end
end Go.Proofs.YthenjegmigeieaaGreat

/- What came in for the laws of models: truths. -/
namespace Go.Proofs.YthenjegmigeieaaGreat
open Go.RowKit

section
variable {H : Type} {enc : TypeId × Value → H} {w : World} {base : Nat} {spare : Nat → Bool} {held : Bool}
end
end Go.Proofs.YthenjegmigeieaaGreat

/- The walks of the laws of rules and models, together. -/


/- The closed facts of the row, one by one. -/
namespace Go.Proofs.YthenjegmigeieaaGreat
open Go.ChangeShapes Go.WideShapes Go.ChangeAt Go.RowKit
theorem mdlClosed_and {a b : Bool} (ha : a = true) (hb : b = true) : (a && b) = true := by rw [ha, hb]; rfl
theorem mdlClosed_j1 : Rows.modelClosedRow.wf (OpenSpec.ofChange Rows.modelClosedSpec) = true := by kernel_rfl
theorem mdlClosed_j2 : laidOutB Tryz.prog = true := by kernel_rfl
theorem mdlClosed_j3 : mapsRowed Tryz.prog = true := by kernel_rfl
theorem mdlClosed_j4 : Tryz.f7.params.all (Tryz.prog.readableRec ·) = true := by kernel_rfl
theorem mdlClosed_j5 : namedTie Tryz.prog Rows.modelClosedRow.named Rows.modelClosedSpec.vars = true := by kernel_rfl
theorem mdlClosed_j6 : (Rows.modelClosedRow.stops == []) = true := by kernel_rfl
theorem mdlClosed_j7 : (Tryz.prog.stops == []) = true := by kernel_rfl
theorem mdlClosed_j8 : (Rows.modelClosedRow.knobs == []) = true := by kernel_rfl
theorem mdlClosed_j9 : (Tryz.prog.stopKnobs == []) = true := by kernel_rfl
theorem mdlClosed_j10 : (Rows.modelClosedRow.inPlace == Tryz.prog.inPlace 7) = true := by kernel_rfl
theorem mdlClosed_j11 : (Rows.modelClosedRow.unfollowed == Tryz.prog.unfollowed 7) = true := by kernel_rfl
theorem mdlClosed_j12 : (Rows.modelClosedRow.recurses == Tryz.prog.recurses 7) = true := by kernel_rfl
theorem mdlClosed_j13 : (Rows.modelClosedRow.named == Tryz.prog.varsNamed 7) = true := by kernel_rfl
theorem mdlClosed_j14 : (Rows.modelClosedRow.maps == (Tryz.f7.params.toList ++ Rows.modelClosedSpec.plain.varTypes Tryz.prog).any (Tryz.prog.mapsRec ·)) = true := by kernel_rfl
theorem mdlClosed_j15 : (Rows.modelClosedRow.ifaces == (Tryz.f7.params.toList ++ Rows.modelClosedSpec.plain.varTypes Tryz.prog).any (Tryz.prog.ifacesRec ·)) = true := by kernel_rfl
theorem mdlClosed_j16 : (Rows.modelClosedRow.mapsOut == Tryz.prog.mapsAmong Tryz.f7.resultTypes.toList) = true := by kernel_rfl
theorem mdlClosed_j17 : (Rows.modelClosedRow.loops == (Tryz.f7.params.toList ++ Rows.modelClosedSpec.plain.varTypes Tryz.prog).any (Tryz.prog.loopsFrom ·)) = true := by kernel_rfl
theorem mdlClosed_j18 : (Rows.modelClosedRow.wideKeys == (Tryz.f7.params.toList ++ Rows.modelClosedSpec.plain.varTypes Tryz.prog ++ Tryz.f7.resultTypes.toList).any (Tryz.prog.wideKeysFrom ·)) = true := by kernel_rfl
theorem mdlClosed_j19 : Rows.modelClosedSpec.vars.all (Tryz.prog.varReadable ·) = true := by kernel_rfl
theorem mdlClosed_j20 : Tryz.f7.resultTypes.all (fun t => Tryz.prog.readableRec t && decide (t < Tryz.prog.types.size)) = true := by kernel_rfl
theorem mdlClosed_j21 : (Rows.modelClosedRow.ifacesOut == Tryz.f7.resultTypes.toList.any (Tryz.prog.ifacesRec ·)) = true := by kernel_rfl
theorem mdlClosed_j22 : (Rows.modelClosedRow.loopsOut == Tryz.f7.resultTypes.toList.any (Tryz.prog.loopsFrom ·)) = true := by kernel_rfl
theorem mdlClosed_j23 : (Rows.modelClosedRow.plainKeys == Tryz.prog.plainKeys) = true := by kernel_rfl
theorem mdlClosed_j24 : Rows.modelClosedRow.shortTexts.isNone = true := by kernel_rfl
theorem mdlClosed_j25 : Tryz.prog.stopsHeard = true := by kernel_rfl
theorem mdlClosed_j26 : Tryz.prog.mayEnter = true := by kernel_rfl
theorem mdlClosed_j27 : (Rows.modelClosedRow.lifted == Tryz.prog.liftsFinal) = true := by kernel_rfl
theorem mdlClosed_j28 : (Tryz.prog.make == some Rows.modelClosedRow.make) = true := by kernel_rfl
theorem mdlClosed_j29 : (Rows.modelClosedRow.kinds == (if Rows.modelClosedRow.domain.isEmpty then [] else Tryz.f7.params.toList.map fun t => match Tryz.prog.underlying t with | some (.int k) => some k | _ => none)) = true := by kernel_rfl
theorem mdlClosed_j30 : (Rows.modelClosedRow.pinned == Rows.modelClosedRow.pinnedBy) = true := by kernel_rfl
theorem mdlClosed_j31 : (Rows.modelClosedRow.veiled == (Tryz.f7.params.toList ++ Rows.modelClosedSpec.plain.varTypes Tryz.prog ++ Tryz.f7.resultTypes.toList).any (Tryz.prog.veiledRec ·)) = true := by kernel_rfl
theorem mdlClosed_j32 : Rows.modelClosedRow.veiledFits Tryz.prog Tryz.f7.params.toList (Tryz.f7.params.toList ++ Rows.modelClosedSpec.plain.varTypes Tryz.prog ++ Tryz.f7.resultTypes.toList) = true := by kernel_rfl
set_option maxRecDepth 100000 in
theorem mdlClosed_facts : joinedFacts Tryz.prog 7 Tryz.f7 (Rows.modelClosedSpec) Rows.modelClosedRow = true := by
  unfold joinedFacts
  exact mdlClosed_and (mdlClosed_and (mdlClosed_and (mdlClosed_and (mdlClosed_and (mdlClosed_and (mdlClosed_and (mdlClosed_and (mdlClosed_and (mdlClosed_and (mdlClosed_and (mdlClosed_and (mdlClosed_and (mdlClosed_and (mdlClosed_and (mdlClosed_and (mdlClosed_and (mdlClosed_and (mdlClosed_and (mdlClosed_and (mdlClosed_and (mdlClosed_and (mdlClosed_and (mdlClosed_and (mdlClosed_and (mdlClosed_and (mdlClosed_and (mdlClosed_and (mdlClosed_and (mdlClosed_and (mdlClosed_and mdlClosed_j1 mdlClosed_j2) mdlClosed_j3) mdlClosed_j4) mdlClosed_j5) mdlClosed_j6) mdlClosed_j7) mdlClosed_j8) mdlClosed_j9) mdlClosed_j10) mdlClosed_j11) mdlClosed_j12) mdlClosed_j13) mdlClosed_j14) mdlClosed_j15) mdlClosed_j16) mdlClosed_j17) mdlClosed_j18) mdlClosed_j19) mdlClosed_j20) mdlClosed_j21) mdlClosed_j22) mdlClosed_j23) mdlClosed_j24) mdlClosed_j25) mdlClosed_j26) mdlClosed_j27) mdlClosed_j28) mdlClosed_j29) mdlClosed_j30) mdlClosed_j31) mdlClosed_j32
end Go.Proofs.YthenjegmigeieaaGreat

