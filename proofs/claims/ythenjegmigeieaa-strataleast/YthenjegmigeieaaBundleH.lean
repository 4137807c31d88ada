/- Own texts, one behind the other (part 8). -/
import Derived.Test.YthenjegmigeieaaBundleG
import Derived.Test.YthenjegmigeieaaRows
/- A program, a fact, that came in, read out of memory. -/
namespace Go.Proofs.Ythenjegmigeieaa
open Go.RowKit

theorem P_cells26 : Try.prog.cellsOf 26 = 3 := by kernel_rfl
theorem P_cells22 : Try.prog.cellsOf 22 = 1 := by kernel_rfl
theorem P_cells23 : Try.prog.cellsOf 23 = 1 := by kernel_rfl
theorem P_cells24 : Try.prog.cellsOf 24 = 1 := by kernel_rfl
theorem P_cells64 : Try.prog.cellsOf 45 = 1 := by kernel_rfl
theorem P_cells65 : Try.prog.cellsOf 46 = 1 := by kernel_rfl
theorem P_cells67 : Try.prog.cellsOf 48 = 5 := by kernel_rfl
theorem P_cells84 : Try.prog.cellsOf 52 = 4 := by kernel_rfl
theorem P_cells130 : Try.prog.cellsOf 57 = 2 := by kernel_rfl

theorem list3 {l : List Value} (h : l.length = 3) : ∃ a b c, l = [a, b, c] := by
  match l, h with
  | [a, b, c], _ => exact ⟨a, b, c, rfl⟩
theorem list4 {l : List Value} (h : l.length = 4) : ∃ a b c d, l = [a, b, c, d] := by
  match l, h with
  | [a, b, c, d], _ => exact ⟨a, b, c, d, rfl⟩

section
variable {H : Type} {enc : TypeId × Value → H} {w : World} {base : Nat} {spare : Nat → Bool} {held : Bool}

/-- A slice whose elements can be read; its length is no more than its room. -/
theorem open_rowC {α : Type} {st e : TypeId} {k : Nat} (ht : Try.prog.underlying st = some (.slice e)) (hk : Try.prog.cellsOf e = k) (hk0 : 0 < k) (d : α) (In : Nat → Nat → α → Prop)
    (el : ∀ n cs' y b off, cs'.length = k → (∀ j, j < k → w.cell? ⟨b, off + j, none⟩ = cs'[j]?) → DataW.trod enc Try.prog w base spare held n e cs' = some y → ∃ a, In b off a)
    {fuel : Nat} {v : Value} {x : DataW H × List MemPlace} (h : DataW.trod enc Try.prog w base spare held fuel st [v] = some x) :
    ∃ (ao : Option Addr) (l : List α) (cap : Nat), v = .slice ao l.length cap ∧ l.length ≤ cap ∧ l.length ≤ 9223372036854775807 ∧ (l = [] ∨ ∃ b off, ao = some ⟨b, off, none⟩ ∧ ∀ i, i < l.length → In b (off + i * k) (l.getD i d)) := by
  obtain ⟨ao, l, cap, hv, hm, hl⟩ := open_row ht hk hk0 d In el h
  refine ⟨ao, l, cap, hv, ?_, hm, hl⟩
  rcases Deep.open_slice ht h with ⟨hv2, _⟩ | ⟨a, len, cap2, m, n, D, Pl, hv2, hb, hl2, _⟩
  · have hv' : v = .slice none 0 0 := by simpa using hv2
    rw [hv] at hv'
    injection hv' with _ h1 h2
    omega
  · have hv' : v = .slice (some a) len cap2 := by simpa using hv2
    rw [hv] at hv'
    injection hv' with _ h1 h2
    omega

theorem trod_struct3 {t : TypeId} {f0 f1 f2 : Field} {fuel : Nat} {cs : List Value} {x : DataW H × List MemPlace} (ht : Try.prog.underlying t = some (.struct #[f0, f1, f2])) (h : DataW.trod enc Try.prog w base spare held fuel t cs = some x) :
    ∃ y0 y1 y2 n, cs.length = Try.prog.cellsOf t ∧ DataW.trod enc Try.prog w base spare held n f0.type ((cs.drop f0.offset).take (Try.prog.cellsOf f0.type)) = some y0 ∧
      DataW.trod enc Try.prog w base spare held n f1.type ((cs.drop f1.offset).take (Try.prog.cellsOf f1.type)) = some y1 ∧ DataW.trod enc Try.prog w base spare held n f2.type ((cs.drop f2.offset).take (Try.prog.cellsOf f2.type)) = some y2 := by
  obtain ⟨xs, n, _, rfl, hl, hlen, hf⟩ := DataW.trod_struct ht h
  match xs, hlen with
  | [y0, y1, y2], _ => exact ⟨y0, y1, y2, n, hl, by simpa using hf 0 f0 rfl, by simpa using hf 1 f1 rfl, by simpa using hf 2 f2 rfl⟩
theorem trod_struct4 {t : TypeId} {f0 f1 f2 f3 : Field} {fuel : Nat} {cs : List Value} {x : DataW H × List MemPlace} (ht : Try.prog.underlying t = some (.struct #[f0, f1, f2, f3])) (h : DataW.trod enc Try.prog w base spare held fuel t cs = some x) :
    ∃ y0 y1 y2 y3 n, cs.length = Try.prog.cellsOf t ∧ DataW.trod enc Try.prog w base spare held n f0.type ((cs.drop f0.offset).take (Try.prog.cellsOf f0.type)) = some y0 ∧
      DataW.trod enc Try.prog w base spare held n f1.type ((cs.drop f1.offset).take (Try.prog.cellsOf f1.type)) = some y1 ∧ DataW.trod enc Try.prog w base spare held n f2.type ((cs.drop f2.offset).take (Try.prog.cellsOf f2.type)) = some y2 ∧
      DataW.trod enc Try.prog w base spare held n f3.type ((cs.drop f3.offset).take (Try.prog.cellsOf f3.type)) = some y3 := by
  obtain ⟨xs, n, _, rfl, hl, hlen, hf⟩ := DataW.trod_struct ht h
  match xs, hlen with
  | [y0, y1, y2, y3], _ => exact ⟨y0, y1, y2, y3, n, hl, by simpa using hf 0 f0 rfl, by simpa using hf 1 f1 rfl, by simpa using hf 2 f2 rfl, by simpa using hf 3 f3 rfl⟩

theorem open_ints {fuel : Nat} {v : Value} {x : DataW H × List MemPlace} (h : DataW.trod enc Try.prog w base spare held fuel 22 [v] = some x) : ∃ l, IntsV w v l ∧ l.length ≤ 9223372036854775807 := by
  obtain ⟨ao, l, cap, hv, _, hmx, hl⟩ := open_rowC Try.underlying22 A_cells3 (by decide) (0 : Int) (fun b off a => w.cell? ⟨b, off, none⟩ = some (.int .i64 a)) (fun n cs' y b off hlen hc h2 => by
    match cs', hlen with
    | [v0], _ =>
      obtain ⟨k0, e0, _, _⟩ := DataW.trod_int Try.underlying3 h2
      simp at e0
      subst e0
      exact ⟨k0, hc 0 (by decide)⟩) h
  refine ⟨l, ⟨ao, cap, hv, ?_⟩, hmx⟩
  rcases hl with h | ⟨b, off, he, hc⟩
  · exact .inl h
  · exact .inr ⟨b, off, he, fun i hi => by have := hc i hi; rw [Nat.mul_one] at this; exact this⟩
theorem open_strs {fuel : Nat} {v : Value} {x : DataW H × List MemPlace} (h : DataW.trod enc Try.prog w base spare held fuel 23 [v] = some x) : ∃ l, StrsV w v l ∧ l.length ≤ 9223372036854775807 := by
  obtain ⟨ao, l, cap, hv, _, hmx, hl⟩ := open_rowC Try.underlying23 A_cells9 (by decide) ([] : List UInt8) (fun b off a => w.cell? ⟨b, off, none⟩ = some (.string ⟨a.toArray⟩)) (fun n cs' y b off hlen hc h2 => by
    match cs', hlen with
    | [v0], _ =>
      obtain ⟨k0, e0, _, _⟩ := DataW.trod_string Try.underlying9 h2
      simp at e0
      subst e0
      exact ⟨k0.data.toList, hc 0 (by decide)⟩) h
  refine ⟨l, ⟨ao, cap, hv, ?_⟩, hmx⟩
  rcases hl with h | ⟨b, off, he, hc⟩
  · exact .inl h
  · exact .inr ⟨b, off, he, fun i hi => by have := hc i hi; rw [Nat.mul_one] at this; exact this⟩
theorem open_pterms {fuel : Nat} {v : Value} {x : DataW H × List MemPlace} (h : DataW.trod enc Try.prog w base spare held fuel 45 [v] = some x) : ∃ l, PTermsV w v l ∧ l.length ≤ 9223372036854775807 := by
  obtain ⟨ao, l, cap, hv, hcap, hmx, hl⟩ := open_rowC Try.underlying45 P_cells130 (by decide) (⟨0, 0⟩ : Sc.Term) (PTermIn w) (fun n cs' y b off hlen hc h2 => by
    obtain ⟨y0, y1, k, _, g0, g1⟩ := trod_struct2 Try.underlying57 h2
    obtain ⟨v0, v1, rfl⟩ := list2 hlen
    simp [A_cells3] at g0 g1
    obtain ⟨k0, e0, _, _⟩ := DataW.trod_int Try.underlying3 g0
    obtain ⟨k1, e1, _, _⟩ := DataW.trod_int Try.underlying3 g1
    simp at e0 e1
    subst e0 e1
    exact ⟨⟨k0, k1⟩, hc 0 (by decide), hc 1 (by decide)⟩) h
  exact ⟨l, ⟨ao, cap, hv, hcap, hl⟩, hmx⟩
theorem open_plits {fuel : Nat} {v : Value} {x : DataW H × List MemPlace} (h : DataW.trod enc Try.prog w base spare held fuel 46 [v] = some x) : ∃ l, PLitsV w v l ∧ l.length ≤ 9223372036854775807 ∧ ∀ i, i < l.length → LitFit (Sc.litD l i) := by
  obtain ⟨ao, l, cap, hv, _, hmx, hl⟩ := open_rowC Try.underlying46 P_cells84 (by decide) (⟨0, 0, 0, []⟩ : Sc.Lit) (fun b off x => PLitIn w b off x ∧ LitFit x) (fun n cs' y b off hlen hc h2 => by
    obtain ⟨y0, y1, y2, y3, k, _, g0, g1, g2, g3⟩ := trod_struct4 Try.underlying52 h2
    obtain ⟨v0, v1, v2, v3, rfl⟩ := list4 hlen
    simp [A_cells3, P_cells64] at g0 g1 g2 g3
    obtain ⟨k0, e0, _, _⟩ := DataW.trod_int Try.underlying3 g0
    obtain ⟨k1, e1, _, _⟩ := DataW.trod_int Try.underlying3 g1
    obtain ⟨k2, e2, _, _⟩ := DataW.trod_int Try.underlying3 g2
    obtain ⟨l3, hl3, hm3⟩ := open_pterms g3
    simp at e0 e1 e2
    subst e0 e1 e2
    exact ⟨⟨k0, k1, k2, l3⟩, ⟨hc 0 (by decide), hc 1 (by decide), hc 2 (by decide), v3, hc 3 (by decide), hl3⟩, hm3⟩) h
  refine ⟨l, ⟨ao, cap, hv, ?_⟩, hmx, ?_⟩
  · rcases hl with h | ⟨b, off, he, hc⟩
    · exact .inl h
    · exact .inr ⟨b, off, he, fun i hi => (hc i hi).1⟩
  · intro i hi
    rcases hl with h | ⟨b, off, he, hc⟩
    · rw [h] at hi; simp at hi
    · exact (hc i hi).2
theorem open_prules {fuel : Nat} {v : Value} {x : DataW H × List MemPlace} (h : DataW.trod enc Try.prog w base spare held fuel 24 [v] = some x) : ∃ l, PRulesV w v l ∧ l.length ≤ 9223372036854775807 ∧ ∀ i, i < l.length → RuleFit (Sc.ruleD l i) := by
  obtain ⟨ao, l, cap, hv, _, hmx, hl⟩ := open_rowC Try.underlying24 P_cells67 (by decide) (⟨0, [], 0, [], 0⟩ : Sc.Rule) (fun b off x => PRuleIn w b off x ∧ RuleFit x) (fun n cs' y b off hlen hc h2 => by
    obtain ⟨y0, y1, y2, y3, y4, k, _, g0, g1, g2, g3, g4⟩ := trod_struct5 Try.underlying48 h2
    obtain ⟨v0, v1, v2, v3, v4, rfl⟩ := list5 hlen
    simp [A_cells3, P_cells64, P_cells65] at g0 g1 g2 g3 g4
    obtain ⟨k0, e0, _, _⟩ := DataW.trod_int Try.underlying3 g0
    obtain ⟨l1, hl1, hm1⟩ := open_pterms g1
    obtain ⟨k2, e2, _, _⟩ := DataW.trod_int Try.underlying3 g2
    obtain ⟨l3, hl3, hm3, hf3⟩ := open_plits g3
    obtain ⟨k4, e4, _, _⟩ := DataW.trod_int Try.underlying3 g4
    simp at e0 e2 e4
    subst e0 e2 e4
    exact ⟨⟨k0, l1, k2, l3, k4⟩, ⟨hc 0 (by decide), ⟨v1, hc 1 (by decide), hl1⟩, hc 2 (by decide), ⟨v3, hc 3 (by decide), hl3⟩, hc 4 (by decide)⟩, hm1, hm3, hf3⟩) h
  refine ⟨l, ⟨ao, cap, hv, ?_⟩, hmx, ?_⟩
  · rcases hl with h | ⟨b, off, he, hc⟩
    · exact .inl h
    · exact .inr ⟨b, off, he, fun i hi => (hc i hi).1⟩
  · intro i hi
    rcases hl with h | ⟨b, off, he, hc⟩
    · rw [h] at hi; simp at hi
    · exact (hc i hi).2
theorem open_prog {fuel : Nat} {va vn vr : Value} {x : DataW H × List MemPlace} (h : DataW.trod enc Try.prog w base spare held fuel 26 [va, vn, vr] = some x) : ∃ p, ProgV w va vn vr p ∧ ProgFit p := by
  obtain ⟨y0, y1, y2, n, _, g0, g1, g2⟩ := trod_struct3 Try.underlying26 h
  simp [P_cells22, P_cells23, P_cells24] at g0 g1 g2
  obtain ⟨l0, hl0, hm0⟩ := open_ints g0
  obtain ⟨l1, hl1, hm1⟩ := open_strs g1
  obtain ⟨l2, hl2, hm2, hf2⟩ := open_prules g2
  exact ⟨⟨l0, l1, l2⟩, ⟨hl0, hl1, hl2⟩, hm0, hm1, hm2, hf2⟩
end

end Go.Proofs.Ythenjegmigeieaa

