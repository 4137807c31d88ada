/- Package token: what the loop of scan keeps in memory. -/
import Derived.Test.YtcfmjoidaehfkaaCatch
import Derived.WalkSmall
namespace Go.Proofs.Ytcfmjoidaehfkaa
open Go.RowKit

/-- The cells of a token. -/
def tokCells (t : Tk.Tok) : List Value := [.int .i64 t.kind, .int .i64 t.at_, .string ⟨t.text.toArray⟩]
def allCells (l : List Tk.Tok) : List Value := l.flatMap tokCells
theorem allCells_nil : allCells [] = [] := rfl
theorem allCells_snoc (l : List Tk.Tok) (t : Tk.Tok) : allCells (l ++ [t]) = allCells l ++ tokCells t := by simp [allCells]
theorem allCells_length (l : List Tk.Tok) : (allCells l).length = l.length * 3 := by
  induction l with
  | nil => rfl
  | cons t r ih => simp only [allCells, List.flatMap_cons, List.length_append] at ih ⊢; rw [ih]; simp [tokCells]; omega

theorem ownsRow_below {w w' : World} {base : Nat} {e : TypeId} {size : Nat} {v : Value} {n : Nat} {xs : List Value} (h : w.ownsRow base e size v n xs) (hb : Below w.heap.size w w') : w'.ownsRow base e size v n xs := by
  obtain ⟨h1, h2⟩ := h
  refine ⟨h1, ?_⟩
  rcases h2 with h2 | ⟨g, cap, cur, hv, hg, hbk, r⟩
  · exact .inl h2
  · refine .inr ⟨g, cap, cur, hv, hg, ?_, r⟩
    have hlt : g < w.heap.size := by
      rcases Nat.lt_or_ge g w.heap.size with h | h
      · exact h
      · rw [Array.getElem?_eq_none h] at hbk; cases hbk
    rw [hb.block g hlt]; exact hbk

theorem own_slice {w : World} {base : Nat} {e : TypeId} {size : Nat} {v : Value} {n : Nat} {xs : List Value} (h : w.ownsRow base e size v n xs) : ∃ ao cap, v = .slice ao n cap := by
  rcases h.2 with ⟨hv, h0⟩ | ⟨g, cap, cur, hv, _⟩
  · exact ⟨none, 0, by rw [hv, h0]⟩
  · exact ⟨_, _, hv⟩

/-- The loop of scan: N: the block of l; N + 1: that of gave. -/
structure ScanInv (N : Nat) (w wr : World) (v : Value) (acc : List Tk.Tok) : Prop where
  cl : wr.cell? ⟨N, 0, none⟩ = some v
  own : wr.ownsRow (N + 2) 34 3 v acc.length (allCells acc)
  fl : wr.frozen? ⟨N, 0, none⟩ = false
  g0 : wr.cell? ⟨N + 1, 0, none⟩ = some (.int .i64 0)
  g1 : wr.cell? ⟨N + 1, 1, none⟩ = some (.int .i64 0)
  f0 : wr.frozen? ⟨N + 1, 0, none⟩ = false
  f1 : wr.frozen? ⟨N + 1, 1, none⟩ = false
  bel : Below N w wr
  size : N + 2 ≤ wr.heap.size

theorem ScanInv.below {N : Nat} {w wr w1 : World} {v : Value} {acc : List Tk.Tok} (h : ScanInv N w wr v acc) (hb : Below wr.heap.size wr w1) : ScanInv N w w1 v acc := by
  have hs := h.size
  have h1 : N < wr.heap.size := by omega
  have h2 : N + 1 < wr.heap.size := by omega
  obtain ⟨hc, hf⟩ := (⟨fun b o hh => hb.cell (p := ⟨b, o, none⟩) hh, fun b o hh => hb.frozen (p := ⟨b, o, none⟩) hh⟩ : (∀ b o, b < wr.heap.size → w1.cell? ⟨b, o, none⟩ = wr.cell? ⟨b, o, none⟩) ∧ (∀ b o, b < wr.heap.size → w1.frozen? ⟨b, o, none⟩ = wr.frozen? ⟨b, o, none⟩))
  exact { cl := by rw [hc _ _ h1]; exact h.cl
          own := ownsRow_below h.own hb
          fl := by rw [hf _ _ h1]; exact h.fl
          g0 := by rw [hc _ _ h2]; exact h.g0
          g1 := by rw [hc _ _ h2]; exact h.g1
          f0 := by rw [hf _ _ h2]; exact h.f0
          f1 := by rw [hf _ _ h2]; exact h.f1
          bel := h.bel.trans (hb.mono (by omega))
          size := by have := hb.size; omega }

theorem ScanInv.alloc {N : Nat} {w wr : World} {v : Value} {acc : List Tk.Tok} (h : ScanInv N w wr v acc) (o : Obj) : ScanInv N w (wr.alloc o) v acc :=
  h.below ((Below.refl _ _).alloc (Nat.le_refl _) _)

/-- A write to the call's own blocks that lie behind. -/
theorem ScanInv.grown {N : Nat} {w wr w1 : World} {v v' : Value} {acc acc' : List Tk.Tok} (h : ScanInv N w wr v acc) (hg : wr.grownBy w1 v.ownBlock)
    (hown : w1.ownsRow (N + 2) 34 3 v' acc'.length (allCells acc')) : ScanInv N w (w1.setCell ⟨N, 0, none⟩ v') v' acc' := by
  have hs := h.size
  have hne : ∀ k, k < N + 2 → some k ≠ v.ownBlock := fun k hk e => by
    have := (h.own.lt k e.symm).1
    omega
  have hb : ∀ k, k < N + 2 → w1.heap[k]? = wr.heap[k]? := fun k hk => hg.block k (by omega) (hne k hk)
  have hc : ∀ k o, k < N + 2 → w1.cell? ⟨k, o, none⟩ = wr.cell? ⟨k, o, none⟩ := fun k o hk => World.cell?_of_block (a := ⟨k, o, none⟩) (hb k hk)
  have hf : ∀ k o, k < N + 2 → w1.frozen? ⟨k, o, none⟩ = wr.frozen? ⟨k, o, none⟩ := fun k o hk => World.frozen?_of_block (a := ⟨k, o, none⟩) (hb k hk)
  have c0 : w1.cell? ⟨N, 0, none⟩ = some v := by rw [hc _ _ (by omega)]; exact h.cl
  exact { cl := by simp [go_sem, c0]
          own := ownsRow_setCell_below hown (by simp) _
          fl := by simp [go_sem, hf N 0 (by omega), h.fl]
          g0 := by simp [go_sem, hc (N + 1) 0 (by omega), h.g0]
          g1 := by simp [go_sem, hc (N + 1) 1 (by omega), h.g1]
          f0 := by simp [go_sem, hf (N + 1) 0 (by omega), h.f0]
          f1 := by simp [go_sem, hf (N + 1) 1 (by omega), h.f1]
          bel := (h.bel.grown hg (by omega) (fun k hk => by have := (h.own.lt k hk).1; omega)).setCell (p := ⟨N, 0, none⟩) (Nat.le_refl _) _
          size := by have := hg.size; simp; omega }

/-- What lies in blocks that the append did not touch. -/
theorem ScanInv.after {N : Nat} {w w1 w2 : World} {v : Value} {acc : List Tk.Tok} {o1 o2 : Obj} (h : ScanInv N w w1 v acc) (hg : ((w1.alloc o1).alloc o2).grownBy w2 v.ownBlock) :
    w2.cell? ⟨N, 0, none⟩ = some v ∧ w2.frozen? ⟨N, 0, none⟩ = false ∧ (∀ o, w2.cell? ⟨w1.heap.size, o, none⟩ = ((w1.alloc o1).alloc o2).cell? ⟨w1.heap.size, o, none⟩) := by
  have h2 := (h.alloc o1).alloc o2
  have hs := h.size
  have hz : ((w1.alloc o1).alloc o2).heap.size = w1.heap.size + 2 := by simp
  have hne : some N ≠ v.ownBlock := fun e => by have := (h.own.lt N e.symm).1; omega
  have hne' : some w1.heap.size ≠ v.ownBlock := fun e => by have := (h.own.lt _ e.symm).2; omega
  have hb1 := hg.block N (by omega) hne
  have hb2 := hg.block w1.heap.size (by omega) hne'
  refine ⟨?_, ?_, fun o => World.cell?_of_block (a := ⟨w1.heap.size, o, none⟩) hb2⟩
  · rw [World.cell?_of_block (a := ⟨N, 0, none⟩) hb1]; exact h2.cl
  · rw [World.frozen?_of_block (a := ⟨N, 0, none⟩) hb1]; exact h2.fl

theorem ownsRow_base {w : World} {base base' : Nat} {e : TypeId} {size : Nat} {v : Value} {n : Nat} {xs : List Value} (h : w.ownsRow base e size v n xs) (hb : base' ≤ base) : w.ownsRow base' e size v n xs := by
  obtain ⟨h1, h2⟩ := h
  refine ⟨h1, ?_⟩
  rcases h2 with h2 | ⟨g, cap, cur, hv, hg, r⟩
  · exact .inl h2
  · exact .inr ⟨g, cap, cur, hv, by omega, r⟩

/-- At the loop's begin. -/
theorem ScanInv.start (w : World) : ScanInv w.heap.size w ((w.alloc (.cells #[.slice none 0 0] 22)).alloc (.cells #[.int .i64 0, .int .i64 0] 36)) (.slice none 0 0) [] where
  cl := by simp [go_sem, World.cell?_alloc_past]
  own := World.ownsRow_nil _ _ _ _
  fl := by simp [go_sem]
  g0 := by simp [go_sem]
  g1 := by simp [go_sem]
  f0 := by simp [go_sem]
  f1 := by simp [go_sem]
  bel := ((Below.refl _ _).alloc (Nat.le_refl _) _).alloc (by simp) _
  size := by simp

end Go.Proofs.Ytcfmjoidaehfkaa
