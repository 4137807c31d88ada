/- Own texts, one behind the other (part 9). -/
import Derived.Test.YtgpaleifhcdjnaaGreatDoorBundleH
import Derived.Test.YtgpaleifhcdjnaaGreatDoorRows
import Derived.Test.YtgpaleifhcdjnaaGreatDoorCards
import Derived.Test.YtgpaleifhcdjnaaGreatDoorTie
import Derived.Deep.DeepCutAuto
import Derived.Deep.AppendLies
import Derived.Deep.RegionLaw
/- The document's reader of tokens, in memory. -/
namespace Go.Proofs.YtgpaleifhcdjnaaGreatDoor
open Go.RowKit

namespace Rd
/-- The text of the next token; none, if it has failed. -/
def text (s : Int ⊕ List Tk.Tok) : List UInt8 := match s with | .inl _ => [] | .inr r => (Pr.hd 0 r).text
def here (en : Int) (s : Int ⊕ List Tk.Tok) : Int := match s with | .inl a => a | .inr r => (Pr.hd en r).at_
def bad (s : Int ⊕ List Tk.Tok) : Bool := match s with | .inl _ => true | .inr _ => false
def need (t : List UInt8) (en : Int) (s : Int ⊕ List Tk.Tok) : Int ⊕ List Tk.Tok := match s with | .inl a => .inl a | .inr r => Pr.must t en r
/-- What a step of the parser makes of a reader. -/
def on {α : Type} (f : List Tk.Tok → Int ⊕ (α × List Tk.Tok)) (s : Int ⊕ List Tk.Tok) : Int ⊕ (α × List Tk.Tok) := match s with | .inl a => .inl a | .inr r => f r
/-- A value and a reader are what such a step says: if it fails, the value may be anything. -/
def Ends {α : Type} (x : Int ⊕ (α × List Tk.Tok)) (v : α) (s : Int ⊕ List Tk.Tok) : Prop := match x with | .inl a => s = .inl a | .inr y => v = y.1 ∧ s = .inr y.2
theorem text_hd (en : Int) (r : List Tk.Tok) : text (.inr r) = (Pr.hd en r).text := by cases r <;> rfl
end Rd

/-- The reader's block, and its tokens. -/
def RAt (w : World) (R : Nat) (L : List Tk.Tok) (en : Int) (s : Int ⊕ List Tk.Tok) : Prop :=
  ∃ (nx : Nat) (ao : Option Addr) (cap : Nat), nx ≤ L.length ∧ L.length ≤ 5000 ∧ (∀ t ∈ L, Tk.Good t) ∧ w.heap[R]? = some (.cells #[.slice ao L.length cap, .int .i64 nx, .int .i64 en, .bool (Rd.bad s)] 89 (0, 0)) ∧
    (match s with | .inl a => (Pr.hd en (L.drop nx)).at_ = a | .inr r => L.drop nx = r) ∧ (L = [] ∨ ∃ b off, ao = some ⟨b, off, none⟩ ∧ b < R ∧ ∀ i, i < L.length → TokIn w b (off + i * 3) (tokD L i))

section
variable {w w' : World} {R : Nat} {L : List Tk.Tok} {en : Int} {s s' : Int ⊕ List Tk.Tok} {r : List Tk.Tok}
theorem RAt.lt (h : RAt w R L en s) : R < w.heap.size := by
  obtain ⟨nx, ao, cap, _, _, _, h1, _⟩ := h
  exact heap_lt h1
theorem RAt.keep (h : RAt w R L en s) (hk : ∀ k, k ≤ R → w'.heap[k]? = w.heap[k]?) : RAt w' R L en s := by
  obtain ⟨nx, ao, cap, h1, h2, h3, h4, h5, h6⟩ := h
  refine ⟨nx, ao, cap, h1, h2, h3, by rw [hk R (Nat.le_refl _)]; exact h4, h5, ?_⟩
  rcases h6 with h | ⟨b, off, rfl, hlt, hc⟩
  · exact .inl h
  · refine .inr ⟨b, off, rfl, hlt, fun i hi => ?_⟩
    have e : ∀ o, w'.cell? ⟨b, o, none⟩ = w.cell? ⟨b, o, none⟩ := fun o => World.cell?_of_block (a := ⟨b, o, none⟩) (hk b (by omega))
    obtain ⟨c0, c1, c2⟩ := hc i hi
    exact ⟨(e _).trans c0, (e _).trans c1, (e _).trans c2⟩
theorem RAt.below (h : RAt w R L en s) (hb : Below w.heap.size w w') : RAt w' R L en s := h.keep fun k hk => hb.block k (Nat.lt_of_le_of_lt hk h.lt)
theorem RAt.set (h : RAt w R L en s) {b : Nat} (hb : R < b) (o : Nat) (v : Value) : RAt (w.setCell ⟨b, o, none⟩ v) R L en s :=
  h.keep fun k hk => Below.heap_setCell _ _ _ _ (show ¬ k = b by omega)
theorem RAt.cells (h : RAt w R L en s) : ∃ (nx : Nat) (ao : Option Addr) (cap : Nat), nx ≤ 5000 ∧ w.cell? ⟨R, 0, none⟩ = some (.slice ao L.length cap) ∧ w.cell? ⟨R, 1, none⟩ = some (.int .i64 nx) ∧ w.cell? ⟨R, 2, none⟩ = some (.int .i64 en) ∧ w.cell? ⟨R, 3, none⟩ = some (.bool (Rd.bad s)) ∧
    w.frozen? ⟨R, 1, none⟩ = false ∧ w.frozen? ⟨R, 3, none⟩ = false := by
  obtain ⟨nx, ao, cap, h1, h2, h3, h4, h5, h6⟩ := h
  exact ⟨nx, ao, cap, by omega, by rw [Lib.cell_of_heap h4]; rfl, by rw [Lib.cell_of_heap h4]; rfl, by rw [Lib.cell_of_heap h4]; rfl, by rw [Lib.cell_of_heap h4]; rfl, by simp [World.frozen?, h4], by simp [World.frozen?, h4]⟩
theorem RAt.good (h : RAt w R L en (.inr r)) : ∀ t ∈ r, Tk.Good t := by
  obtain ⟨nx, ao, cap, h1, h2, h3, h4, h5, h6⟩ := h
  intro t ht
  exact h3 t (List.mem_of_mem_drop (i := nx) (by rw [show L.drop nx = r from h5]; exact ht))
theorem RAt.len (h : RAt w R L en (.inr r)) : r.length ≤ L.length ∧ L.length ≤ 5000 := by
  obtain ⟨nx, ao, cap, h1, h2, h3, h4, h5, h6⟩ := h
  have h5 : L.drop nx = r := h5
  exact ⟨by rw [← h5]; simp, h2⟩
/-- It has failed: nothing goes on. -/
theorem RAt.fail (h : RAt w R L en s) : RAt (w.setCell ⟨R, 3, none⟩ (.bool true)) R L en (.inl (Rd.here en s)) := by
  obtain ⟨nx, ao, cap, h1, h2, h3, h4, h5, h6⟩ := h
  refine ⟨nx, ao, cap, h1, h2, h3, by simp [World.setCell, Array.getElem?_modify, h4, Rd.bad], ?_, ?_⟩
  · cases s with
    | inl a => exact h5
    | inr r => show (Pr.hd en (L.drop nx)).at_ = _; rw [show L.drop nx = r from h5]; rfl
  · rcases h6 with h | ⟨b, off, rfl, hlt, hc⟩
    · exact .inl h
    · refine .inr ⟨b, off, rfl, hlt, fun i hi => ?_⟩
      have e : ∀ o, (w.setCell ⟨R, 3, none⟩ (.bool true)).cell? ⟨b, o, none⟩ = w.cell? ⟨b, o, none⟩ := fun o => World.cell?_of_block (a := ⟨b, o, none⟩) (Below.heap_setCell _ _ _ _ (show ¬ b = R by omega))
      obtain ⟨c0, c1, c2⟩ := hc i hi
      exact ⟨(e _).trans c0, (e _).trans c1, (e _).trans c2⟩
/-- One token on. -/
theorem RAt.next (h : RAt w R L en (.inr r)) (hr : ¬ r = []) : ∃ nx : Nat, nx ≤ 5000 ∧ w.cell? ⟨R, 1, none⟩ = some (.int .i64 nx) ∧ RAt (w.setCell ⟨R, 1, none⟩ (.int .i64 ((nx : Int) + 1))) R L en (.inr r.tail) := by
  obtain ⟨nx, ao, cap, h1, h2, h3, h4, h5, h6⟩ := h
  have h5 : L.drop nx = r := h5
  have hlt : nx < L.length := by
    rcases Nat.lt_or_ge nx L.length with h | h
    · exact h
    · exact absurd (h5.symm.trans (List.drop_of_length_le h)) hr
  refine ⟨nx, by omega, by rw [Lib.cell_of_heap h4]; rfl, nx + 1, ao, cap, hlt, h2, h3, by simp [World.setCell, Array.getElem?_modify, h4, Rd.bad], by show L.drop (nx + 1) = r.tail; rw [← h5, List.tail_drop], ?_⟩
  rcases h6 with h | ⟨b, off, rfl, hlt, hc⟩
  · exact .inl h
  · refine .inr ⟨b, off, rfl, hlt, fun i hi => ?_⟩
    have e : ∀ o, (w.setCell ⟨R, 1, none⟩ (.int .i64 ((nx : Int) + 1))).cell? ⟨b, o, none⟩ = w.cell? ⟨b, o, none⟩ := fun o => World.cell?_of_block (a := ⟨b, o, none⟩) (Below.heap_setCell _ _ _ _ (show ¬ b = R by omega))
    obtain ⟨c0, c1, c2⟩ := hc i hi
    exact ⟨(e _).trans c0, (e _).trans c1, (e _).trans c2⟩
end

set_option maxRecDepth 100000 in
set_option maxHeartbeats 1000000 in
theorem Text_any (R : Nat) (L : List Tk.Tok) (en : Int) (s : Int ⊕ List Tk.Tok) (w : World) (hA : RAt w R L en s) :
    Calls Tryz.prog 53 #[.pointer (some ⟨R, 0, none⟩)] w fun e w' => e = .returned (.string ⟨(Rd.text s).toArray⟩) ∧ ∃ k, w' = w.drewN k := by
  obtain ⟨nx, ao, cap, h1, h2, h3, h4, h5, h6⟩ := hA
  have q0 : w.cell? ⟨R, 0, none⟩ = some (.slice ao L.length cap) := by rw [Lib.cell_of_heap h4]; rfl
  have q1 : w.cell? ⟨R, 1, none⟩ = some (.int .i64 nx) := by rw [Lib.cell_of_heap h4]; rfl
  have q3 : w.cell? ⟨R, 3, none⟩ = some (.bool (Rd.bad s)) := by rw [Lib.cell_of_heap h4]; rfl
  clear h4
  cases s with
  | inl a =>
    replace q3 : w.cell? ⟨R, 3, none⟩ = some (.bool true) := q3
    clear h5 h6 h3
    go_enter Tryz.func53, Tryz.ntmps53
    go_wp2_with fail
    go_quiet (fail)
    go_wp2_with fail
    go_ret
    exact ⟨rfl, _, rfl⟩
  | inr r =>
    replace q3 : w.cell? ⟨R, 3, none⟩ = some (.bool false) := q3
    have h5 : L.drop nx = r := h5
    have ht : Rd.text (.inr r) = (Pr.hd 0 (L.drop nx)).text := by rw [h5]; rfl
    rw [hd_drop] at ht
    by_cases hlt : nx < L.length
    · rw [if_pos hlt] at ht
      rw [ht]
      rcases h6 with h | ⟨b, off, rfl, hb, hc⟩
      · rw [h] at hlt; exact absurd hlt (by simp)
      obtain ⟨a0, a1, a2⟩ := hc nx hlt
      have hd1 : decide ((L.length : Int) ≤ (nx : Int)) = false := decide_eq_false (by omega)
      clear h5 hc h3 ht
      generalize tokD L nx = x at *
      go_enter Tryz.func53, Tryz.ntmps53
      go_wp2_with fail
      go_quiet (fail)
      go_wp2_with fail
      go_quiet (fail)
      go_wp2_with fail
      go_ret
      exact ⟨rfl, _, drewN_two _ _ _⟩
    · rw [if_neg hlt] at ht
      rw [ht]
      have hd1 : decide ((L.length : Int) ≤ (nx : Int)) = true := decide_eq_true (by omega)
      clear h5 h6 h3 ht
      go_enter Tryz.func53, Tryz.ntmps53
      go_wp2_with fail
      go_quiet (fail)
      go_wp2_with fail
      go_ret
      exact ⟨rfl, _, rfl⟩

set_option maxRecDepth 100000 in
set_option maxHeartbeats 1000000 in
theorem Here_any (R : Nat) (L : List Tk.Tok) (en : Int) (s : Int ⊕ List Tk.Tok) (w : World) (hA : RAt w R L en s) :
    Calls Tryz.prog 50 #[.pointer (some ⟨R, 0, none⟩)] w fun e w' => e = .returned (.int .i64 (Rd.here en s)) ∧ ∃ k, w' = w.drewN k := by
  obtain ⟨nx, ao, cap, h1, h2, h3, h4, h5, h6⟩ := hA
  have q0 : w.cell? ⟨R, 0, none⟩ = some (.slice ao L.length cap) := by rw [Lib.cell_of_heap h4]; rfl
  have q1 : w.cell? ⟨R, 1, none⟩ = some (.int .i64 nx) := by rw [Lib.cell_of_heap h4]; rfl
  have q2 : w.cell? ⟨R, 2, none⟩ = some (.int .i64 en) := by rw [Lib.cell_of_heap h4]; rfl
  clear h4 h3
  have ht : Rd.here en s = (Pr.hd en (L.drop nx)).at_ := by
    cases s with
    | inl a => exact h5.symm
    | inr r => rw [show L.drop nx = r from h5]; rfl
  rw [ht, hd_drop]
  clear ht h5
  by_cases hlt : nx < L.length
  · rw [if_pos hlt]
    rcases h6 with h | ⟨b, off, rfl, hb, hc⟩
    · rw [h] at hlt; exact absurd hlt (by simp)
    obtain ⟨a0, a1, a2⟩ := hc nx hlt
    clear hc
    generalize tokD L nx = x at *
    go_enter Tryz.func50, Tryz.ntmps50
    go_wp2_with fail
    go_quiet (fail)
    go_wp2_with fail
    go_quiet (fail)
    go_wp2_with fail
    go_ret
    exact ⟨rfl, _, drewN_two _ _ _⟩
  · rw [if_neg hlt]
    have hd1 : decide (nx < L.length) = false := decide_eq_false hlt
    clear h6
    go_enter Tryz.func50, Tryz.ntmps50
    go_wp2_with fail
    go_quiet (fail)
    go_wp2_with fail
    go_ret
    exact ⟨rfl, _, rfl⟩

set_option maxRecDepth 100000 in
set_option maxHeartbeats 1000000 in
theorem Need_any (t : List UInt8) (ht : ¬ t = []) (R : Nat) (L : List Tk.Tok) (en : Int) (s : Int ⊕ List Tk.Tok) (w : World) (hA : RAt w R L en s) :
    Calls Tryz.prog 54 #[.pointer (some ⟨R, 0, none⟩), .string ⟨t.toArray⟩] w fun e w' => e = .returned (.tuple #[]) ∧ RAt w' R L en (Rd.need t en s) ∧ w.grownBy w' (some R) := by
  obtain ⟨nx, ao, cap, hnx, q0, q1, q2, q3, f1, f3⟩ := hA.cells
  cases s with
  | inl a =>
    replace q3 : w.cell? ⟨R, 3, none⟩ = some (.bool true) := q3
    go_enter Tryz.func54, Tryz.ntmps54
    go_wp2_with fail
    exact ⟨rfl, .tuple #[], by simp [results, Tryz.results54], rfl, hA, grownBy_of_below (Below.refl _ _) _⟩
  | inr r =>
    replace q3 : w.cell? ⟨R, 3, none⟩ = some (.bool false) := q3
    have HT := Text_any R L en (.inr r) w hA
    rw [Rd.text_hd en] at HT
    have hN : Rd.need t en (.inr r) = Pr.must t en r := rfl
    cases h : ((Pr.hd en r).text == t)
    · rw [hN, show Pr.must t en r = .inl (Pr.hd en r).at_ by unfold Pr.must; rw [h]; rfl]
      have hf : ∀ k, RAt ((w.drewN k).setCell ⟨R, 3, none⟩ (.bool true)) R L en (.inl (Pr.hd en r).at_) := fun k => RAt.fail (w := w.drewN k) (s := .inr r) hA
      generalize Pr.hd en r = x at *
      clear hN
      go_enter Tryz.func54, Tryz.ntmps54
      go_wp2_with fail
      refine HT.mono ?_
      rintro e w1 ⟨rfl, k, rfl⟩
      go_wp2_with fail
      exact ⟨rfl, .tuple #[], by simp [results, Tryz.results54], rfl, hf k, grownBy_trans (grownBy_of_below (below_drewN (Below.refl _ _) k) _) (grownBy_set _ _)⟩
    · rw [hN, show Pr.must t en r = .inr r.tail by unfold Pr.must; rw [h]; rfl]
      have hr : ¬ r = [] := hd_ne ht h
      obtain ⟨nx', _, q1', hx⟩ := hA.next hr
      obtain rfl : nx = nx' := by rw [q1] at q1'; injection q1' with e; injection e with _ e; omega
      have hf : ∀ k, RAt ((w.drewN k).setCell ⟨R, 1, none⟩ (.int .i64 ((nx : Int) + 1))) R L en (.inr r.tail) := fun k => hx
      generalize Pr.hd en r = x at *
      clear hN hx
      go_enter Tryz.func54, Tryz.ntmps54
      go_wp2_with fail
      refine HT.mono ?_
      rintro e w1 ⟨rfl, k, rfl⟩
      go_wp2_with fail
      exact ⟨rfl, .tuple #[], by simp [results, Tryz.results54], rfl, hf k, grownBy_trans (grownBy_of_below (below_drewN (Below.refl _ _) k) _) (grownBy_set _ _)⟩

end Go.Proofs.YtgpaleifhcdjnaaGreatDoor

/- What is joined is scanned as it was, and what is scanned is joined: plain lists of bytes. -/
namespace Go.Proofs.YtgpaleifhcdjnaaGreatDoor
open Go.RowKit

theorem pre_take (p : Int → Bool) (l : List UInt8) : Tk.pre p (l.take (Tk.pre p l)) = Tk.pre p l := by
  induction l with
  | nil => rfl
  | cons c r ih =>
    by_cases h : p c.toNat = true
    · rw [Tk.pre, if_pos h, List.take_succ_cons, Tk.pre, if_pos h, ih]
    · rw [Tk.pre, if_neg h]; rfl

/-- All of it is such, and what follows is not. -/
theorem pre_append (p : Int → Bool) : ∀ (t r : List UInt8), Tk.pre p t = t.length → (∀ c s, r = c :: s → p c.toNat = false) → Tk.pre p (t ++ r) = t.length := by
  intro t
  induction t with
  | nil =>
    intro r _ hr
    cases r with
    | nil => rfl
    | cons c s => rw [List.nil_append, Tk.pre, if_neg (by simp [hr c s rfl])]; rfl
  | cons c t ih =>
    intro r ht hr
    by_cases h : p c.toNat = true
    · rw [Tk.pre, if_pos h] at ht
      rw [List.cons_append, Tk.pre, if_pos h, ih r (by simpa using ht) hr]
      rfl
    · rw [Tk.pre, if_neg h] at ht
      exact absurd ht (by simp)

theorem sign_cases (c : UInt8) (r : List UInt8) : (Tk.signLen (c :: r) = 2 ∧ ∃ d s, r = d :: s ∧ ((c = 58 ∧ d = 45) ∨ (c = 60 ∧ d = 61) ∨ (c = 33 ∧ d = 61))) ∨
    (¬ (∃ d s, r = d :: s ∧ ((c = 58 ∧ d = 45) ∨ (c = 60 ∧ d = 61) ∨ (c = 33 ∧ d = 61))) ∧ Tk.signLen (c :: r) = if Tk.isSign c then 1 else 0) := by
  have key : ∀ a b : UInt8, [a, b].isPrefixOf (c :: r) = true ↔ ∃ d s, r = d :: s ∧ c = a ∧ d = b := by
    intro a b
    cases r with
    | nil => simp [List.isPrefixOf]
    | cons d s =>
      simp only [List.isPrefixOf, Bool.and_true, Bool.and_eq_true, beq_iff_eq]
      constructor
      · rintro ⟨rfl, rfl⟩; exact ⟨_, _, rfl, rfl, rfl⟩
      · rintro ⟨d', s', e, rfl, rfl⟩
        injection e with e1 _
        exact ⟨rfl, e1.symm⟩
  by_cases h : ([58, 45].isPrefixOf (c :: r) || [60, 61].isPrefixOf (c :: r) || [33, 61].isPrefixOf (c :: r)) = true
  · left
    refine ⟨by rw [Tk.signLen, if_pos h], ?_⟩
    simp only [Bool.or_eq_true] at h
    rcases h with (h | h) | h
    · obtain ⟨d, s, e, h1, h2⟩ := (key _ _).1 h; exact ⟨d, s, e, .inl ⟨h1, h2⟩⟩
    · obtain ⟨d, s, e, h1, h2⟩ := (key _ _).1 h; exact ⟨d, s, e, .inr (.inl ⟨h1, h2⟩)⟩
    · obtain ⟨d, s, e, h1, h2⟩ := (key _ _).1 h; exact ⟨d, s, e, .inr (.inr ⟨h1, h2⟩)⟩
  · right
    refine ⟨?_, by rw [Tk.signLen, if_neg h]⟩
    rintro ⟨d, s, e, h1 | h1 | h1⟩
    · exact h (by rw [(key 58 45).2 ⟨d, s, e, h1⟩]; rfl)
    · exact h (by rw [(key 60 61).2 ⟨d, s, e, h1⟩]; simp)
    · exact h (by rw [(key 33 61).2 ⟨d, s, e, h1⟩]; simp)

/-- A token stands alone as it stood in the text. -/
theorem tok_take (c : UInt8) (r : List UInt8) (he : Tk.errOf (c :: r) = 0) : Tk.isTok (Tk.kindOf (c :: r)) ((c :: r).take (Tk.lenOf (c :: r))) = true := by
  have hpos := Tk.lenOf_pos (c :: r) (by simp) he
  have hle := Tk.lenOf_le (c :: r)
  obtain ⟨n, hn⟩ : ∃ n, Tk.lenOf (c :: r) = n + 1 := ⟨Tk.lenOf (c :: r) - 1, by omega⟩
  have ht : (c :: r).take (Tk.lenOf (c :: r)) = c :: r.take n := by rw [hn, List.take_succ_cons]
  have hlt : (c :: r.take n).length = Tk.lenOf (c :: r) := by rw [← ht, List.length_take]; omega
  have hlen : Tk.lenOf (c :: r.take n) = Tk.lenOf (c :: r) := by
    rw [lenOf_cons, lenOf_cons] at *
    by_cases h1 : (Tk.small c.toNat || Tk.great c.toNat) = true
    · rw [if_pos h1] at *
      rw [if_pos h1]
      have := pre_take Tk.alnum (c :: r)
      rw [hn, List.take_succ_cons] at this
      rw [this, hn]
    · rw [if_neg h1] at *
      rw [if_neg h1]
      by_cases h2 : Tk.digit c.toNat = true
      · rw [if_pos h2] at *
        rw [if_pos h2]
        have := pre_take Tk.digit (c :: r)
        rw [hn, List.take_succ_cons] at this
        rw [this, hn]
      · rw [if_neg h2] at *
        rw [if_neg h2]
        rcases sign_cases c r with ⟨g1, d, s, rfl, g2⟩ | ⟨g1, g2⟩
        · rw [g1] at hn
          have hn1 : n = 1 := by omega
          subst hn1
          rcases sign_cases c ((d :: s).take 1) with ⟨k1, _⟩ | ⟨k1, _⟩
          · rw [k1, g1]
          · exact absurd ⟨d, [], rfl, g2⟩ k1
        · have hs : Tk.isSign c = true := by
            by_cases hs : Tk.isSign c = true
            · exact hs
            · rw [if_neg hs] at g2; omega
          rw [if_pos hs] at g2
          rw [g2] at hn
          have hn0 : n = 0 := by omega
          subst hn0
          rcases sign_cases c (r.take 0) with ⟨_, d, s, e, _⟩ | ⟨_, k2⟩
          · exact absurd e (by simp)
          · rw [k2, if_pos hs, g2]
  have herr : Tk.errOf (c :: r.take n) = 0 := by
    rw [lenOf_cons, lenOf_cons] at hlen
    rw [errOf_cons] at he ⊢
    by_cases h1 : (Tk.small c.toNat || Tk.great c.toNat) = true
    · rw [if_pos h1] at he ⊢
      rw [if_pos h1, if_pos h1] at hlen
      rw [hlen]; exact he
    · rw [if_neg h1] at he ⊢
      rw [if_neg h1, if_neg h1] at hlen
      by_cases h2 : Tk.digit c.toNat = true
      · rw [if_pos h2] at he ⊢
        rw [if_pos h2, if_pos h2] at hlen
        rw [hlen]; exact he
      · rw [if_neg h2] at he ⊢
        rw [if_neg h2, if_neg h2] at hlen
        rw [hlen]; exact he
  rw [ht]
  refine decide_eq_true ⟨by simp, ?_, herr, ?_, by rw [hlen, hlt]⟩
  · rw [hlt]
    rcases tok_cases c r with ⟨c1, cE⟩ | ⟨c1, cK, c3, cE⟩ | ⟨c1, cK, c3, cE⟩ | ⟨c1, cK, c3, cE⟩ | ⟨c1, cK, c3, c4, c5, cE⟩ | ⟨c1, cK, c3, cE⟩ | ⟨c1, cK, c3, c4, c5, cE⟩ | ⟨c1, cK, cE⟩
    · omega
    · omega
    · omega
    · omega
    · omega
    · omega
    · omega
    · have e2 := lenOf_cons c r
      have e1 := kindOf_cons c r
      rw [cK] at e1
      cases g1 : Tk.small c.toNat
      · cases g2 : Tk.great c.toNat
        · cases g3 : Tk.digit c.toNat
          · rw [g1, g2, g3] at e2
            simp only [Bool.or_self, Bool.false_eq_true, if_false] at e2
            rcases sign_cases c r with ⟨k1, _⟩ | ⟨_, k1⟩
            · omega
            · rw [k1] at e2; split at e2 <;> omega
          · rw [g1, g2, g3] at e1; simp at e1
        · rw [g1, g2] at e1; simp at e1
      · rw [g1] at e1; simp at e1
  · rw [kindOf_cons, kindOf_cons]

/-- What is scanned is a list of such tokens. -/
theorem scanP_toks (L : List UInt8) : ∀ (f p : Nat) (acc : List Tk.Tok), (Tk.scanP L f p acc).2.2 = 0 → ∃ r, (Tk.scanP L f p acc).1 = acc ++ r ∧ (r.all fun t => Tk.isTok t.kind t.text) = true := by
  intro f
  induction f with
  | zero => intro p acc _; exact ⟨[], by simp [Tk.scanP], rfl⟩
  | succ f ih =>
    intro p acc h
    rw [Tk.scanP] at h ⊢
    split
    · exact ⟨[], by simp, rfl⟩
    · rename_i h1
      rw [if_neg h1] at h
      split
      · rename_i h2
        rw [if_pos h2] at h
        obtain ⟨r, hr, ha⟩ := ih _ _ h
        refine ⟨Tk.tokAt L p :: r, by rw [hr]; simp, ?_⟩
        rw [List.all_cons, ha, Bool.and_true]
        have hd := Tk.drop_cons L p (by omega)
        rw [hd] at h2
        show Tk.isTok (Tk.kindOf (L.drop p)) ((L.drop p).take (Tk.lenOf (L.drop p))) = true
        rw [hd]
        exact tok_take _ _ h2
      · rename_i h2
        rw [if_neg h2] at h
        exact absurd h h2
theorem scan_toks (L : List UInt8) (h : (Tk.scan L).2.2 = 0) : Tk.allTok (Tk.scan L).1 (Tk.scan L).1.length = true := by
  unfold Tk.allTok
  rw [List.take_length]
  unfold Tk.scan at h ⊢
  split
  · rfl
  · rename_i h1
    rw [if_neg h1] at h
    obtain ⟨r, hr, ha⟩ := scanP_toks L _ _ _ h
    rw [hr, List.nil_append]
    exact ha

/-- A token with nothing, or a blank, behind it. -/
theorem tok_blank (t r : List UInt8) (k : Int) (h : Tk.isTok k t = true) (hr : ∀ c s, r = c :: s → c = 32) :
    Tk.errOf (t ++ r) = 0 ∧ Tk.kindOf (t ++ r) = k ∧ Tk.lenOf (t ++ r) = t.length ∧ Tk.sep false (t ++ r) = 0 := by
  have h := of_decide_eq_true h
  obtain ⟨h1, h2, h3, h4, h5⟩ := h
  match t, h1 with
  | c :: q, _ =>
    have hp : ∀ p : Int → Bool, p 32 = false → ∀ c s, r = c :: s → p c.toNat = false := fun p hp c s e => by rw [hr c s e]; exact hp
    have hk : Tk.kindOf (c :: (q ++ r)) = k := by rw [kindOf_cons]; rw [kindOf_cons] at h4; exact h4
    have hlen : Tk.lenOf (c :: (q ++ r)) = (c :: q).length := by
      rw [lenOf_cons] at h5 ⊢
      by_cases g1 : (Tk.small c.toNat || Tk.great c.toNat) = true
      · rw [if_pos g1] at h5 ⊢
        exact pre_append Tk.alnum (c :: q) r h5 (hp _ rfl)
      · rw [if_neg g1] at h5 ⊢
        by_cases g2 : Tk.digit c.toNat = true
        · rw [if_pos g2] at h5 ⊢
          exact pre_append Tk.digit (c :: q) r h5 (hp _ rfl)
        · rw [if_neg g2] at h5 ⊢
          rcases sign_cases c q with ⟨k1, d, s, rfl, k2⟩ | ⟨k1, k2⟩
          · rcases sign_cases c (d :: s ++ r) with ⟨m1, _⟩ | ⟨m1, _⟩
            · rw [m1, ← h5, k1]
            · exact absurd ⟨d, s ++ r, rfl, k2⟩ m1
          · have hl : 1 ≤ (c :: q).length := by simp
            have hs : Tk.isSign c = true := by
              by_cases hs : Tk.isSign c = true
              · exact hs
              · rw [if_neg hs] at k2; omega
            rw [if_pos hs] at k2
            rw [k2] at h5
            have hq : q = [] := List.eq_nil_of_length_eq_zero (by simpa using h5.symm)
            subst hq
            rcases sign_cases c ([] ++ r) with ⟨_, d, s, e, m2⟩ | ⟨_, m2⟩
            · have hd : d = 32 := hr d s (by simpa using e)
              subst hd
              rcases m2 with ⟨_, m⟩ | ⟨_, m⟩ | ⟨_, m⟩
              · exact absurd m (by decide)
              · exact absurd m (by decide)
              · exact absurd m (by decide)
            · rw [m2, if_pos hs]; rfl
    have herr : Tk.errOf (c :: (q ++ r)) = 0 := by
      rw [lenOf_cons] at hlen
      rw [lenOf_cons] at h5
      rw [errOf_cons] at h3 ⊢
      by_cases g1 : (Tk.small c.toNat || Tk.great c.toNat) = true
      · rw [if_pos g1] at h3 ⊢
        rw [if_pos g1] at hlen h5
        rw [hlen, ← h5]; exact h3
      · rw [if_neg g1] at h3 ⊢
        rw [if_neg g1] at hlen h5
        by_cases g2 : Tk.digit c.toNat = true
        · rw [if_pos g2] at h3 ⊢
          rw [if_pos g2] at hlen h5
          rw [hlen, ← h5]; exact h3
        · rw [if_neg g2] at h3 ⊢
          rw [if_neg g2] at hlen h5
          rw [hlen, ← h5]; exact h3
    exact ⟨herr, hk, hlen, sep_zero _ _ herr⟩

/-- The texts of tokens, a blank between, from the front. -/
def jn : List Tk.Tok → List UInt8
  | [] => []
  | t :: r => t.text ++ (match r with | [] => [] | _ :: _ => 32 :: jn r)

theorem jn_one (t : Tk.Tok) : jn [t] = t.text := by simp [jn]
theorem jn_more (t u : Tk.Tok) (r : List Tk.Tok) : jn (t :: u :: r) = t.text ++ 32 :: jn (u :: r) := by rw [jn]

theorem jn_snoc : ∀ (l : List Tk.Tok) (t : Tk.Tok), jn (l ++ [t]) = (if l = [] then [] else jn l ++ [32]) ++ t.text := by
  intro l
  induction l with
  | nil => intro t; simp [jn]
  | cons x l ih =>
    intro t
    cases l with
    | nil => simp [jn]
    | cons y l =>
      have := ih t
      rw [if_neg (by simp)] at this ⊢
      rw [List.cons_append, List.cons_append, jn_more, ← List.cons_append, this, jn_more]
      simp

theorem joinTo_jn (l : List Tk.Tok) : ∀ k, k ≤ l.length → Tk.joinTo l k = jn (l.take k) := by
  intro k
  induction k with
  | zero => intro _; rfl
  | succ k ih =>
    intro hk
    have e : tokD l k = l[k]'(by omega) := by rw [tokD, List.getD_eq_getElem?_getD, List.getElem?_eq_getElem (by omega)]; rfl
    rw [List.take_succ_eq_append_getElem (by omega), jn_snoc, Tk.joinTo, ih (by omega), e]
    by_cases h0 : k = 0
    · subst h0; simp
    · rw [if_neg h0, if_neg]
      intro hn
      have := congrArg List.length hn
      rw [List.length_take, List.length_nil] at this
      omega

/-- What is joined is scanned as it was. -/
theorem scan_jn (L : List UInt8) : ∀ (l : List Tk.Tok), (l.all fun t => Tk.isTok t.kind t.text) = true → ∀ (f p : Nat) (acc : List Tk.Tok), L.drop p = jn l → L.length ≤ p + f → ∃ m, Tk.scanP L f p acc = (acc ++ m, 0, 0) ∧ Tk.same false l m = true := by
  intro l
  induction l with
  | nil =>
    intro _ f p acc hd _
    have hl : L.length ≤ p := by
      have := congrArg List.length hd
      rw [List.length_drop] at this
      simp [jn] at this
      omega
    exact ⟨[], by rw [Tk.scanP_end _ _ _ _ hl, List.append_nil], rfl⟩
  | cons t l ih =>
    intro ha f p acc hd hf
    rw [List.all_cons, Bool.and_eq_true] at ha
    obtain ⟨r, hr, hr32, hnext⟩ : ∃ r, jn (t :: l) = t.text ++ r ∧ (∀ c s, r = c :: s → c = 32) ∧ (l = [] ∧ r = [] ∨ r = 32 :: jn l ∧ l ≠ []) := by
      cases l with
      | nil => exact ⟨[], by simp [jn], fun c s e => (by cases e), .inl ⟨rfl, rfl⟩⟩
      | cons u l => exact ⟨32 :: jn (u :: l), jn_more t u l, fun c s e => (by injection e with e1 _; exact e1.symm), .inr ⟨rfl, by simp⟩⟩
    obtain ⟨b1, b2, b3, b4⟩ := tok_blank t.text r t.kind ha.1 hr32
    rw [hr] at hd
    have hpos : 1 ≤ t.text.length := by
      have := of_decide_eq_true ha.1
      rcases hh : t.text with _ | ⟨c, q⟩
      · exact absurd hh this.1
      · simp
    have hlen : L.length = p + t.text.length + r.length := by
      have := congrArg List.length hd
      rw [List.length_drop, List.length_append] at this
      omega
    obtain ⟨f, rfl⟩ : ∃ f', f = f' + 1 := ⟨f - 1, by omega⟩
    have hlt : p < L.length := by omega
    rw [← hd] at b1 b2 b3
    rw [Tk.scanP_yes L f p acc hlt b1, b3]
    have hdr : L.drop (p + t.text.length) = r := by
      rw [← List.drop_drop, hd, List.drop_left]
    have htok : Tk.tokAt L p = ⟨t.kind, p, t.text⟩ := by
      unfold Tk.tokAt
      rw [b2, b3, hd, List.take_left]
    rw [hdr, htok]
    have hone : Tk.sameOne false t ⟨t.kind, p, t.text⟩ = true := by simp [Tk.sameOne]
    rcases hnext with ⟨rfl, rfl⟩ | ⟨rfl, hne⟩
    · have hs0 : Tk.sep false [] = 0 := rfl
      rw [hs0, Tk.scanP_end _ _ _ _ (by rw [hlen]; simp)]
      exact ⟨[⟨t.kind, p, t.text⟩], rfl, by rw [Tk.same, hone]; rfl⟩
    · have hsep : Tk.sep false (32 :: jn l) = 1 := by
        rw [Tk.sep, if_neg (by decide), if_pos (by decide)]
        have : Tk.sep false (jn l) = 0 := by
          cases l with
          | nil => exact absurd rfl hne
          | cons u l =>
            rw [List.all_cons, Bool.and_eq_true] at ha
            obtain ⟨r', hr', hr32'⟩ : ∃ r, jn (u :: l) = u.text ++ r ∧ (∀ c s, r = c :: s → c = 32) := by
              cases l with
              | nil => exact ⟨[], by simp [jn], fun c s e => by cases e⟩
              | cons v l => exact ⟨32 :: jn (v :: l), jn_more u v l, fun c s e => by injection e with e1 _; exact e1.symm⟩
            rw [hr']
            exact (tok_blank u.text r' u.kind ha.2.1 hr32').2.2.2
        rw [this]
      rw [hsep]
      have hdr2 : L.drop (p + t.text.length + 1) = jn l := by
        rw [← List.drop_drop, hdr]; rfl
      obtain ⟨m, hm, hsame⟩ := ih ha.2 f (p + t.text.length + 1) (acc ++ [⟨t.kind, p, t.text⟩]) hdr2 (by omega)
      refine ⟨⟨t.kind, p, t.text⟩ :: m, by rw [hm]; simp, ?_⟩
      rw [Tk.same, hone, hsame]
      rfl

/-- Join, then Scan. -/
theorem join_scan (l : List Tk.Tok) (h : (Tk.join l).2 = 0) : (Tk.scan (Tk.join l).1).2.2 = 0 ∧ Tk.same false l (Tk.scan (Tk.join l).1).1 = true := by
  unfold Tk.join at h ⊢
  by_cases h1 : Tk.allTok l l.length = true
  · rw [if_pos h1] at h ⊢
    by_cases h2 : 5000 < (Tk.joinTo l l.length).length
    · rw [if_pos h2] at h; exact absurd h (by decide)
    · rw [if_neg h2]
      show (Tk.scan (Tk.joinTo l l.length)).2.2 = 0 ∧ Tk.same false l (Tk.scan (Tk.joinTo l l.length)).1 = true
      have hall : (l.all fun t => Tk.isTok t.kind t.text) = true := by
        unfold Tk.allTok at h1; rw [List.take_length] at h1; exact h1
      have hj : Tk.joinTo l l.length = jn l := by rw [joinTo_jn l l.length (Nat.le_refl _), List.take_length]
      rw [hj] at h2 ⊢
      have hsep : Tk.sep false (jn l) = 0 := by
        cases l with
        | nil => rfl
        | cons u l =>
          rw [List.all_cons, Bool.and_eq_true] at hall
          obtain ⟨r', hr', hr32'⟩ : ∃ r, jn (u :: l) = u.text ++ r ∧ (∀ c s, r = c :: s → c = 32) := by
            cases l with
            | nil => exact ⟨[], by simp [jn], fun c s e => by cases e⟩
            | cons v l => exact ⟨32 :: jn (v :: l), jn_more u v l, fun c s e => by injection e with e1 _; exact e1.symm⟩
          rw [hr']
          exact (tok_blank u.text r' u.kind hall.1 hr32').2.2.2
      obtain ⟨m, hm, hs⟩ := scan_jn (jn l) l hall (jn l).length 0 [] rfl (by omega)
      have hsc : Tk.scan (jn l) = (m, 0, 0) := by
        unfold Tk.scan
        rw [if_neg h2, hsep, hm]
        rfl
      rw [hsc]
      exact ⟨rfl, hs⟩
  · rw [if_neg h1] at h; exact absurd h (by decide)

/-- What is scanned is joined, if it is not too long. -/
theorem scan_join (L : List UInt8) (h : (Tk.scan L).2.2 = 0) (h2 : ¬ (Tk.join (Tk.scan L).1).2 = 0) : (Tk.join (Tk.scan L).1).2 = 2 := by
  have ha := scan_toks L h
  unfold Tk.join at h2 ⊢
  rw [if_pos ha] at h2 ⊢
  by_cases h3 : 5000 < (Tk.joinTo (Tk.scan L).1 (Tk.scan L).1.length).length
  · rw [if_pos h3]
  · rw [if_neg h3] at h2; exact absurd rfl h2

end Go.Proofs.YtgpaleifhcdjnaaGreatDoor

/- The document's reader: names and terms. -/
namespace Go.Proofs.YtgpaleifhcdjnaaGreatDoor
open Go.RowKit

theorem good_first {t : Tk.Tok} (h : Tk.Good t) : ∃ c l, t.text = c :: l ∧ t.kind = Tk.kindOf [c] := by
  obtain ⟨l0, hne, he, h1, h2⟩ := h
  match l0, hne with
  | c :: r, _ =>
    have hp := Tk.lenOf_pos (c :: r) (by simp) he
    obtain ⟨k, hk⟩ : ∃ k, Tk.lenOf (c :: r) = k + 1 := ⟨Tk.lenOf (c :: r) - 1, by omega⟩
    exact ⟨c, r.take k, by rw [h2, hk, List.take_succ_cons], h1⟩
theorem good_isTok {t : Tk.Tok} (h : Tk.Good t) (k : Int) : Tk.isTok k t.text = (t.kind == k) := by
  obtain ⟨l0, hne, he, h1, h2⟩ := h
  match l0, hne with
  | c :: r, _ =>
    have hT := tok_take c r he
    rw [← h1, ← h2] at hT
    cases hk : (t.kind == k)
    · have hne : ¬ t.kind = k := by intro e; rw [e] at hk; simp at hk
      unfold Tk.isTok at hT ⊢
      have hT := of_decide_eq_true hT
      exact decide_eq_false fun g => hne (hT.2.2.2.1.symm.trans g.2.2.2.1)
    · rw [← eq_of_beq hk]; exact hT
theorem kind_first (c : UInt8) : (Tk.kindOf [c] == 1) = Tk.small c.toNat ∧ (Tk.kindOf [c] == 2) = Tk.great c.toNat ∧ (Tk.kindOf [c] == 3) = Tk.digit c.toNat := by
  unfold Tk.kindOf
  simp only
  cases hs : Tk.small c.toNat
  · cases hg : Tk.great c.toNat
    · cases hd : Tk.digit c.toNat <;> simp
    · have hd : Tk.digit c.toNat = false := by
        unfold Tk.great at hg; unfold Tk.digit
        simp only [Bool.and_eq_true, decide_eq_true_eq] at hg
        simp; omega
      simp [hd]
  · have hg : Tk.great c.toNat = false := by
      unfold Tk.small at hs; unfold Tk.great
      simp only [Bool.and_eq_true, decide_eq_true_eq] at hs
      simp; omega
    have hd : Tk.digit c.toNat = false := by
      unfold Tk.small at hs; unfold Tk.digit
      simp only [Bool.and_eq_true, decide_eq_true_eq] at hs
      simp; omega
    simp [hg, hd]
/-- What the next token's first byte tells. -/
theorem hd_first {r : List Tk.Tok} (en : Int) (hg : ∀ t ∈ r, Tk.Good t) (hr : ¬ r = []) :
    ∃ c l, (Pr.hd en r).text = c :: l ∧ ((Pr.hd en r).kind == 1) = Tk.small c.toNat ∧ ((Pr.hd en r).kind == 2) = Tk.great c.toNat ∧ ((Pr.hd en r).kind == 3) = Tk.digit c.toNat := by
  cases r with
  | nil => exact absurd rfl hr
  | cons t r =>
    obtain ⟨c, l, h1, h2⟩ := good_first (hg t List.mem_cons_self)
    obtain ⟨k1, k2, k3⟩ := kind_first c
    refine ⟨c, l, h1, ?_, ?_, ?_⟩
    · show (t.kind == 1) = _; rw [h2, k1]
    · show (t.kind == 2) = _; rw [h2, k2]
    · show (t.kind == 3) = _; rw [h2, k3]
theorem hd_name {r : List Tk.Tok} (en : Int) (hg : ∀ t ∈ r, Tk.Good t) : Tr.isName (Pr.hd en r).text = (((Pr.hd en r).kind == 1) && !Tr.isWord (Pr.hd en r).text) := by
  unfold Tr.isName
  cases r with
  | nil => rfl
  | cons t r => show (Tk.isTok 1 t.text && _) = ((t.kind == 1) && _); rw [good_isTok (hg t List.mem_cons_self)]

set_option maxRecDepth 100000 in
set_option maxHeartbeats 1000000 in
theorem Name_any (R : Nat) (L : List Tk.Tok) (en : Int) (s : Int ⊕ List Tk.Tok) (w : World) (hA : RAt w R L en s) :
    Calls Tryz.prog 51 #[.pointer (some ⟨R, 0, none⟩)] w fun e w' => ∃ nm s', e = .returned (.string ⟨nm.toArray⟩) ∧ Rd.Ends (Rd.on (Pr.name en) s) nm s' ∧ RAt w' R L en s' ∧ w.grownBy w' (some R) := by
  obtain ⟨nx, ao, cap, hnx, q0, q1, q2, q3, f1, f3⟩ := hA.cells
  have HT := Text_any R L en s w hA
  have HN : Hid (∀ w, Calls Tryz.prog 27 #[.string ⟨(Rd.text s).toArray⟩] w fun e w' => e = .returned (.bool (Tr.isName (Rd.text s))) ∧ w' = w) := fun w => refName_any _ w
  have HF : Hid (∀ k, RAt ((w.drewN k).setCell ⟨R, 3, none⟩ (.bool true)) R L en (.inl (Rd.here en s))) := fun k => RAt.fail (w := w.drewN k) hA
  cases hn : Tr.isName (Rd.text s)
  · have HE : Hid (Rd.Ends (Rd.on (Pr.name en) s) [] (.inl (Rd.here en s))) := by
      cases s with
      | inl a => exact rfl
      | inr r =>
        show Rd.Ends (Pr.name en r) [] _
        rw [Rd.text_hd en, hd_name en hA.good] at hn
        unfold Pr.name
        rw [hn]
        exact rfl
    rw [hn] at HN
    clear hn
    generalize Rd.text s = t at *
    go_enter Tryz.func51, Tryz.ntmps51
    go_wp2_with fail
    refine HT.mono ?_
    rintro e w1 ⟨rfl, k, rfl⟩
    go_wp2_with fail
    refine Calls.mono (HN.out _) ?_
    rintro e w2 ⟨rfl, rfl⟩
    go_wp2_with fail
    go_ret
    exact ⟨[], _, rfl, HE.out, HF.out k, grownBy_trans (grownBy_of_below (below_drewN (Below.refl _ _) k) _) (grownBy_set _ _)⟩
  · cases s with
    | inl a => exact absurd (show Tr.isName [] = true from hn) (by decide)
    | inr r =>
      have hr : ¬ r = [] := by rintro rfl; exact absurd hn (by decide)
      have HE : Hid (Rd.Ends (Rd.on (Pr.name en) (.inr r)) (Rd.text (.inr r)) (.inr r.tail)) := by
        show Rd.Ends (Pr.name en r) _ _
        have h2 := hn
        rw [Rd.text_hd en, hd_name en hA.good] at h2
        unfold Pr.name
        rw [h2, Rd.text_hd en]
        exact ⟨rfl, rfl⟩
      obtain ⟨nx', _, q1', hx⟩ := hA.next hr
      obtain rfl : nx = nx' := by rw [q1] at q1'; injection q1' with e; injection e with _ e; omega
      have HX : Hid (∀ k, RAt ((w.drewN k).setCell ⟨R, 1, none⟩ (.int .i64 ((nx : Int) + 1))) R L en (.inr r.tail)) := fun k => hx
      rw [hn] at HN
      clear hn hx HF
      generalize Rd.text (.inr r) = t at *
      go_enter Tryz.func51, Tryz.ntmps51
      go_wp2_with fail
      refine HT.mono ?_
      rintro e w1 ⟨rfl, k, rfl⟩
      go_wp2_with fail
      refine Calls.mono (HN.out _) ?_
      rintro e w2 ⟨rfl, rfl⟩
      go_wp2_with fail
      go_ret
      exact ⟨t, _, rfl, HE.out, HX.out k, grownBy_trans (grownBy_of_below (below_drewN (Below.refl _ _) k) _) (grownBy_set _ _)⟩

theorem wrap_byte (c : UInt8) : wrap64 (c.toNat : Int) = (c.toNat : Int) := by
  have := UInt8.toNat_lt c
  unfold wrap64; omega
theorem great_at (c : UInt8) (l : List UInt8) (w : World) (h : 0 < ({ data := (c :: l).toArray } : ByteArray).size) : Calls Tryz.prog 26 #[.int .i64 (wrap64 ((({ data := (c :: l).toArray } : ByteArray)[0]'h).toNat : Int)), .int .i64 65, .int .i64 90] w fun e w' => e = .returned (.bool (Tk.great c.toNat)) ∧ w' = w := by
  rw [show (((({ data := (c :: l).toArray } : ByteArray)[0]'h).toNat : Nat) : Int) = (c.toNat : Int) from rfl, wrap_byte]
  exact between_any _ _ _ w
theorem digit_at (c : UInt8) (l : List UInt8) (w : World) (h : 0 < ({ data := (c :: l).toArray } : ByteArray).size) : Calls Tryz.prog 115 #[.int .u8 ((({ data := (c :: l).toArray } : ByteArray)[0]'h).toNat : Int)] w fun e w' => e = .returned (.bool (Tk.digit c.toNat)) ∧ w' = w := by
  rw [show (((({ data := (c :: l).toArray } : ByteArray)[0]'h).toNat : Nat) : Int) = (c.toNat : Int) from rfl]
  have := UInt8.toNat_lt c
  exact refDigit_any _ w (by omega) (by omega)

theorem hd_num {r : List Tk.Tok} (en : Int) (hg : ∀ t ∈ r, Tk.Good t) (hk : ((Pr.hd en r).kind == 3) = true) : (∃ c l, (Pr.hd en r).text = c :: l) ∧ (Pr.hd en r).text.length ≤ 7 ∧ ∀ b ∈ (Pr.hd en r).text, Tk.digit (b.toNat : Int) = true := by
  cases r with
  | nil => exact absurd (show ((0 : Int) == 3) = true from hk) (by decide)
  | cons t r => exact (hg t List.mem_cons_self).number (eq_of_beq (show (t.kind == 3) = true from hk))
theorem dec_small {T : List UInt8} {k m : Nat} (h : Lib.decFrom 0 (T.take k) = some m) (h7 : T.length ≤ 7) : m < 10000000 := by
  have h1 := Lib.decFrom_lt _ _ _ h
  have h2 : (T.take k).length ≤ 7 := by rw [List.length_take]; omega
  have h3 : 10 ^ (T.take k).length ≤ 10 ^ 7 := Nat.pow_le_pow_right (by decide) h2
  omega
theorem num_digits {c : UInt8} {l : List UInt8} (h : ∀ b ∈ c :: l, Tk.digit (b.toNat : Int) = true) : ∃ D : Nat, Lib.decFrom 0 (c :: l) = some D ∧ Pr.num (c :: l) = (D : Int) := by
  obtain ⟨n, h1, h2⟩ := Tk.atoi_digits h
  exact ⟨n, h1, by unfold Pr.num; rw [h2]; rfl⟩
/-- One digit more. -/
theorem dec_step {T : List UInt8} {k m : Nat} (h : ∀ b ∈ T, Tk.digit (b.toNat : Int) = true) (hk : k < T.length) (hm : Lib.decFrom 0 (T.take k) = some m) :
    ∃ d : Nat, d ≤ 9 ∧ (∀ h2 : k < ({ data := T.toArray } : ByteArray).size, ((({ data := T.toArray } : ByteArray)[k]'h2).toNat : Int) = (d : Int) + 48) ∧ Lib.decFrom 0 (T.take (k + 1)) = some (m * 10 + d) := by
  have hb := h T[k] (List.getElem_mem hk)
  unfold Tk.digit at hb
  simp only [Bool.and_eq_true, decide_eq_true_eq] at hb
  have hv : Lib.digitVal T[k] = some (T[k].toNat - 48) := by unfold Lib.digitVal; rw [if_pos (by omega)]
  refine ⟨T[k].toNat - 48, by omega, fun h2 => ?_, Lib.decFrom_take T k 0 m T[k] _ hm (List.getElem?_eq_getElem hk) hv⟩
  have : (({ data := T.toArray } : ByteArray)[k]'h2) = T[k] := rfl
  rw [this]
  omega

/-- What stands behind the sign. -/
def Rd.fin (sg : Int) (en : Int) (r : List Tk.Tok) : Int ⊕ (Tr.Term × List Tk.Tok) :=
  if decide (sg < 0) && ((Pr.hd en r).text == [48]) then .inl (Pr.hd en r).at_ else if (Pr.hd en r).kind == 3 then .inr (⟨[], sg * Pr.num (Pr.hd en r).text⟩, r.tail) else .inl (Pr.hd en r).at_

theorem term_fin {en : Int} {r : List Tk.Tok} (h2 : ((Pr.hd en r).kind == 2) = false) (hm : ((Pr.hd en r).text == [45]) = false) : Pr.term en r = Rd.fin 1 en r := by
  unfold Pr.term Rd.fin Pr.must
  rw [h2, hm]
  cases h3 : ((Pr.hd en r).kind == 3)
  · simp
  · simp
theorem term_minus {en : Int} {r : List Tk.Tok} (h2 : ((Pr.hd en r).kind == 2) = false) (h3 : ((Pr.hd en r).kind == 3) = false) (hm : ((Pr.hd en r).text == [45]) = true) : Pr.term en r = Rd.fin (-1) en r.tail := by
  unfold Pr.term Rd.fin Pr.must Pr.neg Pr.number
  rw [h2, h3, hm]
  simp only [Bool.false_eq_true, if_false, if_true]
  cases h0 : ((Pr.hd en r.tail).text == [48])
  · cases hk : ((Pr.hd en r.tail).kind == 3)
    · simp
    · simp
  · simp

set_option maxRecDepth 100000 in
set_option maxHeartbeats 2000000 in
theorem Term_any (R : Nat) (L : List Tk.Tok) (en : Int) (s : Int ⊕ List Tk.Tok) (w : World) (hA : RAt w R L en s) :
    Calls Tryz.prog 87 #[.pointer (some ⟨R, 0, none⟩)] w fun e w' => ∃ t s', e = .returned (termVal t) ∧ Rd.Ends (Rd.on (Pr.term en) s) t s' ∧ RAt w' R L en s' ∧ w.grownBy w' (some R) := by
  have hlt := hA.lt
  have hA0 := hA.below ((Below.refl _ _).alloc (Nat.le_refl _) termObj)
  have HT := Text_any R L en s (w.alloc termObj) hA0
  generalize hX : Rd.on (Pr.term en) s = X
  have HX : Hid _ := hX
  clear hX
  go_enter Tryz.func87, Tryz.ntmps87
  go_wp2_with fail
  refine HT.mono ?_
  rintro e w1 ⟨rfl, k, hw1⟩
  have hb0 : Below (w.alloc termObj).heap.size (w.alloc termObj) w1 := by rw [hw1]; exact below_drewN (Below.refl _ _) k
  obtain ⟨c0, c1, f0, f1, hb, hsz⟩ := fresh2 hb0
  have hA1 := hA.below hb
  clear hb0 hw1 HT hA0 hA
  obtain ⟨nx, ao, cap, hnx, q0, q1, q2, q3, g1, g3⟩ := hA1.cells
  by_cases hv : ∃ r, s = .inr r ∧ ((Pr.hd en r).kind == 2) = true
  · obtain ⟨r, rfl, hk2⟩ := hv
    have hr : ¬ r = [] := by rintro rfl; exact absurd (show ((0 : Int) == 2) = true from hk2) (by decide)
    obtain ⟨cc, l, ht, _, hg2, _⟩ := hd_first en hA1.good hr
    rw [hk2] at hg2
    replace hg2 := hg2.symm
    have HE : Hid (Rd.Ends X (⟨(Pr.hd en r).text, 0⟩ : Tr.Term) (.inr r.tail)) := by
      rw [← HX.out]
      show Rd.Ends (Pr.term en r) _ _
      unfold Pr.term
      rw [hk2]
      exact ⟨rfl, rfl⟩
    obtain ⟨nx', _, q1', hx⟩ := hA1.next hr
    obtain rfl : nx = nx' := by rw [q1] at q1'; injection q1' with e; injection e with _ e; omega
    rw [Rd.text_hd en, ht]
    rw [ht] at HE
    have HX2 : Hid (RAt (w1.setCell ⟨R, 1, none⟩ (.int .i64 ((nx : Int) + 1))) R L en (.inr r.tail)) := hx
    have HG : Hid (∀ w (h : 0 < ({ data := (cc :: l).toArray } : ByteArray).size), Calls Tryz.prog 26 #[.int .i64 (wrap64 ((({ data := (cc :: l).toArray } : ByteArray)[0]'h).toNat : Int)), .int .i64 65, .int .i64 90] w fun e w' => e = .returned (.bool true) ∧ w' = w) := by
      intro w h
      have := great_at cc l w h
      rw [hg2] at this
      exact this
    have hne : ¬ w.heap.size = R := by omega
    have hne' : ¬ R = w.heap.size := by omega
    clear HX hx hg2 hk2 ht
    go_wp2_with fail
    refine Calls.mono (HG.out _ _) ?_
    rintro e w2 ⟨rfl, rfl⟩
    go_wp2_with fail
    refine bodyPost_ret (v := termVal ⟨cc :: l, 0⟩) (by simp [results, Tryz.results87, go_sem, c0, c1, termVal]) rfl ⟨_, _, rfl, HE.out, ((show RAt _ R L en (.inr r.tail) from HX2.out).set hlt _ _).set hlt _ _, ?_⟩
    exact grownBy_new (grownBy_new (grownBy_trans (grownBy_of_below hb _) (grownBy_set _ _)) (Nat.le_refl _) _ _) (Nat.le_refl _) _ _
  · -- behind the sign
    have hnov : ∀ r, s = .inr r → ((Pr.hd en r).kind == 2) = false := fun r h => by
      cases hk : ((Pr.hd en r).kind == 2)
      · rfl
      · exact absurd ⟨r, h, hk⟩ hv
    have hgr : w.grownBy w1 (some R) := grownBy_of_below hb _
    have hne : ¬ w.heap.size = R := by omega
    have hne' : ¬ R = w.heap.size := by omega
    have HFL : Hid (RAt (w1.setCell ⟨R, 3, none⟩ (.bool true)) R L en (.inl (Rd.here en s))) := hA1.fail
    clear hv hb
    by_cases hemp : Rd.text s = []
    · have HE : Hid (Rd.Ends X (⟨[], 0⟩ : Tr.Term) (.inl (Rd.here en s))) := by
        rw [← HX.out]
        cases s with
        | inl a => exact rfl
        | inr r =>
          have hr : r = [] := by
            by_cases h : r = []
            · exact h
            · obtain ⟨cc, l, ht, _⟩ := hd_first en hA1.good h
              rw [Rd.text_hd en, ht] at hemp
              exact absurd hemp (by simp)
          subst hr
          exact rfl
      rw [hemp]
      clear HX hnov
      go_wp2_with fail
      refine bodyPost_ret (v := termVal ⟨[], 0⟩) (by simp [results, Tryz.results87, go_sem, c0, c1, termVal]) rfl ⟨_, _, rfl, HE.out, ((show RAt _ R L en (.inl (Rd.here en s)) from HFL.out).set hlt _ _).set hlt _ _, ?_⟩
      exact grownBy_new (grownBy_new (grownBy_trans hgr (grownBy_set _ _)) (Nat.le_refl _) _ _) (Nat.le_refl _) _ _
    · obtain ⟨r, rfl⟩ : ∃ r, s = .inr r := by
        cases s with
        | inl a => exact absurd rfl hemp
        | inr r => exact ⟨r, rfl⟩
      have hk2 := hnov r rfl
      have hr : ¬ r = [] := by rintro rfl; exact hemp rfl
      have hgd1 := hA1.good
      obtain ⟨cc, l, ht, _, hg2, hg3⟩ := hd_first en hgd1 hr
      rw [hk2] at hg2
      replace hg2 := hg2.symm
      have HG : Hid (∀ w (h : 0 < ({ data := (cc :: l).toArray } : ByteArray).size), Calls Tryz.prog 26 #[.int .i64 (wrap64 ((({ data := (cc :: l).toArray } : ByteArray)[0]'h).toNat : Int)), .int .i64 65, .int .i64 90] w fun e w' => e = .returned (.bool false) ∧ w' = w) := by
        intro w h
        have := great_at cc l w h
        rw [hg2] at this
        exact this
      have HDG : Hid (∀ w (h : 0 < ({ data := (cc :: l).toArray } : ByteArray).size), Calls Tryz.prog 115 #[.int .u8 ((({ data := (cc :: l).toArray } : ByteArray)[0]'h).toNat : Int)] w fun e w' => e = .returned (.bool (Tk.digit cc.toNat)) ∧ w' = w) := fun w h => digit_at cc l w h
      rw [Rd.text_hd en, ht]
      cases hm : ((cc :: l) == [45])
      · have HFIN : Hid (Pr.term en r = Rd.fin 1 en r) := term_fin hk2 (by rw [ht]; exact hm)
        cases hk3 : ((Pr.hd en r).kind == 3)
        · have HE : Hid (Rd.Ends X (⟨[], 0⟩ : Tr.Term) (.inl (Rd.here en (.inr r)))) := by
            rw [← HX.out]
            show Rd.Ends (Pr.term en r) _ _
            rw [HFIN.out]
            unfold Rd.fin
            rw [hk3]
            exact rfl
          rw [← hg3, hk3] at HDG
          clear HX HFIN hnov hk2 hk3 hg2 hg3 ht hemp
          go_wp2_with fail
          refine Calls.mono (HG.out _ _) ?_
          rintro e w2 ⟨rfl, rfl⟩
          go_wp2_with fail
          refine Calls.mono (HDG.out _ _) ?_
          rintro e w3 ⟨rfl, rfl⟩
          go_wp2_with fail
          refine bodyPost_ret (v := termVal ⟨[], 0⟩) (by simp [results, Tryz.results87, go_sem, c0, c1, termVal]) rfl ⟨_, _, rfl, HE.out, ((show RAt _ R L en (.inl (Rd.here en (.inr r))) from HFL.out).set hlt _ _).set hlt _ _, ?_⟩
          exact grownBy_new (grownBy_new (grownBy_trans hgr (grownBy_set _ _)) (Nat.le_refl _) _ _) (Nat.le_refl _) _ _
        · rw [← hg3, hk3] at HDG
          go_wp2_with fail
          refine Calls.mono (HG.out _ _) ?_
          rintro e w2 ⟨rfl, rfl⟩
          go_wp2_with fail
          refine Calls.mono (HDG.out _ _) ?_
          rintro e w3 ⟨rfl, rfl⟩
          have hdig := hd_num en hgd1 hk3
          rw [ht] at hdig
          obtain ⟨_, h7, hdg⟩ := hdig
          obtain ⟨D, hD, hnum⟩ := num_digits hdg
          have hD7 : D < 10000000 := dec_small (k := (cc :: l).length) (by rw [List.take_length]; exact hD) h7
          have HE : Hid (Rd.Ends X (⟨[], 1 * (D : Int)⟩ : Tr.Term) (.inr r.tail)) := by
            rw [← HX.out]
            show Rd.Ends (Pr.term en r) _ _
            rw [HFIN.out]
            unfold Rd.fin
            rw [hk3, ht, hnum]
            exact ⟨rfl, rfl⟩
          obtain ⟨nx', _, q1', hx⟩ := hA1.next hr
          obtain rfl : nx = nx' := by rw [q1] at q1'; injection q1' with e; injection e with _ e; omega
          have HX2 : Hid (RAt (w3.setCell ⟨R, 1, none⟩ (.int .i64 ((nx : Int) + 1))) R L en (.inr r.tail)) := hx
          clear HX hx HFIN hnum hk3 hnov hk2 hg2 hg3 ht hemp HG HDG HFL hm
          have HD : Hid (Lib.decFrom 0 (cc :: l) = some D) := hD
          clear hD
          have hszT : ({ data := (cc :: l).toArray } : ByteArray).size = (cc :: l).length := by simp [ByteArray.size]
          go_wp2_with fail
          go_loopw [5, 6] (fun n i wr => ∃ (k m : Nat), k ≤ (cc :: l).length ∧ i = .int .i64 k ∧ n = .int .i64 m ∧ Lib.decFrom 0 ((cc :: l).take k) = some m ∧ wr = w3) (fun _ i _ => (cc :: l).length - (intOf i).toNat)
          case atStart => exact ⟨0, 0, Nat.zero_le _, rfl, rfl, rfl, rfl⟩
          case round =>
            obtain ⟨k, m, hk, rfl, rfl, hm, rfl⟩ := hrel
            have HM : Hid (Lib.decFrom 0 ((cc :: l).take k) = some m) := hm
            have hm7 := dec_small hm h7
            clear hm
            by_cases hltk : k < (cc :: l).length
            · obtain ⟨d, hd9, hbyte, hstep⟩ := dec_step hdg hltk HM.out
              have HST : Hid _ := hstep
              clear hstep HM
              have hdA : decide (k < l.length + 1) = true := decide_eq_true (by simpa using hltk)
              have hdB : decide ((k : Int) < (l.length : Int) + 1) = true := decide_eq_true (by have : k < l.length + 1 := (by simpa using hltk); omega)
              have hdC : ¬ ((l.length : Int) + 1 ≤ (k : Int)) := by have : k < l.length + 1 := (by simpa using hltk); omega
              go_wp2_with fail
              exact ⟨⟨k + 1, m * 10 + d, by omega, rfl, by rw [show (10 * (m : Int) + ((d : Int) + 48) - 48) = ((m * 10 + d : Nat) : Int) by omega], HST.out, trivial⟩, by simp [intOf]; omega⟩
            · obtain rfl : k = (cc :: l).length := by omega
              obtain rfl : m = D := by have h := HM.out; rw [List.take_length, HD.out] at h; injection h with h; exact h.symm
              clear HM HD
              have hdA : decide (l.length + 1 < l.length + 1) = false := by simp
              go_wp2_with fail
              all_goals refine bodyPost_ret (v := termVal ⟨[], 1 * (m : Int)⟩) (by simp [results, Tryz.results87, go_sem, c0, c1, termVal]) rfl ⟨_, _, rfl, HE.out, ((show RAt _ R L en (.inr r.tail) from HX2.out).set hlt _ _).set hlt _ _, ?_⟩
              all_goals exact grownBy_new (grownBy_new (grownBy_trans hgr (grownBy_set _ _)) (Nat.le_refl _) _ _) (Nat.le_refl _) _ _
      · obtain ⟨rfl, rfl⟩ : cc = 45 ∧ l = [] := by simpa using hm
        have hk3 : ((Pr.hd en r).kind == 3) = false := by rw [hg3]; rfl
        have HFIN : Hid (Pr.term en r = Rd.fin (-1) en r.tail) := term_minus hk2 hk3 (by rw [ht]; rfl)
        have hmust : Rd.need [45] en (.inr r) = .inr r.tail := by show Pr.must [45] en r = _; unfold Pr.must; rw [ht]; rfl
        have HND := Need_any [45] (by simp) R L en (.inr r) w1 hA1
        rw [hmust] at HND
        clear hk3 hg3 ht hk2 hnov hemp hm hg2 HDG hmust
        go_wp2_with fail
        refine Calls.mono (HG.out _ _) ?_
        rintro e w2 ⟨rfl, rfl⟩
        go_wp2_with fail
        refine HND.mono ?_
        rintro e w3 ⟨rfl, hA3, hg3⟩
        have hgr3 := grownBy_trans hgr hg3
        obtain ⟨c0, c1, f0, f1, hsz⟩ := kept2 hlt hg3 hsz c0 c1 f0 f1
        have HT3 := Text_any R L en (.inr r.tail) w3 hA3
        rw [Rd.text_hd en] at HT3
        have HFL3 : Hid (∀ k, RAt ((w3.drewN k).setCell ⟨R, 3, none⟩ (.bool true)) R L en (.inl (Rd.here en (.inr r.tail)))) := fun k => RAt.fail (w := w3.drewN k) hA3
        clear HFL hgr HG HND
        go_wp2_with fail
        refine HT3.mono ?_
        rintro e w4 ⟨rfl, k4, rfl⟩
        have hgr4 := grownBy_drewN hgr3 k4
        obtain ⟨nx, ao, cap, hnx, q0, q1, q2, q3, g1, g3⟩ := hA3.cells
        by_cases hr2 : r.tail = []
        · have HE : Hid (Rd.Ends X (⟨[], 0⟩ : Tr.Term) (.inl (Rd.here en (.inr r.tail)))) := by
            rw [← HX.out]
            show Rd.Ends (Pr.term en r) _ _
            rw [HFIN.out, hr2]
            exact rfl
          rw [show (Pr.hd en r.tail).text = [] by rw [hr2]; rfl]
          clear HX HFIN
          go_wp2_with fail
          refine bodyPost_ret (v := termVal ⟨[], 0⟩) (by simp [results, Tryz.results87, go_sem, c0, c1, termVal]) rfl ⟨_, _, rfl, HE.out, ((show RAt _ R L en (.inl (Rd.here en (.inr r.tail))) from HFL3.out k4).set hlt _ _).set hlt _ _, ?_⟩
          exact grownBy_new (grownBy_new (grownBy_trans hgr4 (grownBy_set _ _)) (Nat.le_refl _) _ _) (Nat.le_refl _) _ _
        · have hgd3 := hA3.good
          obtain ⟨cc, l, ht, _, hg2, hg3⟩ := hd_first en hgd3 hr2
          have HDG : Hid (∀ w (h : 0 < ({ data := (cc :: l).toArray } : ByteArray).size), Calls Tryz.prog 115 #[.int .u8 ((({ data := (cc :: l).toArray } : ByteArray)[0]'h).toNat : Int)] w fun e w' => e = .returned (.bool (Tk.digit cc.toNat)) ∧ w' = w) := fun w h => digit_at cc l w h
          rw [ht]
          cases hk3 : ((Pr.hd en r.tail).kind == 3)
          · have HE : Hid (Rd.Ends X (⟨[], 0⟩ : Tr.Term) (.inl (Rd.here en (.inr r.tail)))) := by
              rw [← HX.out]
              show Rd.Ends (Pr.term en r) _ _
              rw [HFIN.out]
              unfold Rd.fin
              rw [hk3]
              split <;> exact rfl
            rw [← hg3, hk3] at HDG
            clear HX HFIN hk3 hg2 hg3 ht
            go_wp2_with fail
            refine Calls.mono (HDG.out _ _) ?_
            rintro e w5 ⟨rfl, rfl⟩
            go_wp2_with fail
            refine bodyPost_ret (v := termVal ⟨[], 0⟩) (by simp [results, Tryz.results87, go_sem, c0, c1, termVal]) rfl ⟨_, _, rfl, HE.out, ((show RAt _ R L en (.inl (Rd.here en (.inr r.tail))) from HFL3.out k4).set hlt _ _).set hlt _ _, ?_⟩
            exact grownBy_new (grownBy_new (grownBy_trans hgr4 (grownBy_set _ _)) (Nat.le_refl _) _ _) (Nat.le_refl _) _ _
          · rw [← hg3, hk3] at HDG
            cases hz : ((cc :: l) == [48])
            · have hdig := hd_num en hgd3 hk3
              rw [ht] at hdig
              obtain ⟨_, h7, hdg⟩ := hdig
              obtain ⟨D, hD, hnum⟩ := num_digits hdg
              have hD7 : D < 10000000 := dec_small (k := (cc :: l).length) (by rw [List.take_length]; exact hD) h7
              have HE : Hid (Rd.Ends X (⟨[], (-1) * (D : Int)⟩ : Tr.Term) (.inr r.tail.tail)) := by
                rw [← HX.out]
                show Rd.Ends (Pr.term en r) _ _
                rw [HFIN.out]
                unfold Rd.fin
                rw [hk3, ht, hz, hnum]
                exact ⟨rfl, rfl⟩
              obtain ⟨nx', _, q1', hx⟩ := hA3.next hr2
              obtain rfl : nx = nx' := by rw [q1] at q1'; injection q1' with e; injection e with _ e; omega
              have HX2 : Hid (RAt ((w3.drewN k4).setCell ⟨R, 1, none⟩ (.int .i64 ((nx : Int) + 1))) R L en (.inr r.tail.tail)) := hx
              clear HX hx HFIN hnum hk3 hg2 hg3 ht HFL3
              have HD : Hid (Lib.decFrom 0 (cc :: l) = some D) := hD
              clear hD
              have hszT : ({ data := (cc :: l).toArray } : ByteArray).size = (cc :: l).length := by simp [ByteArray.size]
              go_wp2_with fail
              refine Calls.mono (HDG.out _ _) ?_
              rintro e w5 ⟨rfl, rfl⟩
              clear HDG
              go_wp2_with fail
              go_loopw [5, 6] (fun n i wr => ∃ (k m : Nat), k ≤ (cc :: l).length ∧ i = .int .i64 k ∧ n = .int .i64 m ∧ Lib.decFrom 0 ((cc :: l).take k) = some m ∧ wr = w3.drewN k4) (fun _ i _ => (cc :: l).length - (intOf i).toNat)
              case atStart => exact ⟨0, 0, Nat.zero_le _, rfl, rfl, rfl, rfl⟩
              case round =>
                obtain ⟨k, m, hk, rfl, rfl, hm, rfl⟩ := hrel
                have HM : Hid (Lib.decFrom 0 ((cc :: l).take k) = some m) := hm
                have hm7 := dec_small hm h7
                clear hm
                by_cases hltk : k < (cc :: l).length
                · obtain ⟨d, hd9, hbyte, hstep⟩ := dec_step hdg hltk HM.out
                  have HST : Hid (Lib.decFrom 0 (List.take (k + 1) (cc :: l)) = some (m * 10 + d)) := hstep
                  clear hstep HM
                  have hdA : decide (k < l.length + 1) = true := decide_eq_true (by simpa using hltk)
                  have hdB : decide ((k : Int) < (l.length : Int) + 1) = true := decide_eq_true (by have : k < l.length + 1 := (by simpa using hltk); omega)
                  have hdC : ¬ ((l.length : Int) + 1 ≤ (k : Int)) := by have : k < l.length + 1 := (by simpa using hltk); omega
                  go_wp2_with fail
                  exact ⟨⟨k + 1, m * 10 + d, by omega, rfl, by rw [show (10 * (m : Int) + ((d : Int) + 48) - 48) = ((m * 10 + d : Nat) : Int) by omega], HST.out, trivial⟩, by simp [intOf]; omega⟩
                · obtain rfl : k = (cc :: l).length := by omega
                  obtain rfl : m = D := by have h := HM.out; rw [List.take_length, HD.out] at h; injection h with h; exact h.symm
                  clear HM HD
                  have hdA : decide (l.length + 1 < l.length + 1) = false := by simp
                  go_wp2_with fail
                  all_goals refine bodyPost_ret (v := termVal ⟨[], (-1) * (m : Int)⟩) (by simp [results, Tryz.results87, go_sem, c0, c1, termVal]) rfl ⟨_, _, rfl, HE.out, ((show RAt _ R L en (.inr r.tail.tail) from HX2.out).set hlt _ _).set hlt _ _, ?_⟩
                  all_goals exact grownBy_new (grownBy_new (grownBy_trans hgr4 (grownBy_set _ _)) (Nat.le_refl _) _ _) (Nat.le_refl _) _ _
            · have HE : Hid (Rd.Ends X (⟨[], 0⟩ : Tr.Term) (.inl (Rd.here en (.inr r.tail)))) := by
                rw [← HX.out]
                show Rd.Ends (Pr.term en r) _ _
                rw [HFIN.out]
                unfold Rd.fin
                rw [ht, hz]
                exact rfl
              clear HX HFIN hk3 hg2 hg3 ht
              go_wp2_with fail
              refine Calls.mono (HDG.out _ _) ?_
              rintro e w5 ⟨rfl, rfl⟩
              go_wp2_with fail
              refine bodyPost_ret (v := termVal ⟨[], 0⟩) (by simp [results, Tryz.results87, go_sem, c0, c1, termVal]) rfl ⟨_, _, rfl, HE.out, ((show RAt _ R L en (.inl (Rd.here en (.inr r.tail))) from HFL3.out k4).set hlt _ _).set hlt _ _, ?_⟩
              exact grownBy_new (grownBy_new (grownBy_trans hgr4 (grownBy_set _ _)) (Nat.le_refl _) _ _) (Nat.le_refl _) _ _

end Go.Proofs.YtgpaleifhcdjnaaGreatDoor

/- The document's reader: terms in brackets. -/
namespace Go.Proofs.YtgpaleifhcdjnaaGreatDoor
open Go.RowKit

/-- The reader went on, and nothing else that was there has changed. -/
abbrev RWent (w w' : World) (R : Nat) (L : List Tk.Tok) (en : Int) (s : Int ⊕ List Tk.Tok) : Prop := w.grownBy w' (some R) ∧ RAt w' R L en s
section
variable {w w1 w' : World} {R : Nat} {L : List Tk.Tok} {en : Int} {s s1 : Int ⊕ List Tk.Tok}
theorem RWent.below (h : RWent w w1 R L en s) (hb : Below w1.heap.size w1 w') : RWent w w' R L en s := ⟨ground h.1 hb, h.2.below hb⟩
theorem RWent.trans (h1 : RWent w w1 R L en s1) (h : RWent w1 w' R L en s) : RWent w w' R L en s := ⟨grownBy_trans h1.1 h.1, h.2⟩
theorem RWent.drew (h : RWent w w1 R L en s) (k : Nat) : RWent w (w1.drewN k) R L en s := ⟨grownBy_drewN h.1 k, h.2⟩
theorem RWent.own {w3 w4 : World} {base k n : Nat} {e : TypeId} {v : Value} {xs : List Value} (h : RWent w w3 R L en s) (hg : w3.grownBy w4 v.ownBlock) (hown : w3.ownsRow base e k v n xs) (hbase : w.heap.size ≤ base) (hR : R < w.heap.size) : RWent w w4 R L en s := by
  have hne : ∀ i, i < base → some i ≠ v.ownBlock := fun i hi he => by have := (hown.lt i he.symm).1; omega
  have hlt := h.2.lt
  refine ⟨⟨hg.os.trans h.1.os, hg.tape.trans h.1.tape, hg.output.trans h.1.output, Nat.le_trans h.1.size hg.size, fun i hi hn => ?_⟩, ?_⟩
  · exact (hg.block i (Nat.lt_of_lt_of_le hi h.1.size) (hne i (by omega))).trans (h.1.block i hi hn)
  · exact h.2.keep fun i hi => hg.block i (by omega) (hne i (by omega))
end

theorem RAt.meas {w : World} {R : Nat} {L : List Tk.Tok} {en : Int} {r : List Tk.Tok} (h : RAt w R L en (.inr r)) : L.length - nxOf w R = r.length := by
  obtain ⟨nx, ao, cap, h1, h2, h3, h4, h5, h6⟩ := h
  have h5 : L.drop nx = r := h5
  have : w.cell? ⟨R, 1, none⟩ = some (.int .i64 nx) := by rw [Lib.cell_of_heap h4]; rfl
  unfold nxOf
  rw [this, ← h5]
  simp

namespace Rd
/-- How much is left to be done. -/
def left (c : Value) (n : Nat) : Nat := match c with | .bool true => n + 1 | _ => 0
def lenS (s : Int ⊕ List Tk.Tok) : Nat := match s with | .inl _ => 0 | .inr r => r.length
theorem terms_need (head : Bool) (en : Int) (s : Int ⊕ List Tk.Tok) : on (Pr.terms head en) s = on (Pr.inside head en) (need [40] en s) := by
  cases s with
  | inl a => rfl
  | inr r =>
    show Pr.terms head en r = on _ (Pr.must [40] en r)
    unfold Pr.terms
    cases Pr.must [40] en r <;> rfl
theorem text_yes {en : Int} {s : Int ⊕ List Tk.Tok} {t : List UInt8} (ht : ¬ t = []) (h : (text s == t) = true) : ∃ r, s = .inr r ∧ Pr.isText en r t = true := by
  cases s with
  | inl a => exact absurd (eq_of_beq h).symm ht
  | inr r => exact ⟨r, rfl, by unfold Pr.isText; rw [← text_hd en]; exact h⟩
theorem text_no {en : Int} {r : List Tk.Tok} {t : List UInt8} (h : (text (.inr r) == t) = false) : Pr.isText en r t = false := by unfold Pr.isText; rw [← text_hd en]; exact h
theorem need_yes {en : Int} {r : List Tk.Tok} {t : List UInt8} (h : Pr.isText en r t = true) : need t en (.inr r) = .inr r.tail := by
  show Pr.must t en r = _
  unfold Pr.must
  unfold Pr.isText at h
  rw [h]; rfl
/-- What stands behind the terms. -/
def close (en : Int) (X : Int ⊕ ((List Tr.Term × Int) × List Tk.Tok)) : Int ⊕ ((List Tr.Term × Int) × List Tk.Tok) := match X with
  | .inl a => .inl a
  | .inr x => match Pr.must [41] en x.2 with
    | .inl a => .inl a
    | .inr r3 => .inr (x.1, r3)
theorem inside_more {head : Bool} {en : Int} {s : Int ⊕ List Tk.Tok} (h : (text s == [41]) = false) : on (Pr.inside head en) s = close en (on (Pr.more head en (lenS s + 1) []) s) := by
  cases s with
  | inl a => rfl
  | inr r =>
    show Pr.inside head en r = close en (Pr.more head en (r.length + 1) [] r)
    unfold Pr.inside
    rw [text_no h]
    simp only [Bool.false_eq_true, if_false]
    cases Pr.more head en (r.length + 1) [] r with
    | inl a => rfl
    | inr x => cases h : Pr.must [41] en x.2 <;> simp only [close, h]
theorem ends_close {en : Int} {X : Int ⊕ ((List Tr.Term × Int) × List Tk.Tok)} {p : List Tr.Term × Int} {s : Int ⊕ List Tk.Tok} (h : Ends X p s) : Ends (close en X) p (need [41] en s) := by
  cases X with
  | inl a => rw [show s = .inl a from h]; exact rfl
  | inr x =>
    obtain ⟨h1, h2⟩ := (h : p = x.1 ∧ s = .inr x.2)
    subst h1 h2
    show Ends (close en (.inr x)) x.1 (Pr.must [41] en x.2)
    cases h : Pr.must [41] en x.2 with
    | inl a => simp only [close, h]; exact rfl
    | inr r => simp only [close, h]; exact ⟨rfl, rfl⟩
def foldN (head : Bool) (t : List UInt8) : Int := if head then Tr.foldOf t else 0
theorem foldMay_eq (head : Bool) (en : Int) (r : List Tk.Tok) : Pr.foldMay head en r = (foldN head (Pr.hd en r).text, if foldN head (Pr.hd en r).text != 0 then r.tail else r) := by
  unfold Pr.foldMay foldN
  cases head
  · rfl
  · show Pr.foldAt en r = _
    unfold Pr.foldAt
    simp only [if_true]
    by_cases h : (Tr.foldOf (Pr.hd en r).text != 0) = true
    · rw [if_pos h, if_pos h]
    · rw [if_neg h, if_neg h]
      have : Tr.foldOf (Pr.hd en r).text = 0 := by simpa using h
      rw [this]
theorem foldN_cases (head : Bool) (t : List UInt8) : foldN head t = 0 ∨ (0 < foldN head t ∧ foldN head t ≤ 4 ∧ ¬ t = []) := by
  unfold foldN Tr.foldOf
  cases head
  · exact .inl rfl
  · simp only [if_true]
    by_cases h1 : (t == [99, 111, 117, 110, 116]) = true
    · rw [if_pos h1]; exact .inr ⟨by decide, by decide, by rw [eq_of_beq h1]; decide⟩
    · rw [if_neg h1]
      by_cases h2 : (t == [115, 117, 109]) = true
      · rw [if_pos h2]; exact .inr ⟨by decide, by decide, by rw [eq_of_beq h2]; decide⟩
      · rw [if_neg h2]
        by_cases h3 : (t == [108, 101, 97, 115, 116]) = true
        · rw [if_pos h3]; exact .inr ⟨by decide, by decide, by rw [eq_of_beq h3]; decide⟩
        · rw [if_neg h3]
          by_cases h4 : (t == [109, 111, 115, 116]) = true
          · rw [if_pos h4]; exact .inr ⟨by decide, by decide, by rw [eq_of_beq h4]; decide⟩
          · rw [if_neg h4]; exact .inl rfl
end Rd

/-- What Terms leaves. -/
def RTermsEnd (R : Nat) (L : List Tk.Tok) (en : Int) (w : World) (X : Int ⊕ ((List Tr.Term × Int) × List Tk.Tok)) (e : Ending) (w' : World) : Prop :=
  ∃ v p s', e = .returned (.tuple #[v, .int .i64 p.2]) ∧ Rd.Ends X p s' ∧ TermsP w.heap.size w' v p.1 ∧ RWent w w' R L en s'

set_option maxRecDepth 100000 in
set_option maxHeartbeats 4000000 in
theorem Terms_any (head : Bool) (R : Nat) (L : List Tk.Tok) (en : Int) (s : Int ⊕ List Tk.Tok) (w : World) (hA : RAt w R L en s) :
    Calls Tryz.prog 52 #[.pointer (some ⟨R, 0, none⟩), .bool head] w (RTermsEnd R L en w (Rd.on (Pr.terms head en) s)) := by
  obtain ⟨i0, hi, hz0, hz1, hz2⟩ := info_parts A_info71
  have hlt := hA.lt
  have HN := Need_any [40] (by simp) R L en s w hA
  rw [Rd.terms_need]
  generalize Rd.need [40] en s = s1 at *
  have HQ : Hid (∀ X, Rd.on (Pr.inside head en) s1 = X → ∀ e w', RTermsEnd R L en w X e w' → RTermsEnd R L en w (Rd.on (Pr.inside head en) s1) e w') := by rintro X rfl e w' h; exact h
  generalize RTermsEnd R L en w (Rd.on (Pr.inside head en) s1) = Q at HQ ⊢
  go_enter Tryz.func52, Tryz.ntmps52
  go_wp2_with fail
  refine HN.mono ?_
  rintro e w1 ⟨rfl, hA1, hg1⟩
  have HT1 := Text_any R L en s1 w1 hA1
  clear HN hA
  cases ht : (Rd.text s1 == [41])
  · have HQ2 : Hid (∀ X, Rd.on (Pr.more head en (Rd.lenS s1 + 1) []) s1 = X → ∀ e w', RTermsEnd R L en w (Rd.close en X) e w' → Q e w') := fun X hX e w' h => HQ.out _ (by rw [Rd.inside_more ht, hX]) e w' h
    generalize hX : Rd.on (Pr.more head en (Rd.lenS s1 + 1) []) s1 = X at HQ2
    have HQ3 : Hid (∀ e w', RTermsEnd R L en w (Rd.close en X) e w' → Q e w') := HQ2.out X rfl
    clear HQ HQ2
    generalize hty : Rd.text s1 = ty at *
    clear hty
    go_wp2_with fail
    refine HT1.mono ?_
    rintro e w2 ⟨rfl, k2, rfl⟩
    have hW2 : RWent w (w1.drewN k2) R L en s1 := RWent.drew ⟨hg1, hA1⟩ k2
    have hlen1 : Rd.lenS s1 ≤ L.length := by
      cases s1 with
      | inl a => exact Nat.zero_le _
      | inr r => exact hA1.len.1
    have hL5 : L.length ≤ 5000 := by obtain ⟨_, _, _, _, h, _⟩ := hA1; exact h
    clear HT1 hA1 hg1
    generalize w1.drewN k2 = w2 at *
    go_wp2_with fail
    clear ht
    go_loopw [6, 7, 8] (fun a b c wr => ∃ (acc : List Tr.Term) (s2 : Int ⊕ List Tk.Tok) (fo : Int), wr.ownsRow w.heap.size 59 2 a acc.length (acc.map termCells).flatten ∧ RWent w wr R L en s2 ∧ b = .int .i64 fo ∧ acc.length ≤ 5001 ∧
        ((c = .bool true ∧ fo = 0 ∧ acc.length + Rd.lenS s2 ≤ L.length ∧ ∃ f, Rd.lenS s2 < f ∧ Rd.on (Pr.more head en f acc) s2 = X) ∨ (c = .bool false ∧ Rd.Ends X (acc, fo) s2)))
      (fun _ _ c wr => Rd.left c (L.length - nxOf wr R))
    case atStart => exact ⟨[], s1, 0, World.ownsRow_nil _ _ _ _, hW2, rfl, by simp, .inl ⟨rfl, rfl, by simpa using hlen1, _, Nat.lt_succ_self _, hX⟩⟩
    case round =>
      obtain ⟨acc, s2, fo, hown, hW, rfl, hacc, hc⟩ := hrel
      clear hW2 hlen1 hX
      obtain ⟨ao, cap, rfl⟩ := own_slice hown
      obtain ⟨nx, aoR, capR, hnx, q0, q1, q2, q3, f1, f3⟩ := hW.2.cells
      rcases hc with ⟨rfl, rfl, hlen, f, hf, hX1⟩ | ⟨rfl, hE⟩
      · cases s2 with
        | inl a =>
          have HE : Hid (Rd.Ends X (acc, (0 : Int)) (.inl a)) := by rw [← hX1]; exact rfl
          replace q3 : wr.cell? ⟨R, 3, none⟩ = some (.bool true) := q3
          have HN := Need_any [41] (by simp) R L en (.inl a) wr hW.2
          clear hX1
          go_wp2_with fail
          refine HN.mono ?_
          rintro e w3 ⟨rfl, hA3, hg3⟩
          go_wp2_with fail
          exact HQ3.out _ _ ⟨.slice ao acc.length cap, (acc, 0), _, rfl, Rd.ends_close HE.out, (rowP_own (by intro c hc; simp at hc; obtain ⟨x, _, rfl⟩ := hc; rfl) (by rw [List.length_map]; exact ownsRow_grown hown hg3 hlt) : TermsP _ _ _ _), RWent.trans hW ⟨hg3, hA3⟩⟩
        | inr r1 =>
          replace q3 : wr.cell? ⟨R, 3, none⟩ = some (.bool false) := q3
          obtain ⟨f, rfl⟩ : ∃ f', f = f' + 1 := ⟨f - 1, by omega⟩
          have hX2 : Pr.more head en (f + 1) acc r1 = X := hX1
          have hms := hW.2.meas
          have HT := Text_any R L en (.inr r1) wr hW.2
          rw [Rd.text_hd en] at HT
          have HFM : Hid _ := Rd.foldMay_eq head en r1
          have hfc := Rd.foldN_cases head (Pr.hd en r1).text
          have HRD : Hid (∀ t, (Pr.hd en r1).text = t → ¬ t = [] → Rd.need t en (.inr r1) = .inr r1.tail) := fun t ht _ => Rd.need_yes (by unfold Pr.isText; rw [ht]; simp)
          have HXX : Hid (Pr.more head en (f + 1) acc r1 = X) := hX2
          have HFN : Hid (∀ F, Rd.foldN head (Pr.hd en r1).text = F → Pr.foldMay head en r1 = (F, if F != 0 then r1.tail else r1)) := by rintro F rfl; exact HFM.out
          clear hX1 hX2 HFM
          generalize hty : (Pr.hd en r1).text = ty at *
          go_wp2_with fail
          refine HT.mono ?_
          rintro e w3 ⟨rfl, k3, rfl⟩
          have hW3 : RWent w (wr.drewN k3) R L en (.inr r1) := RWent.drew hW k3
          replace hown : (wr.drewN k3).ownsRow w.heap.size 59 2 (.slice ao acc.length cap) acc.length (acc.map termCells).flatten := hown
          clear hW HT q0 q1 q2 q3 f1 f3
          generalize wr.drewN k3 = w3 at *
          go_upto_if 29 with fail
          go_cut [7] (fun v7 wx => v7 = .int .i64 (Rd.foldN head ty) ∧ Below w3.heap.size w3 wx)
          case first =>
            cases head
            · go_wp2_with fail
              go_meet
              exact ⟨rfl, Below.refl _ _⟩
            · have hbw : ∀ o, Below w3.heap.size w3 (w3.alloc o) := fun o => (Below.refl _ _).alloc (Nat.le_refl _) o
              by_cases h0 : ty = [99, 111, 117, 110, 116]
              · subst h0
                go_wp2_with fail
                refine wp_loop_rounds 5 ?_
                rw [rounds_succ]
                go_wp2_with fail
                rw [rounds_succ]
                go_wp2_with fail
                rw [rounds_succ]
                go_wp2_with fail
                rw [rounds_succ]
                go_wp2_with fail
                rw [rounds_succ]
                go_wp2_with fail
                go_meet
                exact ⟨rfl, hbw _⟩
              · have g0 : (ty == [99, 111, 117, 110, 116]) = false := by simpa using h0
                by_cases h1 : ty = [115, 117, 109]
                · subst h1
                  go_wp2_with fail
                  refine wp_loop_rounds 5 ?_
                  rw [rounds_succ]
                  go_wp2_with fail
                  rw [rounds_succ]
                  go_wp2_with fail
                  rw [rounds_succ]
                  go_wp2_with fail
                  rw [rounds_succ]
                  go_wp2_with fail
                  rw [rounds_succ]
                  go_wp2_with fail
                  go_meet
                  exact ⟨rfl, hbw _⟩
                · have g1 : (ty == [115, 117, 109]) = false := by simpa using h1
                  by_cases h2 : ty = [108, 101, 97, 115, 116]
                  · subst h2
                    go_wp2_with fail
                    refine wp_loop_rounds 5 ?_
                    rw [rounds_succ]
                    go_wp2_with fail
                    rw [rounds_succ]
                    go_wp2_with fail
                    rw [rounds_succ]
                    go_wp2_with fail
                    rw [rounds_succ]
                    go_wp2_with fail
                    rw [rounds_succ]
                    go_wp2_with fail
                    go_meet
                    exact ⟨rfl, hbw _⟩
                  · have g2 : (ty == [108, 101, 97, 115, 116]) = false := by simpa using h2
                    by_cases h3 : ty = [109, 111, 115, 116]
                    · subst h3
                      go_wp2_with fail
                      refine wp_loop_rounds 5 ?_
                      rw [rounds_succ]
                      go_wp2_with fail
                      rw [rounds_succ]
                      go_wp2_with fail
                      rw [rounds_succ]
                      go_wp2_with fail
                      rw [rounds_succ]
                      go_wp2_with fail
                      rw [rounds_succ]
                      go_wp2_with fail
                      go_meet
                      exact ⟨rfl, hbw _⟩
                    · have g3 : (ty == [109, 111, 115, 116]) = false := by simpa using h3
                      have HF0 : Hid (Rd.foldN true ty = 0) := by show _ = _; unfold Rd.foldN Tr.foldOf; rw [g0, g1, g2, g3]; rfl
                      go_wp2_with fail
                      refine wp_loop_rounds 5 ?_
                      rw [rounds_succ]
                      go_wp2_with fail
                      rw [rounds_succ]
                      go_wp2_with fail
                      rw [rounds_succ]
                      go_wp2_with fail
                      rw [rounds_succ]
                      go_wp2_with fail
                      rw [rounds_succ]
                      go_wp2_with fail
                      go_meet
                      exact ⟨by rw [HF0.out], hbw _⟩
          case rest =>
            obtain ⟨rfl, hbx⟩ := hcut
            generalize wc = w4 at *
            have hW4 := RWent.below hW3 hbx
            have hown4 := ownsRow_below hown hbx
            have HFM : Hid _ := HFN.out _ rfl
            clear HFN hown hW3 hbx
            generalize Rd.foldN head ty = FN at *
            go_upto_if 43 with fail
            go_cut [] (fun wx => RWent w wx R L en (.inr (if FN != 0 then r1.tail else r1)) ∧ wx.ownsRow w.heap.size 59 2 (.slice ao acc.length cap) acc.length (acc.map termCells).flatten)
            case first =>
              rcases hfc with rfl | ⟨h0, h4, hne⟩
              · go_wp2_with fail
                go_meet
                exact ⟨hW4, hown4⟩
              · have hg : decide ((0 : Int) < FN) = true := decide_eq_true h0
                have hFne : (FN != 0) = true := by simp; omega
                have HN := Need_any ty hne R L en (.inr r1) w4 hW4.2
                rw [HRD.out ty rfl hne] at HN
                go_wp2_with fail
                refine HN.mono ?_
                rintro e w5 ⟨rfl, hA5, hg5⟩
                go_wp2_with fail
                go_meet
                exact ⟨by rw [if_pos hFne]; exact RWent.trans hW4 ⟨hg5, hA5⟩, ownsRow_grown hown4 hg5 hlt⟩
            case rest =>
              obtain ⟨hW5, hown5⟩ := hcut
              generalize wc = w5 at *
              clear hW4 hown4 HRD hfc
              have hl12 : (if FN != 0 then r1.tail else r1).length ≤ r1.length := by split <;> simp
              generalize (if FN != 0 then r1.tail else r1) = r2 at *
              have HXs : Hid (X = match Pr.term en r2 with
                | .inl a => .inl a
                | .inr x => if (FN == 0) && Pr.isText en x.2 [44] then Pr.more head en f (acc ++ [x.1]) x.2.tail else .inr ((acc ++ [x.1], FN), x.2)) := by
                show _ = _
                rw [← HXX.out, Pr.more, HFM.out]
                cases Pr.term en r2 <;> rfl
              clear HXX HFM
              have HT5 := Term_any R L en (.inr r2) w5 hW5.2
              go_wp2_with fail
              refine HT5.mono ?_
              rintro e w6 ⟨t, s6, rfl, hE6, hA6, hg6⟩
              have HE6 : Hid (Rd.Ends (Pr.term en r2) t s6) := hE6
              have hW6 : RWent w w6 R L en s6 := RWent.trans hW5 ⟨hg6, hA6⟩
              have hown6 := ownsRow_grown hown5 hg6 hlt
              have hsz6 : w.heap.size ≤ w6.heap.size := hW6.1.size
              clear hE6 hA6 hg6 hW5 hown5 HT5
              go_wp2_with (at_builtin; refine wpList_append_own _ rfl (.tmp 47) (.tmp 50) 54 rfl w.heap.size 59 i0 _ 2 24 Tryz.underlying54 hi hz0 hz1 hz2 rfl (by decide) _ _ _ rfl (ownsRow_below hown6 ((Below.refl _ _).alloc (Nat.le_refl _) _)) ⟨w6.heap.size, 0, none⟩ 1 1 (termCells t) rfl rfl ?c1 ?c2 ?c3 ?c4 ?c5 ?_)
              case c1 =>
                intro j u hj
                match j, hj with
                | 0, hj => simp [termCells] at hj; subst hj; simp [Addr.add, go_sem]
                | 1, hj => simp [termCells] at hj; subst hj; simp [Addr.add, go_sem]
              case c2 => intro u hu; simp [termCells] at hu; rcases hu with rfl | rfl <;> rfl
              case c3 => unfold maxLen; omega
              case c4 => omega
              case c5 => simp; omega
              intro v' w7 hown7 hgrow _
              have hW7 : RWent w w7 R L en s6 := RWent.own (RWent.below hW6 ((Below.refl _ _).alloc (Nat.le_refl _) _)) hgrow (ownsRow_below hown6 ((Below.refl _ _).alloc (Nat.le_refl _) _)) (Nat.le_refl _) hlt
              have hown7' : w7.ownsRow w.heap.size 59 2 v' (acc ++ [t]).length ((acc ++ [t]).map termCells).flatten := by simpa using hown7
              obtain ⟨ao', cap', rfl⟩ := own_slice hown7
              clear hown7 hgrow hown6 hW6 hi hz0 hz1 hz2
              have hal : (acc ++ [t]).length = acc.length + 1 := by simp
              have hlen' : acc.length + r1.length ≤ L.length := hlen
              cases hF0 : (FN == 0)
              · have HE7 : Hid (Rd.Ends X (acc ++ [t], FN) s6) := by
                  have h := HE6.out
                  have hx := HXs.out
                  rw [hx]
                  cases hT : Pr.term en r2 with
                  | inl a => rw [hT] at h; exact h
                  | inr x =>
                    rw [hT] at h
                    obtain ⟨h1, h2⟩ := h
                    subst h1 h2
                    simp only [hF0, Bool.false_and, Bool.false_eq_true, if_false]
                    exact ⟨rfl, rfl⟩
                clear HXs HE6
                go_wp2_with fail
                go_roundw
                case rel => exact ⟨acc ++ [t], s6, FN, hown7', hW7, rfl, by omega, .inr ⟨rfl, HE7.out⟩⟩
                case measure => exact Nat.succ_pos _
              · obtain rfl : FN = 0 := eq_of_beq hF0
                have HT7 := Text_any R L en s6 w7 hW7.2
                cases hq : (Rd.text s6 == [44])
                · have HE7 : Hid (Rd.Ends X (acc ++ [t], (0 : Int)) s6) := by
                    have h := HE6.out
                    have hx := HXs.out
                    rw [hx]
                    cases hT : Pr.term en r2 with
                    | inl a => rw [hT] at h; exact h
                    | inr x =>
                      rw [hT] at h
                      obtain ⟨h1, h2⟩ := h
                      subst h1 h2
                      simp only [Rd.text_no (en := en) hq, Bool.and_false, Bool.false_eq_true, if_false]
                      exact ⟨rfl, rfl⟩
                  clear HXs HE6
                  generalize Rd.text s6 = tq at *
                  go_wp2_with fail
                  refine HT7.mono ?_
                  rintro e w8 ⟨rfl, k8, rfl⟩
                  go_wp2_with fail
                  go_roundw
                  case rel => exact ⟨acc ++ [t], s6, 0, hown7', RWent.drew hW7 k8, rfl, by omega, .inr ⟨rfl, HE7.out⟩⟩
                  case measure => exact Nat.succ_pos _
                · obtain ⟨r6, rfl, hy⟩ := Rd.text_yes (en := en) (by simp) hq
                  have hT : Pr.term en r2 = .inr (t, r6) := by
                    have h := HE6.out
                    cases hT : Pr.term en r2 with
                    | inl a => rw [hT] at h; exact absurd h (by simp [Rd.Ends])
                    | inr x =>
                      rw [hT] at h
                      obtain ⟨h1, h2⟩ := h
                      injection h2 with h2
                      rw [h1, h2]
                  have hl6 := term_len hT
                  have HX8 : Hid (Rd.on (Pr.more head en f (acc ++ [t])) (.inr r6.tail) = X) := by
                    show Pr.more head en f (acc ++ [t]) r6.tail = X
                    have hx := HXs.out
                    rw [hT] at hx
                    simp only [hy] at hx
                    exact hx.symm
                  have hlt6 : r6.tail.length ≤ r6.length := by simp
                  have hl6' : r6.length < r2.length := hl6
                  have hf' : r1.length < f + 1 := hf
                  clear HXs HE6 hT hl6
                  generalize Rd.text (.inr r6) = tq at *
                  go_wp2_with fail
                  refine HT7.mono ?_
                  rintro e w8 ⟨rfl, k8, rfl⟩
                  have HN := Need_any [44] (by simp) R L en (.inr r6) (w7.drewN k8) hW7.2
                  rw [Rd.need_yes hy] at HN
                  go_wp2_with fail
                  refine HN.mono ?_
                  rintro e w9 ⟨rfl, hA9, hg9⟩
                  go_wp2_with fail
                  go_roundw
                  case rel => exact ⟨acc ++ [t], .inr r6.tail, 0, ownsRow_grown (w := w7.drewN k8) hown7' hg9 hlt, RWent.trans (RWent.drew hW7 k8) ⟨hg9, hA9⟩, rfl, by omega, .inl ⟨rfl, rfl, by show (acc ++ [t]).length + r6.tail.length ≤ L.length; omega, f, by show r6.tail.length < f; omega, HX8.out⟩⟩
                  case measure =>
                    show (L.length - nxOf w9 R) + 1 < (L.length - nxOf wr R) + 1
                    rw [hA9.meas, hms]
                    omega
      · have HE : Hid (Rd.Ends X (acc, fo) s2) := hE
        have HN := Need_any [41] (by simp) R L en s2 wr hW.2
        clear hE
        go_wp2_with fail
        refine HN.mono ?_
        rintro e w3 ⟨rfl, hA3, hg3⟩
        go_wp2_with fail
        exact HQ3.out _ _ ⟨.slice ao acc.length cap, (acc, fo), _, rfl, Rd.ends_close HE.out, (rowP_own (by intro c hc; simp at hc; obtain ⟨x, _, rfl⟩ := hc; rfl) (by rw [List.length_map]; exact ownsRow_grown hown hg3 hlt) : TermsP _ _ _ _), RWent.trans hW ⟨hg3, hA3⟩⟩
  · obtain ⟨r1, rfl, hy⟩ := Rd.text_yes (en := en) (by simp) ht
    have HE : Hid (Rd.on (Pr.inside head en) (.inr r1) = .inr (([], (0 : Int)), r1.tail)) := by
      show Pr.inside head en r1 = _
      unfold Pr.inside
      rw [hy]; rfl
    generalize hty : Rd.text (.inr r1) = ty at *
    clear hty
    go_wp2_with fail
    refine HT1.mono ?_
    rintro e w2 ⟨rfl, k2, rfl⟩
    have HN := Need_any [41] (by simp) R L en (.inr r1) (w1.drewN k2) hA1
    rw [Rd.need_yes hy] at HN
    go_wp2_with fail
    refine HN.mono ?_
    rintro e w3 ⟨rfl, hA3, hg3⟩
    go_wp2_with fail
    exact HQ.out _ HE.out _ _ ⟨.slice none 0 0, ([], 0), _, rfl, ⟨rfl, rfl⟩, ⟨none, 0, rfl, .inl rfl⟩, RWent.trans (RWent.drew ⟨hg1, hA1⟩ k2) ⟨hg3, hA3⟩⟩

end Go.Proofs.YtgpaleifhcdjnaaGreatDoor

/- The document's reader: literals with a name. -/
namespace Go.Proofs.YtgpaleifhcdjnaaGreatDoor
open Go.RowKit

/-- A literal under way: block w.heap.size is the result's, B the literal's. -/
structure RL (w wr : World) (B R : Nat) (L : List Tk.Tok) (en : Int) (s : Int ⊕ List Tk.Tok) (k at_ op : Int) (nm : List UInt8) (tv : Value) : Prop where
  went : RWent w wr R L en s
  res : wr.heap[w.heap.size]? = some litZero
  lit : wr.heap[B]? = some (.cells #[.int .i64 k, .int .i64 at_, .int .i64 op, .string ⟨nm.toArray⟩, tv] 61)
  lt : R < w.heap.size
  ltB : w.heap.size < B
section
variable {w wr w' : World} {B R : Nat} {L : List Tk.Tok} {en : Int} {s s' : Int ⊕ List Tk.Tok} {k at_ op : Int} {nm : List UInt8} {tv : Value}
theorem RL.start {w1 : World} (hA : RAt w R L en s) (hb : Below (w.alloc litZero).heap.size (w.alloc litZero) w1) (at_ : Int) :
    RL w (w1.alloc (.cells #[.int .i64 1, .int .i64 at_, .int .i64 0, .string ⟨#[]⟩, .slice none 0 0] 61)) w1.heap.size R L en s 1 at_ 0 [] (.slice none 0 0) where
  went := RWent.below (w1 := w1) (RWent.below (w1 := w.alloc litZero) (RWent.below (w1 := w) ⟨grownBy_of_below (Below.refl _ _) _, hA⟩ ((Below.refl _ _).alloc (Nat.le_refl _) _)) hb) ((Below.refl _ _).alloc (Nat.le_refl _) _)
  res := by
    have h1 : w1.heap[w.heap.size]? = some litZero := (hb.block _ (by simp)).trans (heap_alloc_new w _)
    exact (((Below.refl _ _).alloc (Nat.le_refl _) _).block _ (heap_lt h1)).trans h1
  lit := heap_alloc_new w1 _
  lt := hA.lt
  ltB := by have := hb.size; simp at this; omega
theorem RL.on (h : RL w wr B R L en s k at_ op nm tv) (hW : RWent wr w' R L en s') : RL w w' B R L en s' k at_ op nm tv where
  went := RWent.trans h.went hW
  res := (hW.1.block _ (heap_lt h.res) (by have := h.lt; intro e; injection e; omega)).trans h.res
  lit := (hW.1.block _ (heap_lt h.lit) (by have := h.lt; have := h.ltB; intro e; injection e; omega)).trans h.lit
  lt := h.lt
  ltB := h.ltB
theorem RL.below (h : RL w wr B R L en s k at_ op nm tv) (hb : Below wr.heap.size wr w') : RL w w' B R L en s k at_ op nm tv :=
  h.on ⟨grownBy_of_below hb _, h.went.2.below hb⟩
theorem RL.drew (h : RL w wr B R L en s k at_ op nm tv) (n : Nat) : RL w (wr.drewN n) B R L en s k at_ op nm tv := h.below (below_drewN (Below.refl _ _) n)
theorem RL.sz (h : RL w wr B R L en s k at_ op nm tv) : B < wr.heap.size := heap_lt h.lit
theorem RL.cells (h : RL w wr B R L en s k at_ op nm tv) :
    wr.cell? ⟨B, 0, none⟩ = some (.int .i64 k) ∧ wr.cell? ⟨B, 1, none⟩ = some (.int .i64 at_) ∧ wr.cell? ⟨B, 2, none⟩ = some (.int .i64 op) ∧ wr.cell? ⟨B, 3, none⟩ = some (.string ⟨nm.toArray⟩) ∧
      wr.cell? ⟨B, 4, none⟩ = some tv ∧ (∀ o, wr.frozen? ⟨B, o, none⟩ = false) ∧ (∀ o, wr.frozen? ⟨w.heap.size, o, none⟩ = false) :=
  ⟨by rw [Lib.cell_of_heap h.lit]; rfl, by rw [Lib.cell_of_heap h.lit]; rfl, by rw [Lib.cell_of_heap h.lit]; rfl, by rw [Lib.cell_of_heap h.lit]; rfl, by rw [Lib.cell_of_heap h.lit]; rfl, fun o => by simp [World.frozen?, h.lit], fun o => by simp [World.frozen?, h.res]⟩
theorem RL.rcells (h : RL w wr B R L en s k at_ op nm tv) :
    wr.cell? ⟨w.heap.size, 0, none⟩ = some (.int .i64 0) ∧ wr.cell? ⟨w.heap.size, 1, none⟩ = some (.int .i64 0) ∧ wr.cell? ⟨w.heap.size, 2, none⟩ = some (.int .i64 0) ∧ wr.cell? ⟨w.heap.size, 3, none⟩ = some (.string ⟨#[]⟩) ∧
      wr.cell? ⟨w.heap.size, 4, none⟩ = some (.slice none 0 0) :=
  ⟨by rw [Lib.cell_of_heap h.res]; rfl, by rw [Lib.cell_of_heap h.res]; rfl, by rw [Lib.cell_of_heap h.res]; rfl, by rw [Lib.cell_of_heap h.res]; rfl, by rw [Lib.cell_of_heap h.res]; rfl⟩
theorem RWent.set (h : RWent w wr R L en s) (hR : R < w.heap.size) {b : Nat} (hb : w.heap.size ≤ b) (o : Nat) (v : Value) : RWent w (wr.setCell ⟨b, o, none⟩ v) R L en s := ⟨grownBy_new h.1 hb o v, h.2.set (by omega) o v⟩
theorem RL.setKind (h : RL w wr B R L en s k at_ op nm tv) (o : Int) : RL w (wr.setCell ⟨B, 0, none⟩ (.int .i64 o)) B R L en s o at_ op nm tv where
  went := h.went.set h.lt (Nat.le_of_lt h.ltB) _ _
  res := (Below.heap_setCell _ _ _ _ (show ¬ w.heap.size = B by have := h.ltB; omega)).trans h.res
  lit := by have := h.lit; simp [World.setCell, Array.getElem?_modify, this]
  lt := h.lt
  ltB := h.ltB
theorem RL.setOp (h : RL w wr B R L en s k at_ op nm tv) (o : Int) : RL w (wr.setCell ⟨B, 2, none⟩ (.int .i64 o)) B R L en s k at_ o nm tv where
  went := h.went.set h.lt (Nat.le_of_lt h.ltB) _ _
  res := (Below.heap_setCell _ _ _ _ (show ¬ w.heap.size = B by have := h.ltB; omega)).trans h.res
  lit := by have := h.lit; simp [World.setCell, Array.getElem?_modify, this]
  lt := h.lt
  ltB := h.ltB
theorem RL.setName (h : RL w wr B R L en s k at_ op nm tv) (t : List UInt8) : RL w (wr.setCell ⟨B, 3, none⟩ (.string ⟨t.toArray⟩)) B R L en s k at_ op t tv where
  went := h.went.set h.lt (Nat.le_of_lt h.ltB) _ _
  res := (Below.heap_setCell _ _ _ _ (show ¬ w.heap.size = B by have := h.ltB; omega)).trans h.res
  lit := by have := h.lit; simp [World.setCell, Array.getElem?_modify, this]
  lt := h.lt
  ltB := h.ltB
theorem RL.setTerms (h : RL w wr B R L en s k at_ op nm tv) (u : Value) : RL w (wr.setCell ⟨B, 4, none⟩ u) B R L en s k at_ op nm u where
  went := h.went.set h.lt (Nat.le_of_lt h.ltB) _ _
  res := (Below.heap_setCell _ _ _ _ (show ¬ w.heap.size = B by have := h.ltB; omega)).trans h.res
  lit := by have := h.lit; simp [World.setCell, Array.getElem?_modify, this]
  lt := h.lt
  ltB := h.ltB
theorem RWent.put5 (h : RWent w wr R L en s) (hlt : R < w.heap.size) (a b c d e : Value) :
    RWent w (((((wr.setCell ⟨w.heap.size, 0, none⟩ a).setCell ⟨w.heap.size, 1, none⟩ b).setCell ⟨w.heap.size, 2, none⟩ c).setCell ⟨w.heap.size, 3, none⟩ d).setCell ⟨w.heap.size, 4, none⟩ e) R L en s :=
  ((((h.set hlt (Nat.le_refl _) _ _).set hlt (Nat.le_refl _) _ _).set hlt (Nat.le_refl _) _ _).set hlt (Nat.le_refl _) _ _).set hlt (Nat.le_refl _) _ _
end

/-- What Lit leaves. -/
def RLitEnd (R : Nat) (L : List Tk.Tok) (en : Int) (w : World) (X : Int ⊕ (Tr.Lit × List Tk.Tok)) (e : Ending) (w' : World) : Prop :=
  ∃ x v s', e = .returned (litVal x v) ∧ Rd.Ends X x s' ∧ TermsP w.heap.size w' v x.terms ∧ RWent w w' R L en s'

namespace Rd
theorem ends_atom {k at_ en : Int} {s s1 s2 : Int ⊕ List Tk.Tok} {nm : List UInt8} {p : List Tr.Term × Int} (h1 : Ends (on (Pr.name en) s) nm s1) (h2 : Ends (on (Pr.terms false en) s1) p s2) :
    Ends (on (Pr.atom k at_ en) s) ⟨k, at_, 0, nm, p.1⟩ s2 := by
  cases s with
  | inl a => rw [show s1 = .inl a from h1] at h2; exact h2
  | inr r =>
    show Ends (Pr.atom k at_ en r) _ _
    replace h1 : Ends (Pr.name en r) nm s1 := h1
    unfold Pr.atom
    cases hN : Pr.name en r with
    | inl a => rw [hN] at h1; rw [show s1 = .inl a from h1] at h2; exact h2
    | inr x =>
      rw [hN] at h1
      obtain ⟨h3, h4⟩ := (h1 : nm = x.1 ∧ s1 = .inr x.2)
      subst h3 h4
      replace h2 : Ends (Pr.terms false en x.2) p s2 := h2
      simp only
      cases hT : Pr.terms false en x.2 with
      | inl a => rw [hT] at h2; exact h2
      | inr y =>
        rw [hT] at h2
        obtain ⟨h3, h4⟩ := (h2 : p = y.1 ∧ s2 = .inr y.2)
        subst h3 h4
        exact ⟨rfl, rfl⟩
end Rd

theorem small_at (c : UInt8) (l : List UInt8) (w : World) (h : 0 < ({ data := (c :: l).toArray } : ByteArray).size) : Calls Tryz.prog 88 #[.int .u8 ((({ data := (c :: l).toArray } : ByteArray)[0]'h).toNat : Int)] w fun e w' => e = .returned (.bool (Tk.small c.toNat)) ∧ w' = w := by
  rw [show (((({ data := (c :: l).toArray } : ByteArray)[0]'h).toNat : Nat) : Int) = (c.toNat : Int) from rfl]
  have := UInt8.toNat_lt c
  exact refSmall_any _ w (by omega) (by omega)

set_option maxRecDepth 100000 in
set_option maxHeartbeats 4000000 in
theorem Lit_not (R : Nat) (L : List Tk.Tok) (en : Int) (r : List Tk.Tok) (w : World) (hA : RAt w R L en (.inr r)) (h1 : Pr.isText en r [110, 111, 116] = true) :
    Calls Tryz.prog 55 #[.pointer (some ⟨R, 0, none⟩)] w (RLitEnd R L en w (Pr.lit en r)) := by
  have HE0 : Hid (∀ nm s1 p s2, Rd.Ends (Rd.on (Pr.name en) (.inr r.tail)) nm s1 → Rd.Ends (Rd.on (Pr.terms false en) s1) p s2 → Rd.Ends (Pr.lit en r) ⟨2, Rd.here en (.inr r), 0, nm, p.1⟩ s2) := by
    intro nm s1 p s2 a b
    rw [show Pr.lit en r = Pr.atom 2 (Pr.hd en r).at_ en r.tail by simp [Pr.lit, h1]]
    exact Rd.ends_atom a b
  generalize Pr.lit en r = X at *
  have HH : Hid (∀ w1, RAt w1 R L en (.inr r) → _) := fun w1 h => Here_any R L en (.inr r) w1 h
  have HT : Hid (∀ w1, RAt w1 R L en (.inr r) → _) := fun w1 h => Text_any R L en (.inr r) w1 h
  have HN : Hid (∀ w1, RAt w1 R L en (.inr r) → _) := fun w1 h => Need_any [110, 111, 116] (by simp) R L en (.inr r) w1 h
  rw [Rd.need_yes h1] at HN
  have htx : Rd.text (.inr r) = [110, 111, 116] := by rw [Rd.text_hd en]; exact eq_of_beq h1
  rw [htx] at HT
  have HT2 : Hid (∀ w1, RAt w1 R L en (.inr r.tail) → _) := fun w1 h => Text_any R L en (.inr r.tail) w1 h
  generalize Rd.here en (.inr r) = at_ at *
  generalize Rd.text (.inr r.tail) = t2 at *
  clear htx h1
  go_enter Tryz.func55, Tryz.ntmps55
  go_wp2_with fail
  have hA0 : RAt (w.alloc litZero) R L en (.inr r) := hA.below ((Below.refl _ _).alloc (Nat.le_refl _) _)
  refine Calls.mono (HH.out _ hA0) ?_
  rintro e w1 ⟨rfl, k1, hw1⟩
  have hb1 : Below (w.alloc litZero).heap.size (w.alloc litZero) w1 := by rw [hw1]; exact below_drewN (Below.refl _ _) k1
  have hI := RL.start hA hb1 at_
  clear hw1 hb1 hA0 HH
  go_wp2_with fail
  refine Calls.mono (HT.out _ hI.went.2) ?_
  rintro e w2 ⟨rfl, k2, rfl⟩
  have hI2 := hI.drew k2
  generalize hw2 : (w1.alloc (.cells #[.int .i64 1, .int .i64 at_, .int .i64 0, .string ⟨#[]⟩, .slice none 0 0] 61)).drewN k2 = w2 at *
  clear hw2 hI HT
  generalize w1.heap.size = B at *
  go_wp2_with fail
  refine Calls.mono (HN.out _ hI2.went.2) ?_
  rintro e w3 ⟨rfl, hA3, hg3⟩
  have hI3 := hI2.on ⟨hg3, hA3⟩
  clear hI2 hA3 hg3 HN
  obtain ⟨c0, c1, c2, c3, c4, f1, f0⟩ := hI3.cells
  have hI4 := hI3.setKind 2
  go_wp2_with fail
  refine Calls.mono (HT2.out _ hI4.went.2) ?_
  rintro e w5 ⟨rfl, k5, rfl⟩
  have hI5 := hI4.drew k5
  clear c0 c1 c2 c3 c4 f1 f0 hI3 hI4 HT2
  generalize (w3.setCell ⟨B, 0, none⟩ (.int .i64 2)).drewN k5 = w5 at *
  obtain ⟨c0, c1, c2, c3, c4, f1, f0⟩ := hI5.cells
  go_wp2_with fail
  refine (Name_any R L en (.inr r.tail) _ hI5.went.2).mono ?_
  rintro e w6 ⟨nm, s1, rfl, hE1, hA6, hg6⟩
  have HE1 : Hid _ := hE1
  have hI6 := hI5.on ⟨hg6, hA6⟩
  clear c0 c1 c2 c3 c4 f1 f0 hI5 hA6 hg6 hE1
  obtain ⟨c0, c1, c2, c3, c4, f1, f0⟩ := hI6.cells
  have hI7 := hI6.setName nm
  go_wp2_with fail
  refine (Terms_any false R L en s1 _ hI7.went.2).mono ?_
  rintro e w8 ⟨v, p, s2, rfl, hE2, hT8, hW8⟩
  have HE2 : Hid _ := hE2
  have hI8 := hI7.on hW8
  have hltB := hI7.ltB
  have hltB' := hI7.sz
  have hlt := hI7.lt
  clear c0 c1 c2 c3 c4 f1 f0 hI6 hI7 hW8 hE2
  generalize w6.setCell ⟨B, 3, none⟩ (.string ⟨nm.toArray⟩) = w7 at *
  obtain ⟨x0, x1, x2, x3, x4⟩ := hI8.rcells
  obtain ⟨c0, c1, c2, c3, c4, f1, f0⟩ := hI8.cells
  obtain ⟨ao, cap, hv, hT'⟩ := hT8
  have hT8 := (show TermsP w7.heap.size w8 v p.1 from ⟨ao, cap, hv, hT'⟩)
  subst hv
  go_wp2
  exact bodyPost_ret (v := litVal ⟨2, at_, 0, nm, p.1⟩ _) (by simp [results, Tryz.results55, go_sem, x0, x1, x2, x3, x4]) rfl ⟨⟨2, at_, 0, nm, p.1⟩, _, s2, rfl, HE0.out _ _ _ _ HE1.out HE2.out, (((hT8.keep (keeps_set _ hltB' _ _)).keep (keeps5 (Nat.lt_trans hltB hltB') _ _ _ _ _ _)).mono (Nat.le_of_lt (Nat.lt_trans hltB hltB'))), (hI8.went.set hlt (Nat.le_of_lt hltB) _ _).put5 hlt _ _ _ _ _⟩

end Go.Proofs.YtgpaleifhcdjnaaGreatDoor

/- The document's reader: literals that are reckoned, and all literals. -/
namespace Go.Proofs.YtgpaleifhcdjnaaGreatDoor
open Go.RowKit

namespace Rd
/-- The signs, by their number. -/
def sgn (i : Nat) : List UInt8 := ([[], [60], [60, 61], [61], [33, 61], [43], [45], [42]] : List (List UInt8)).getD i []
/-- The last sign before n that a text is. -/
def upTo (t : List UInt8) : Nat → Nat
  | 0 => 0
  | n + 1 => if (t == sgn n) = true ∧ n ≠ 0 then n else upTo t n
theorem upTo_op (t : List UInt8) : ((upTo t 8 : Nat) : Int) = Pr.opOf t := by
  by_cases h1 : t = [60]
  · subst h1; rfl
  by_cases h2 : t = [60, 61]
  · subst h2; rfl
  by_cases h3 : t = [61]
  · subst h3; rfl
  by_cases h4 : t = [33, 61]
  · subst h4; rfl
  by_cases h5 : t = [43]
  · subst h5; rfl
  by_cases h6 : t = [45]
  · subst h6; rfl
  by_cases h7 : t = [42]
  · subst h7; rfl
  simp [upTo, sgn, Pr.opOf, h1, h2, h3, h4, h5, h6, h7]
theorem upTo_lt (t : List UInt8) : ∀ n, upTo t n ≤ n
  | 0 => Nat.le_refl _
  | n + 1 => by
    unfold upTo
    split
    · omega
    · have := upTo_lt t n; omega
theorem upTo_sgn (t : List UInt8) : ∀ n, upTo t n ≠ 0 → sgn (upTo t n) = t
  | 0, h => absurd rfl h
  | n + 1, h => by
    unfold upTo at h ⊢
    split
    · rename_i h1; exact (eq_of_beq h1.1).symm
    · rename_i h1; rw [if_neg h1] at h; exact upTo_sgn t n h
theorem ends_on {α : Type} {f : List Tk.Tok → Int ⊕ (α × List Tk.Tok)} {s s' : Int ⊕ List Tk.Tok} {v : α} (h : Ends (on f s) v s') :
    (∃ a, s' = .inl a ∧ (s = .inl a ∨ ∃ r, s = .inr r ∧ f r = .inl a)) ∨ ∃ r r', s = .inr r ∧ s' = .inr r' ∧ f r = .inr (v, r') := by
  cases s with
  | inl a => exact .inl ⟨a, h, .inl rfl⟩
  | inr r =>
    replace h : Ends (f r) v s' := h
    cases hf : f r with
    | inl a => rw [hf] at h; exact .inl ⟨a, h, .inr ⟨r, rfl, hf⟩⟩
    | inr x =>
      rw [hf] at h
      obtain ⟨h1, h2⟩ := (h : v = x.1 ∧ s' = .inr x.2)
      subst h1 h2
      exact .inr ⟨r, x.2, rfl, rfl, hf⟩
theorem ends_reck3 {at_ en o : Int} {s s1 s2 s3 : Int ⊕ List Tk.Tok} {t1 t2 : Tr.Term} (h1 : Ends (on (Pr.term en) s) t1 s1) (h2 : Ends (on (Pr.op en) s1) o s2) (h3 : Ends (on (Pr.term en) s2) t2 s3) (ho : Tr.between o 5 7 = false) :
    Ends (on (Pr.reckon at_ en) s) ⟨3, at_, o, [], [t1, t2]⟩ s3 := by
  rcases ends_on h1 with ⟨a, rfl, rfl | ⟨r, rfl, f1⟩⟩ | ⟨r, r1, rfl, rfl, f1⟩
  · rw [show s2 = .inl a from h2] at h3; exact h3
  · rw [show s2 = .inl a from h2] at h3; rw [show s3 = .inl a from h3]; show Ends (Pr.reckon at_ en r) _ _; rw [Pr.reckon, f1]; rfl
  · show Ends (Pr.reckon at_ en r) _ _
    rcases ends_on h2 with ⟨a, rfl, h | ⟨r', h, f2⟩⟩ | ⟨r', r2, h, rfl, f2⟩
    · cases h
    · cases h; rw [show s3 = .inl a from h3]; simp only [Pr.reckon, f1, f2]; rfl
    · cases h
      rcases ends_on h3 with ⟨a, rfl, h | ⟨r', h, f3⟩⟩ | ⟨r', r3, h, rfl, f3⟩
      · cases h
      · cases h; simp only [Pr.reckon, f1, f2, f3]; rfl
      · cases h; simp only [Pr.reckon, f1, f2, f3, ho]; exact ⟨rfl, rfl⟩
theorem ends_reck4 {at_ en o : Int} {s s1 s2 s3 s4 : Int ⊕ List Tk.Tok} {t1 t2 t3 : Tr.Term} (h1 : Ends (on (Pr.term en) s) t1 s1) (h2 : Ends (on (Pr.op en) s1) o s2) (h3 : Ends (on (Pr.term en) s2) t2 s3) (h4 : Ends (on (Pr.term en) (need [61] en s3)) t3 s4) (ho : Tr.between o 5 7 = true) :
    Ends (on (Pr.reckon at_ en) s) ⟨4, at_, o, [], [t1, t2, t3]⟩ s4 := by
  rcases ends_on h1 with ⟨a, rfl, rfl | ⟨r, rfl, f1⟩⟩ | ⟨r, r1, rfl, rfl, f1⟩
  · rw [show s2 = .inl a from h2] at h3; rw [show s3 = .inl a from h3] at h4; exact h4
  · rw [show s2 = .inl a from h2] at h3; rw [show s3 = .inl a from h3] at h4; rw [show s4 = .inl a from h4]; show Ends (Pr.reckon at_ en r) _ _; rw [Pr.reckon, f1]; rfl
  · show Ends (Pr.reckon at_ en r) _ _
    rcases ends_on h2 with ⟨a, rfl, h | ⟨r', h, f2⟩⟩ | ⟨r', r2, h, rfl, f2⟩
    · cases h
    · cases h; rw [show s3 = .inl a from h3] at h4; rw [show s4 = .inl a from h4]; simp only [Pr.reckon, f1, f2]; rfl
    · cases h
      rcases ends_on h3 with ⟨a, rfl, h | ⟨r', h, f3⟩⟩ | ⟨r', r3, h, rfl, f3⟩
      · cases h
      · cases h; rw [show s4 = .inl a from h4]; simp only [Pr.reckon, f1, f2, f3]; rfl
      · cases h
        simp only [Pr.reckon, f1, f2, f3, ho, if_true, Pr.calcLit]
        cases hm : Pr.must [61] en r3 with
        | inl a => rw [show need [61] en (.inr r3) = .inl a from hm] at h4; rw [show s4 = .inl a from h4]; rfl
        | inr r4 =>
          rw [show need [61] en (.inr r3) = .inr r4 from hm] at h4
          rcases ends_on h4 with ⟨a, rfl, h | ⟨r', h, f4⟩⟩ | ⟨r', r5, h, rfl, f4⟩
          · cases h
          · cases h; simp only [f4]; rfl
          · cases h; simp only [f4]; exact ⟨rfl, rfl⟩
end Rd

abbrev sgnBlock : Obj := .cells #[.string ⟨#[]⟩, .string ⟨#[60]⟩, .string ⟨#[60, 61]⟩, .string ⟨#[61]⟩, .string ⟨#[33, 61]⟩, .string ⟨#[43]⟩, .string ⟨#[45]⟩, .string ⟨#[42]⟩] 9
abbrev termBlock (t : Tr.Term) : Obj := .cells #[.string ⟨t.var.toArray⟩, .int .i64 t.n] 59
/-- A reckoned literal under way: block A holds its first term, O the signs. -/
structure RK (w wr : World) (B A O R : Nat) (L : List Tk.Tok) (en : Int) (s : Int ⊕ List Tk.Tok) (k at_ op : Int) (tv : Value) (t1 : Tr.Term) : Prop where
  rl : RL w wr B R L en s k at_ op [] tv
  fst : wr.heap[A]? = some (termBlock t1)
  ops : wr.heap[O]? = some sgnBlock
  ltA : B < A
  ltO : B < O
section
variable {w wr w' : World} {B A O R : Nat} {L : List Tk.Tok} {en : Int} {s s' : Int ⊕ List Tk.Tok} {k at_ op : Int} {nm : List UInt8} {tv : Value} {t1 : Tr.Term}
theorem RK.on (h : RK w wr B A O R L en s k at_ op tv t1) (hW : RWent wr w' R L en s') : RK w w' B A O R L en s' k at_ op tv t1 where
  rl := h.rl.on hW
  fst := (hW.1.block _ (heap_lt h.fst) (by have := h.rl.lt; have := h.rl.ltB; have := h.ltA; intro e; injection e; omega)).trans h.fst
  ops := (hW.1.block _ (heap_lt h.ops) (by have := h.rl.lt; have := h.rl.ltB; have := h.ltO; intro e; injection e; omega)).trans h.ops
  ltA := h.ltA
  ltO := h.ltO
theorem RK.below (h : RK w wr B A O R L en s k at_ op tv t1) (hb : Below wr.heap.size wr w') : RK w w' B A O R L en s k at_ op tv t1 :=
  h.on ⟨grownBy_of_below hb _, h.rl.went.2.below hb⟩
theorem RK.drew (h : RK w wr B A O R L en s k at_ op tv t1) (n : Nat) : RK w (wr.drewN n) B A O R L en s k at_ op tv t1 := h.below (below_drewN (Below.refl _ _) n)
theorem RK.setOp (h : RK w wr B A O R L en s k at_ op tv t1) (o : Int) : RK w (wr.setCell ⟨B, 2, none⟩ (.int .i64 o)) B A O R L en s k at_ o tv t1 where
  rl := h.rl.setOp o
  fst := (Below.heap_setCell _ _ _ _ (show ¬ A = B by have := h.ltA; omega)).trans h.fst
  ops := (Below.heap_setCell _ _ _ _ (show ¬ O = B by have := h.ltO; omega)).trans h.ops
  ltA := h.ltA
  ltO := h.ltO
theorem RK.setKind (h : RK w wr B A O R L en s k at_ op tv t1) (o : Int) : RK w (wr.setCell ⟨B, 0, none⟩ (.int .i64 o)) B A O R L en s o at_ op tv t1 where
  rl := h.rl.setKind o
  fst := (Below.heap_setCell _ _ _ _ (show ¬ A = B by have := h.ltA; omega)).trans h.fst
  ops := (Below.heap_setCell _ _ _ _ (show ¬ O = B by have := h.ltO; omega)).trans h.ops
  ltA := h.ltA
  ltO := h.ltO
theorem RK.cells (h : RK w wr B A O R L en s k at_ op tv t1) : wr.cell? ⟨A, 0, none⟩ = some (.string ⟨t1.var.toArray⟩) ∧ wr.cell? ⟨A, 1, none⟩ = some (.int .i64 t1.n) ∧ ∀ i, i < 8 → wr.cell? ⟨O, i, none⟩ = some (.string ⟨(Rd.sgn i).toArray⟩) := by
  refine ⟨by rw [Lib.cell_of_heap h.fst]; rfl, by rw [Lib.cell_of_heap h.fst]; rfl, fun i hi => ?_⟩
  rw [Lib.cell_of_heap h.ops]
  match i, hi with
  | 0, _ | 1, _ | 2, _ | 3, _ | 4, _ | 5, _ | 6, _ | 7, _ => rfl
theorem RL.app {w3 : World} {n : Nat} {xs : List Value} (h : RL w wr B R L en s k at_ op nm tv) (hown : wr.ownsRow (B + 1) 59 2 tv n xs) (hg : wr.grownBy w3 tv.ownBlock) :
    w3.heap[w.heap.size]? = some litZero ∧ w3.heap[B]? = some (.cells #[.int .i64 k, .int .i64 at_, .int .i64 op, .string ⟨nm.toArray⟩, tv] 61) ∧ w3.cell? ⟨B, 4, none⟩ = some tv ∧ w3.frozen? ⟨B, 4, none⟩ = false := by
  have hB := h.ltB
  have hne : ∀ i, i < B + 1 → some i ≠ tv.ownBlock := fun i hi he => by have := (hown.lt i he.symm).1; omega
  have e1 := (hg.block _ (heap_lt h.res) (hne _ (by omega))).trans h.res
  have e2 := (hg.block _ (heap_lt h.lit) (hne _ (by omega))).trans h.lit
  exact ⟨e1, e2, by rw [Lib.cell_of_heap e2]; rfl, by simp [World.frozen?, e2]⟩
theorem RL.put {w3 : World} {n : Nat} {xs : List Value} {v' : Value} (h : RL w wr B R L en s k at_ op nm tv) (hown : wr.ownsRow (B + 1) 59 2 tv n xs) (hg : wr.grownBy w3 tv.ownBlock) : RL w (w3.setCell ⟨B, 4, none⟩ v') B R L en s k at_ op nm v' := by
  have hB := h.ltB
  have hW : RWent w w3 R L en s := RWent.own h.went hg hown (by omega) h.lt
  exact { went := hW.set h.lt (Nat.le_of_lt h.ltB) _ _
          res := (Below.heap_setCell _ _ _ _ (show ¬ w.heap.size = B by omega)).trans (h.app hown hg).1
          lit := by have := (h.app hown hg).2.1; simp [World.setCell, Array.getElem?_modify, this]
          lt := h.lt
          ltB := hB }
/-- The literal, copied to the result. -/
theorem RL.out {acc : List Tr.Term} (h : RL w wr B R L en s k at_ op nm tv) (hown : wr.ownsRow (B + 1) 59 2 tv acc.length (acc.map termCells).flatten) (a b c d e : Value) :
    TermsP w.heap.size (((((wr.setCell ⟨w.heap.size, 0, none⟩ a).setCell ⟨w.heap.size, 1, none⟩ b).setCell ⟨w.heap.size, 2, none⟩ c).setCell ⟨w.heap.size, 3, none⟩ d).setCell ⟨w.heap.size, 4, none⟩ e) tv acc ∧
      RWent w (((((wr.setCell ⟨w.heap.size, 0, none⟩ a).setCell ⟨w.heap.size, 1, none⟩ b).setCell ⟨w.heap.size, 2, none⟩ c).setCell ⟨w.heap.size, 3, none⟩ d).setCell ⟨w.heap.size, 4, none⟩ e) R L en s := by
  have hB := h.ltB
  have h0 : TermsP (B + 1) wr tv acc := rowP_own (by intro c hc; simp at hc; obtain ⟨t, _, rfl⟩ := hc; rfl) (by rw [List.length_map]; exact hown)
  exact ⟨(h0.keep (keeps5 (by omega) _ _ _ _ _ _)).mono (by omega), h.went.put5 h.lt _ _ _ _ _⟩
end

end Go.Proofs.YtgpaleifhcdjnaaGreatDoor

/- The document's reader: all literals. -/
namespace Go.Proofs.YtgpaleifhcdjnaaGreatDoor
open Go.RowKit

set_option maxRecDepth 100000 in
set_option maxHeartbeats 4000000 in
theorem Lit_yes (R : Nat) (L : List Tk.Tok) (en : Int) (r : List Tk.Tok) (w : World) (hA : RAt w R L en (.inr r)) (h1 : Pr.isText en r [110, 111, 116] = false) (hk : ((Pr.hd en r).kind == 1) = true) :
    Calls Tryz.prog 55 #[.pointer (some ⟨R, 0, none⟩)] w (RLitEnd R L en w (Pr.lit en r)) := by
  have HE0 : Hid (∀ nm s1 p s2, Rd.Ends (Rd.on (Pr.name en) (.inr r)) nm s1 → Rd.Ends (Rd.on (Pr.terms false en) s1) p s2 → Rd.Ends (Pr.lit en r) ⟨1, Rd.here en (.inr r), 0, nm, p.1⟩ s2) := by
    intro nm s1 p s2 a b
    rw [show Pr.lit en r = Pr.atom 1 (Pr.hd en r).at_ en r by simp [Pr.lit, h1, hk]]
    exact Rd.ends_atom a b
  have hr : ¬ r = [] := by rintro rfl; exact absurd (show ((0 : Int) == 1) = true from hk) (by decide)
  obtain ⟨cc, l, ht, hg1, hg2, hg3⟩ := hd_first en hA.good hr
  rw [hk] at hg1
  have HS : Hid (∀ w (h : 0 < ({ data := (cc :: l).toArray } : ByteArray).size), Calls Tryz.prog 88 #[.int .u8 ((({ data := (cc :: l).toArray } : ByteArray)[0]'h).toNat : Int)] w fun e w' => e = .returned (.bool true) ∧ w' = w) := by
    intro w h
    have := small_at cc l w h
    rw [← hg1] at this
    exact this
  generalize Pr.lit en r = X at *
  have HH : Hid (∀ w1, RAt w1 R L en (.inr r) → _) := fun w1 h => Here_any R L en (.inr r) w1 h
  have HT : Hid (∀ w1, RAt w1 R L en (.inr r) → _) := fun w1 h => Text_any R L en (.inr r) w1 h
  have htn : ((cc :: l) == [110, 111, 116]) = false := by rw [← ht]; exact h1
  rw [Rd.text_hd en, ht] at HT
  generalize Rd.here en (.inr r) = at_ at *
  clear ht h1 hk hr hg1 hg2 hg3
  go_enter Tryz.func55, Tryz.ntmps55
  go_wp2_with fail
  have hA0 : RAt (w.alloc litZero) R L en (.inr r) := hA.below ((Below.refl _ _).alloc (Nat.le_refl _) _)
  refine Calls.mono (HH.out _ hA0) ?_
  rintro e w1 ⟨rfl, k1, hw1⟩
  have hb1 : Below (w.alloc litZero).heap.size (w.alloc litZero) w1 := by rw [hw1]; exact below_drewN (Below.refl _ _) k1
  have hI := RL.start hA hb1 at_
  clear hw1 hb1 hA0 HH
  go_wp2_with fail
  refine Calls.mono (HT.out _ hI.went.2) ?_
  rintro e w2 ⟨rfl, k2, rfl⟩
  have hI2 := hI.drew k2
  generalize hw2 : (w1.alloc (.cells #[.int .i64 1, .int .i64 at_, .int .i64 0, .string ⟨#[]⟩, .slice none 0 0] 61)).drewN k2 = w2 at *
  clear hw2 hI
  generalize w1.heap.size = B at *
  go_wp2_with fail
  refine Calls.mono (HT.out _ hI2.went.2) ?_
  rintro e w5 ⟨rfl, k5, rfl⟩
  have hI5 := hI2.drew k5
  clear hI2 HT
  generalize w2.drewN k5 = w5 at *
  obtain ⟨c0, c1, c2, c3, c4, f1, f0⟩ := hI5.cells
  go_wp2_with fail
  refine Calls.mono (HS.out _ _) ?_
  rintro e w9 ⟨rfl, hw9⟩
  subst hw9
  clear HS htn
  go_wp2_with fail
  refine (Name_any R L en (.inr r) _ hI5.went.2).mono ?_
  rintro e w6 ⟨nm, s1, rfl, hE1, hA6, hg6⟩
  have HE1 : Hid _ := hE1
  have hI6 := hI5.on ⟨hg6, hA6⟩
  clear c0 c1 c2 c3 c4 f1 f0 hI5 hA6 hg6 hE1
  obtain ⟨c0, c1, c2, c3, c4, f1, f0⟩ := hI6.cells
  have hI7 := hI6.setName nm
  go_wp2_with fail
  refine (Terms_any false R L en s1 _ hI7.went.2).mono ?_
  rintro e w8 ⟨v, p, s2, rfl, hE2, hT8, hW8⟩
  have HE2 : Hid _ := hE2
  have hI8 := hI7.on hW8
  have hltB := hI7.ltB
  have hltB' := hI7.sz
  have hlt := hI7.lt
  clear c0 c1 c2 c3 c4 f1 f0 hI6 hI7 hW8 hE2
  generalize w6.setCell ⟨B, 3, none⟩ (.string ⟨nm.toArray⟩) = w7 at *
  obtain ⟨x0, x1, x2, x3, x4⟩ := hI8.rcells
  obtain ⟨c0, c1, c2, c3, c4, f1, f0⟩ := hI8.cells
  obtain ⟨ao, cap, hv, hT'⟩ := hT8
  have hT8 := (show TermsP w7.heap.size w8 v p.1 from ⟨ao, cap, hv, hT'⟩)
  subst hv
  go_wp2
  exact bodyPost_ret (v := litVal ⟨1, at_, 0, nm, p.1⟩ _) (by simp [results, Tryz.results55, go_sem, x0, x1, x2, x3, x4]) rfl ⟨⟨1, at_, 0, nm, p.1⟩, _, s2, rfl, HE0.out _ _ _ _ HE1.out HE2.out, (((hT8.keep (keeps_set _ hltB' _ _)).keep (keeps5 (Nat.lt_trans hltB hltB') _ _ _ _ _ _)).mono (Nat.le_of_lt (Nat.lt_trans hltB hltB'))), (hI8.went.set hlt (Nat.le_of_lt hltB) _ _).put5 hlt _ _ _ _ _⟩

theorem RL.on2 {w wr wr' w' : World} {B R : Nat} {L : List Tk.Tok} {en : Int} {s s' : Int ⊕ List Tk.Tok} {k at_ op : Int} {nm : List UInt8} {tv : Value} (h : RL w wr B R L en s k at_ op nm tv) (hW : RWent wr' w' R L en s') (hb : Below wr.heap.size wr wr') : RL w w' B R L en s' k at_ op nm tv := (h.below hb).on hW
theorem own_on2 {wr wr' w' : World} {P base : Nat} {e : TypeId} {size : Nat} {v : Value} {n : Nat} {xs : List Value} (h : wr.ownsRow base e size v n xs) (hg : wr'.grownBy w' (some P)) (hP : P < base) (hb : Below wr.heap.size wr wr') : w'.ownsRow base e size v n xs := ownsRow_grown (ownsRow_below h hb) hg hP

set_option maxRecDepth 100000 in
set_option maxHeartbeats 8000000 in
theorem Lit_reck (R : Nat) (L : List Tk.Tok) (en : Int) (s : Int ⊕ List Tk.Tok) (w : World) (hA : RAt w R L en s) (h1 : (Rd.text s == [110, 111, 116]) = false) (hk : ∀ r, s = .inr r → ((Pr.hd en r).kind == 1) = false) :
    Calls Tryz.prog 55 #[.pointer (some ⟨R, 0, none⟩)] w (RLitEnd R L en w (Rd.on (Pr.reckon (Rd.here en s) en) s)) := by
  obtain ⟨i0, hi, hz0, hz1, hz2⟩ := info_parts A_info71
  have HE0 : Hid (∀ x s', Rd.Ends (Rd.on (Pr.reckon (Rd.here en s) en) s) x s' → Rd.Ends (Rd.on (Pr.reckon (Rd.here en s) en) s) x s') := fun _ _ h => h
  have HH : Hid (∀ w1, RAt w1 R L en s → _) := fun w1 h => Here_any R L en s w1 h
  have HT : Hid (∀ w1, RAt w1 R L en s → _) := fun w1 h => Text_any R L en s w1 h
  have HS : Hid (Rd.text s = [] ∨ ∃ cc l, Rd.text s = cc :: l ∧ ∀ w (h : 0 < ({ data := (cc :: l).toArray } : ByteArray).size), Calls Tryz.prog 88 #[.int .u8 ((({ data := (cc :: l).toArray } : ByteArray)[0]'h).toNat : Int)] w fun e w' => e = .returned (.bool false) ∧ w' = w) := by
    cases s with
    | inl a => exact .inl rfl
    | inr r =>
      by_cases hr : r = []
      · subst hr; exact .inl rfl
      · obtain ⟨cc, l, ht, hg1, hg2, hg3⟩ := hd_first en hA.good hr
        rw [hk r rfl] at hg1
        refine .inr ⟨cc, l, by rw [Rd.text_hd en]; exact ht, fun w h => ?_⟩
        have := small_at cc l w h
        rw [← hg1] at this
        exact this
  clear hk
  generalize Rd.here en s = at_ at *
  generalize Rd.text s = ty at *
  go_enter Tryz.func55, Tryz.ntmps55
  go_wp2_with fail
  have hA0 : RAt (w.alloc litZero) R L en s := hA.below ((Below.refl _ _).alloc (Nat.le_refl _) _)
  refine Calls.mono (HH.out _ hA0) ?_
  rintro e w1 ⟨rfl, k1, hw1⟩
  have hb1 : Below (w.alloc litZero).heap.size (w.alloc litZero) w1 := by rw [hw1]; exact below_drewN (Below.refl _ _) k1
  have hI := RL.start hA hb1 at_
  clear hw1 hb1 hA0 HH
  go_wp2_with fail
  refine Calls.mono (HT.out _ hI.went.2) ?_
  rintro e w2 ⟨rfl, k2, rfl⟩
  have hI2 := hI.drew k2
  generalize hw2 : (w1.alloc (.cells #[.int .i64 1, .int .i64 at_, .int .i64 0, .string ⟨#[]⟩, .slice none 0 0] 61)).drewN k2 = w2 at *
  clear hw2 hI
  generalize w1.heap.size = B at *
  go_wp2_with fail
  refine Calls.mono (HT.out _ hI2.went.2) ?_
  rintro e w5 ⟨rfl, k5, rfl⟩
  have hI5 := hI2.drew k5
  clear hI2 HT h1
  generalize w2.drewN k5 = w5 at *
  obtain ⟨c0, c1, c2, c3, c4, f1, f0⟩ := hI5.cells
  go_upto_region 6 with fail
  go_cut [31] (fun v wx => v = .bool false ∧ wx = w5)
  case first =>
    rcases HS.out with rfl | ⟨cc, l, rfl, hs⟩
    · go_wp2_with fail
      go_meet
      exact ⟨rfl, rfl⟩
    · have HS2 : Hid _ := hs
      clear hs
      go_wp2_with fail
      refine Calls.mono (HS2.out _ _) ?_
      rintro e w9 ⟨rfl, hw9⟩
      subst hw9
      go_wp2_with fail
      go_meet
      exact ⟨rfl, rfl⟩
  case rest =>
    obtain ⟨rfl, rfl⟩ := hcut
    clear HS
    go_wp2_with fail
    refine (Term_any R L en s _ hI5.went.2).mono ?_
    rintro e w6 ⟨t1, s1, rfl, hE1, hA6, hg6⟩
    have HE1 : Hid _ := hE1
    have hI6 := hI5.on ⟨hg6, hA6⟩
    clear c0 c1 c2 c3 c4 f1 f0 hI5 hA6 hg6 hE1
    have hsz6 := hI6.sz
    have hK : RK w ((w6.alloc (termBlock t1)).alloc sgnBlock) B w6.heap.size (w6.heap.size + 1) R L en s1 1 at_ 0 (.slice none 0 0) t1 :=
      { rl := (hI6.below ((Below.refl _ _).alloc (Nat.le_refl _) _)).below ((Below.refl _ _).alloc (Nat.le_refl _) _)
        fst := (heap_alloc_old _ _ (by simp)).trans (heap_alloc_new w6 _)
        ops := by have := heap_alloc_new (w6.alloc (termBlock t1)) sgnBlock; simpa using this
        ltA := hsz6
        ltO := by omega }
    clear hI6 hsz6
    go_upto_region 12 with fail
    generalize hw8 : (w6.alloc (termBlock t1)).alloc sgnBlock = w8 at *
    generalize w6.heap.size + 1 = O at *
    generalize w6.heap.size = A at *
    clear hw8
    have HTY : Hid (∀ w1, RAt w1 R L en s1 → _) := fun w1 h => Text_any R L en s1 w1 h
    have HOP0 : Hid (Rd.upTo (Rd.text s1) 8 = 0 → Rd.Ends (Rd.on (Pr.op en) s1) 0 (.inl (Rd.here en s1))) := by
      intro h
      cases s1 with
      | inl a => exact rfl
      | inr r =>
        show Rd.Ends (Pr.op en r) 0 _
        have h2 := Rd.upTo_op (Rd.text (.inr r))
        rw [h, Rd.text_hd en] at h2
        unfold Pr.op
        rw [← h2]
        exact rfl
    have HOP1 : Hid (Rd.upTo (Rd.text s1) 8 ≠ 0 → ∃ r, s1 = .inr r ∧ Rd.sgn (Rd.upTo (Rd.text s1) 8) ≠ [] ∧ Rd.need (Rd.sgn (Rd.upTo (Rd.text s1) 8)) en s1 = .inr r.tail ∧ Rd.Ends (Rd.on (Pr.op en) s1) ((Rd.upTo (Rd.text s1) 8 : Nat) : Int) (.inr r.tail)) := by
      intro h
      have h1 := Rd.upTo_sgn _ _ h
      cases s1 with
      | inl a => exact absurd rfl h
      | inr r =>
        refine ⟨r, rfl, ?_, ?_, ?_⟩
        · rw [h1]; intro h3; rw [h3] at h; exact absurd rfl h
        · rw [h1]; exact Rd.need_yes (by unfold Pr.isText; rw [← Rd.text_hd en]; simp)
        · have h2 := Rd.upTo_op (Rd.text (.inr r))
          show Rd.Ends (Pr.op en r) _ _
          rw [h2, Rd.text_hd en]
          have h4 : (Pr.opOf (Pr.hd en r).text != 0) = true := by
            rw [← Rd.text_hd en, ← h2]
            simp
            omega
          unfold Pr.op
          rw [if_pos h4]
          exact ⟨rfl, rfl⟩
    have hO7 : Rd.upTo (Rd.text s1) 8 ≤ 7 := by
      have := Rd.upTo_lt (Rd.text s1) 7
      rw [Rd.upTo]
      split <;> omega
    generalize Rd.text s1 = ty1 at *
    go_wp2_with fail
    go_loopw [7] (fun v wr => ∃ n : Nat, 1 ≤ n ∧ n ≤ 8 ∧ v = .int .i64 n ∧ RK w wr B A O R L en s1 1 at_ ((Rd.upTo ty1 n : Nat) : Int) (.slice none 0 0) t1) (fun v _ => 8 - (intOf v).toNat)
    case atStart => exact ⟨1, Nat.le_refl _, by decide, rfl, by simpa [Rd.upTo] using hK⟩
    case round =>
      obtain ⟨n, hn1, hn8, rfl, hKr⟩ := hrel
      clear hK
      by_cases hn : n < 8
      · obtain ⟨a0, a1, hop⟩ := hKr.cells
        have hcO := hop n hn
        obtain ⟨c0, c1, c2, c3, c4, f1, f0⟩ := hKr.rl.cells
        clear hop
        have hnI : (n : Int) < 8 := by omega
        have hdn : decide ((n : Int) < 8) = true := decide_eq_true (by omega)
        cases hq : (ty1 == Rd.sgn n)
        · have hup : Rd.upTo ty1 (n + 1) = Rd.upTo ty1 n := by rw [Rd.upTo, hq]; simp
          have HK2 : Hid (∀ k, RK w (wr.drewN k) B A O R L en s1 1 at_ ((Rd.upTo ty1 (n + 1) : Nat) : Int) (.slice none 0 0) t1) := by intro k; rw [hup]; exact hKr.drew k
          clear hup
          go_upto_region 15 with fail
          go_region_law (go_simp; go_at_call 53; refine Calls.mono (HTY.out _ (RAt.keep hKr.rl.went.2 (fun _ _ => rfl))) ?_; rintro e y2 ⟨rfl, k, rfl⟩)
          all_goals go_wp2_with fail
          all_goals go_roundw
          all_goals first
            | exact ⟨n + 1, by omega, by omega, rfl, HK2.out _⟩
            | (simp [intOf]; omega)
        · have hup : Rd.upTo ty1 (n + 1) = n := by rw [Rd.upTo, hq, if_pos ⟨rfl, by omega⟩]
          have HK2 : Hid (∀ k, RK w ((wr.drewN k).setCell ⟨B, 2, none⟩ (.int .i64 n)) B A O R L en s1 1 at_ ((Rd.upTo ty1 (n + 1) : Nat) : Int) (.slice none 0 0) t1) := by intro k; rw [hup]; exact (hKr.drew k).setOp _
          clear hup
          go_upto_region 15 with fail
          go_region_law (go_simp; go_at_call 53; refine Calls.mono (HTY.out _ (RAt.keep hKr.rl.went.2 (fun _ _ => rfl))) ?_; rintro e y2 ⟨rfl, k, rfl⟩)
          all_goals go_wp2_with fail
          all_goals go_roundw
          all_goals first
            | exact ⟨n + 1, by omega, by omega, rfl, HK2.out _⟩
            | (simp [intOf]; omega)
      · obtain rfl : n = 8 := by omega
        obtain ⟨a0, a1, hop⟩ := hKr.cells
        obtain ⟨c0, c1, c2, c3, c4, f1, f0⟩ := hKr.rl.cells
        generalize hm : Rd.upTo ty1 8 = m at *
        clear hm hn hn1 hn8
        go_upto_if 60 with fail
        go_cut [] (fun wx => ∃ s2, Rd.Ends (Rd.on (Pr.op en) s1) (m : Int) s2 ∧ RK w wx B A O R L en s2 1 at_ (m : Int) (.slice none 0 0) t1)
        case first =>
          by_cases hm0 : m = 0
          · subst hm0
            have HF : Hid (RK w (wr.setCell ⟨R, 3, none⟩ (.bool true)) B A O R L en (.inl (Rd.here en s1)) 1 at_ ((0 : Nat) : Int) (.slice none 0 0) t1) := hKr.on ⟨grownBy_set _ _, hKr.rl.went.2.fail⟩
            obtain ⟨_, _, _, _, _, _, _, _, _, f3⟩ := hKr.rl.went.2.cells
            have HE2 : Hid _ := HOP0.out rfl
            clear HOP0 HOP1 hop
            go_wp2_with fail
            go_meet
            exact ⟨_, HE2.out, HF.out⟩
          · obtain ⟨r1, rfl, hne, hneed, hE2⟩ := HOP1.out hm0
            have hcO := hop m (by omega)
            have hmI : (m : Int) < 8 := by omega
            have hm0' : ((m : Int) == 0) = false := by simpa using hm0
            have HN := Need_any (Rd.sgn m) hne R L en (.inr r1) wr hKr.rl.went.2
            rw [hneed] at HN
            have HE2 : Hid _ := hE2
            clear hE2 hneed hop HOP0 HOP1
            go_wp2_with fail
            refine HN.mono ?_
            rintro e w10 ⟨rfl, hA10, hg10⟩
            go_wp2_with fail
            go_meet
            exact ⟨_, HE2.out, hKr.on ⟨hg10, hA10⟩⟩
        case rest =>
          obtain ⟨s2, hE2, hK2⟩ := hcut
          have HE2 : Hid _ := hE2
          generalize wc = w11 at *
          clear hKr a0 a1 hop c0 c1 c2 c3 c4 f1 f0 HOP0 HOP1 HTY hE2
          go_wp2_with fail
          refine (Term_any R L en s2 _ hK2.rl.went.2).mono ?_
          rintro e w12 ⟨t2, s3, rfl, hE3, hA12, hg12⟩
          have HE3 : Hid _ := hE3
          have hK3 := (hK2.on ⟨hg12, hA12⟩)
          clear hK2 hA12 hg12 hE3
          go_upto_region 21 with fail
          have hK4 := hK3.below ((Below.refl _ _).alloc (Nat.le_refl _) (termBlock t2))
          have hC := heap_alloc_new w12 (termBlock t2)
          have hBC : B < w12.heap.size := hK3.rl.sz
          clear hK3
          generalize w12.alloc (termBlock t2) = w13 at *
          generalize w12.heap.size = C at *
          obtain ⟨c0, c1, c2, c3, c4, f1, f0⟩ := hK4.rl.cells
          have hK5 := hK4.setKind 3
          have hC5 : (w13.setCell ⟨B, 0, none⟩ (.int .i64 3)).heap[C]? = some (termBlock t2) := (Below.heap_setCell _ _ _ _ (show ¬ C = B by omega)).trans hC
          go_upto_region 22 with fail
          generalize w13.setCell ⟨B, 0, none⟩ (.int .i64 3) = w14 at *
          clear c0 c1 c2 c3 c4 f1 f0 hK4 hC
          obtain ⟨c0, c1, c2, c3, c4, f1, f0⟩ := hK5.rl.cells
          obtain ⟨a0, a1, _⟩ := hK5.cells
          have b0 : w14.cell? ⟨C, 0, none⟩ = some (.string ⟨t2.var.toArray⟩) := by rw [Lib.cell_of_heap hC5]; rfl
          have b1 : w14.cell? ⟨C, 1, none⟩ = some (.int .i64 t2.n) := by rw [Lib.cell_of_heap hC5]; rfl
          have hBs := hK5.rl.sz
          go_upto_region 23 with fail
          have hsz14 : (w14.setCell ⟨B, 4, none⟩ (.slice (some ⟨w14.heap.size, 0, none⟩) 2 2)).heap.size = w14.heap.size := by simp [World.setCell]
          have hI6 := (hK5.rl.setTerms (.slice (some ⟨w14.heap.size, 0, none⟩) 2 2)).below ((Below.refl _ _).alloc (Nat.le_refl _) (.cells #[.string ⟨t1.var.toArray⟩, .int .i64 t1.n, .string ⟨t2.var.toArray⟩, .int .i64 t2.n] 59))
          have hown6 : ((w14.setCell ⟨B, 4, none⟩ (.slice (some ⟨w14.heap.size, 0, none⟩) 2 2)).alloc (.cells #[.string ⟨t1.var.toArray⟩, .int .i64 t1.n, .string ⟨t2.var.toArray⟩, .int .i64 t2.n] 59)).ownsRow (B + 1) 59 2 (.slice (some ⟨w14.heap.size, 0, none⟩) 2 2) [t1, t2].length ([t1, t2].map termCells).flatten := by
            have h := World.ownsRow_lit (base := B + 1) (e := 59) (size := 2) (w14.setCell ⟨B, 4, none⟩ (.slice (some ⟨w14.heap.size, 0, none⟩) 2 2)) #[.string ⟨t1.var.toArray⟩, .int .i64 t1.n, .string ⟨t2.var.toArray⟩, .int .i64 t2.n] 2 (by rw [hsz14]; omega) (by decide) rfl
            rw [hsz14] at h
            exact h
          clear hsz14 c0 c1 c2 c3 c4 f1 f0 a0 a1 b0 b1 hK5 hC5 hBs hBC
          generalize (w14.setCell ⟨B, 4, none⟩ (.slice (some ⟨w14.heap.size, 0, none⟩) 2 2)).alloc (.cells #[.string ⟨t1.var.toArray⟩, .int .i64 t1.n, .string ⟨t2.var.toArray⟩, .int .i64 t2.n] 59) = w15 at *
          generalize w14.heap.size = g6 at *
          obtain ⟨c0, c1, c2, c3, c4, f1, f0⟩ := hI6.cells
          by_cases h4 : m ≤ 4
          · have hd4 : decide ((4 : Int) < (m : Int)) = false := decide_eq_false (by omega)
            have hbt : Tr.between (m : Int) 5 7 = false := by unfold Tr.between; rw [decide_eq_false (by omega : ¬ (5 : Int) ≤ m)]; rfl
            obtain ⟨x0, x1, x2, x3, x4⟩ := hI6.rcells
            have HF : Hid _ := Rd.ends_reck3 (at_ := at_) HE1.out HE2.out HE3.out hbt
            clear HE1 HE2 HE3 hbt
            go_wp2
            exact bodyPost_ret (v := litVal ⟨3, at_, m, [], [t1, t2]⟩ (.slice (some ⟨g6, 0, none⟩) 2 2)) (by simp [results, Tryz.results55, go_sem, x0, x1, x2, x3, x4]) rfl ⟨⟨3, at_, m, [], [t1, t2]⟩, _, s3, rfl, HF.out, hI6.out hown6 _ _ _ _ _⟩
          · have hd4 : decide ((4 : Int) < (m : Int)) = true := decide_eq_true (by omega)
            have hbt : Tr.between (m : Int) 5 7 = true := by unfold Tr.between; rw [decide_eq_true (by omega : (5 : Int) ≤ m), decide_eq_true (by omega : (m : Int) ≤ 7)]; rfl
            have HF : Hid (∀ t3 s4, Rd.Ends (Rd.on (Pr.term en) (Rd.need [61] en s3)) t3 s4 → Rd.Ends (Rd.on (Pr.reckon at_ en) s) ⟨4, at_, m, [], [t1, t2, t3]⟩ s4) := fun t3 s4 h => Rd.ends_reck4 (at_ := at_) HE1.out HE2.out HE3.out h hbt
            have hI7 := hI6.setKind 4
            have hown7 := ownsRow_setCell_below (a := ⟨B, 0, none⟩) hown6 (by simp) (.int .i64 4)
            clear HE1 HE2 HE3 hbt
            go_wp2_with fail
            refine (Need_any [61] (by simp) R L en s3 _ hI7.went.2).mono ?_
            rintro e w16 ⟨rfl, hA16, hg16⟩
            have hI8 := hI7.on ⟨hg16, hA16⟩
            have hown8 := ownsRow_grown hown7 hg16 (by have := hI7.lt; have := hI7.ltB; omega)
            clear hI6 hI7 hown6 hown7 c0 c1 c2 c3 c4 f1 f0 hA16 hg16
            generalize Rd.need [61] en s3 = s4 at *
            obtain ⟨c0, c1, c2, c3, c4, f1, f0⟩ := hI8.cells
            have HT3 : Hid (∀ w1, RAt w1 R L en s4 → _) := fun w1 h => Term_any R L en s4 w1 h
            have hRB : R < B + 1 := by have := hI8.lt; have := hI8.ltB; omega
            go_upto_region 26 with fail
            go_cut [] (fun wx => ∃ v t3 s5, Rd.Ends (Rd.on (Pr.term en) s4) t3 s5 ∧ RL w wx B R L en s5 4 at_ (m : Int) [] v ∧ wx.ownsRow (B + 1) 59 2 v [t1, t2, t3].length ([t1, t2, t3].map termCells).flatten)
            case first =>
              go_region_law (first
                | (go_simp; go_at_call 87; refine Calls.mono (HT3.out _ (RAt.keep hI8.went.2 (fun _ _ => rfl))) ?_; rintro e y2 ⟨t3, s5, rfl, hE5, hA5, hg5⟩; have HE5 : Hid _ := hE5; have hI9 := RL.on2 hI8 ⟨hg5, hA5⟩ ⟨rfl, rfl, rfl, Nat.le_refl _, fun _ _ => rfl⟩; have hown9 := own_on2 hown8 hg5 hRB ⟨rfl, rfl, rfl, Nat.le_refl _, fun _ _ => rfl⟩; obtain ⟨d0, d1, d2, d3, d4, g1, g0⟩ := hI9.cells; have hsz := hI9.sz; clear hE5; dsimp only)
                | (refine step_append_lies _ rfl (.tmp 85) (.tmp 88) 54 rfl (B + 1) 59 i0 _ 2 24 Tryz.underlying54 hi hz0 hz1 hz2 rfl (by decide) (.slice (some ⟨g6, 0, none⟩) 2 2) 2 _ ?hs (ownsRow_below hown9 ((Below.refl _ _).alloc (Nat.le_refl _) _)) ⟨y2.heap.size, 0, none⟩ 1 1 (termCells t3) ?hx rfl ?hn ?ho ?hm ?h6 ?hb ?hB _ rfl ?_
                   case hs => simp [Act.eval]
                   case hx => simp [Act.eval]
                   case hn => exact news_term _ _
                   case ho => exact one_term _
                   case hm => decide
                   case h6 => decide
                   case hb => decide
                   case hB => (simp; omega)
                   intro g cap y3 hown hgrow hat hlt
                   have hI10 := RL.put (v' := .slice (some ⟨g, 0, none⟩) 3 cap) (hI9.below ((Below.refl _ _).alloc (Nat.le_refl _) _)) (ownsRow_below hown9 ((Below.refl _ _).alloc (Nat.le_refl _) _)) hgrow
                   obtain ⟨_, _, e4, ef⟩ := RL.app (hI9.below ((Below.refl _ _).alloc (Nat.le_refl _) _)) (ownsRow_below hown9 ((Below.refl _ _).alloc (Nat.le_refl _) _)) hgrow))
              all_goals (go_wp2_with fail; go_meet)
              all_goals exact ⟨_, t3, s5, HE5.out, hI10, ownsRow_setCell_below (by simpa using hown) (by simp) _⟩
            case rest =>
              obtain ⟨v, t3, s5, hE5, hI10, hown10⟩ := hcut
              have HF5 : Hid _ := HF.out _ _ hE5
              generalize wc = w17 at *
              clear hE5 HF HT3 hI8 hown8 c0 c1 c2 c3 c4 f1 f0
              obtain ⟨ao, cap, rfl⟩ := own_slice hown10
              obtain ⟨c0, c1, c2, c3, c4, f1, f0⟩ := hI10.cells
              obtain ⟨x0, x1, x2, x3, x4⟩ := hI10.rcells
              go_wp2
              exact bodyPost_ret (v := litVal ⟨4, at_, m, [], [t1, t2, t3]⟩ (.slice ao 3 cap)) (by simp [results, Tryz.results55, go_sem, x0, x1, x2, x3, x4]) rfl ⟨⟨4, at_, m, [], [t1, t2, t3]⟩, _, s5, rfl, HF5.out, hI10.out hown10 _ _ _ _ _⟩

theorem Lit_any (R : Nat) (L : List Tk.Tok) (en : Int) (s : Int ⊕ List Tk.Tok) (w : World) (hA : RAt w R L en s) :
    Calls Tryz.prog 55 #[.pointer (some ⟨R, 0, none⟩)] w (RLitEnd R L en w (Rd.on (Pr.lit en) s)) := by
  cases s with
  | inl a => exact Lit_reck R L en (.inl a) w hA rfl (fun r h => by cases h)
  | inr r =>
    cases h1 : Pr.isText en r [110, 111, 116]
    · cases h2 : ((Pr.hd en r).kind == 1)
      · have h := Lit_reck R L en (.inr r) w hA (by rw [Rd.text_hd en]; exact h1) (fun r' h => by cases h; exact h2)
        have hX : Rd.on (Pr.lit en) (.inr r) = Rd.on (Pr.reckon (Rd.here en (.inr r)) en) (.inr r) := by show Pr.lit en r = Pr.reckon (Pr.hd en r).at_ en r; simp [Pr.lit, h1, h2]
        rw [hX]
        exact h
      · exact Lit_yes R L en r w hA h1 h2
    · exact Lit_not R L en r w hA h1

end Go.Proofs.YtgpaleifhcdjnaaGreatDoor

