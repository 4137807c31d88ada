/- When a text is just one token. -/
import Derived.Test.YtcfmjoidaehfkaaRefScan
import Derived.Test.YtcfmjoidaehfkaaSame
namespace Go.Proofs.Ytcfmjoidaehfkaa
open Go.RowKit

namespace Tk
/-- Is a text just one token of a kind, as Scan tells? -/
def alone (k : Int) (t : List UInt8) : Bool := ((scan t).2.2 == 0) && (((scan t).1.length : Int) == 1) && ((tokD (scan t).1 0).kind == k) && ((tokD (scan t).1 0).text == t)
/-- Is a text just one token of a kind? -/
def isTok (k : Int) (t : List UInt8) : Bool := decide (t ≠ [] ∧ t.length ≤ 5000 ∧ errOf t = 0 ∧ kindOf t = k ∧ lenOf t = t.length)
end Tk

theorem sep_zero (c : UInt8) (r : List UInt8) (he : Tk.errOf (c :: r) = 0) : Tk.sep false (c :: r) = 0 := by
  have h := tok_cases c r
  have hk : ¬ ((c.toNat : Int) = 37 ∨ (c.toNat : Int) = 32 ∨ (c.toNat : Int) = 9 ∨ (c.toNat : Int) = 10) := by
    intro hc
    have h1 : Tk.small c.toNat = false := by unfold Tk.small; rcases hc with h | h | h | h <;> rw [h] <;> rfl
    have h2 : Tk.great c.toNat = false := by unfold Tk.great; rcases hc with h | h | h | h <;> rw [h] <;> rfl
    have h3 : Tk.digit c.toNat = false := by unfold Tk.digit; rcases hc with h | h | h | h <;> rw [h] <;> rfl
    have h4 : Tk.signLen (c :: r) = 0 := by
      have hn : c.toNat = 37 ∨ c.toNat = 32 ∨ c.toNat = 9 ∨ c.toNat = 10 := by omega
      have hc' : c = 37 ∨ c = 32 ∨ c = 9 ∨ c = 10 := by
        rcases hn with h | h | h | h
        · exact .inl (UInt8.toNat_inj.1 h)
        · exact .inr (.inl (UInt8.toNat_inj.1 h))
        · exact .inr (.inr (.inl (UInt8.toNat_inj.1 h)))
        · exact .inr (.inr (.inr (UInt8.toNat_inj.1 h)))
      rcases hc' with rfl | rfl | rfl | rfl <;> simp [Tk.signLen, Tk.isSign, List.isPrefixOf]
    rw [errOf_cons, h1, h2, h3] at he
    simp [h4] at he
  rw [Tk.sep, if_neg (fun h => hk (.inl h)), if_neg (fun h => hk (.inr h))]

theorem isTok_scan (k : Int) (t : List UInt8) (h : Tk.isTok k t = true) : Tk.scan t = ([{ kind := k, at_ := 0, text := t }], 0, 0) := by
  have h := of_decide_eq_true h
  obtain ⟨h1, h2, h3, h4, h5⟩ := h
  match t, h1 with
  | c :: r, _ =>
    unfold Tk.scan
    rw [if_neg (by omega), sep_zero c r h3]
    have hl : (c :: r).length = r.length + 1 := rfl
    rw [hl, Tk.scanP, if_neg (by simp), List.drop_zero, if_pos h3, Tk.scanP_end _ _ _ _ (by omega)]
    simp only [List.nil_append, Tk.tokAt, List.drop_zero, h4, h5]
    rw [List.take_length]
    rfl

theorem alone_of_isTok (k : Int) (t : List UInt8) (h : Tk.isTok k t = true) : Tk.alone k t = true := by
  unfold Tk.alone
  rw [isTok_scan k t h]
  simp [tokD]

/-- What scanP puts in front stays there. -/
theorem scanP_front (L : List UInt8) : ∀ (f p : Nat) (acc : List Tk.Tok), (Tk.scanP L f p acc).2.2 = 0 → ∃ r, (Tk.scanP L f p acc).1 = acc ++ r := by
  intro f
  induction f with
  | zero => intro p acc _; exact ⟨[], by simp [Tk.scanP]⟩
  | succ f ih =>
    intro p acc h
    rw [Tk.scanP] at h ⊢
    split
    · exact ⟨[], by simp⟩
    · rename_i h1
      rw [if_neg h1] at h
      split
      · rename_i h2
        rw [if_pos h2] at h
        obtain ⟨r, hr⟩ := ih _ _ h
        exact ⟨Tk.tokAt L p :: r, by rw [hr]; simp⟩
      · rename_i h2
        rw [if_neg h2] at h
        exact absurd h h2

theorem isTok_of_alone (k : Int) (t : List UInt8) (h : Tk.alone k t = true) : Tk.isTok k t = true := by
  unfold Tk.alone at h
  simp only [Bool.and_eq_true, beq_iff_eq] at h
  obtain ⟨⟨⟨h1, h2⟩, h3⟩, h4⟩ := h
  have hl : t.length ≤ 5000 := by
    by_cases hh : 5000 < t.length
    · exfalso
      rw [Tk.scan, if_pos hh] at h1
      exact absurd h1 (by decide)
    · omega
  have hs : Tk.scan t = Tk.scanP t t.length (Tk.sep false t) [] := by rw [Tk.scan, if_neg (by omega)]
  have hsl := Tk.sep_le false t
  rw [hs] at h1 h2 h3 h4
  generalize hp : Tk.sep false t = p at *
  have hlt : p < t.length := by
    rcases Nat.lt_or_ge p t.length with hh | hh
    · exact hh
    · exfalso
      rw [Tk.scanP_end _ _ _ _ hh] at h2
      exact absurd h2 (by decide)
  have he : Tk.errOf (t.drop p) = 0 := by
    by_cases hh : Tk.errOf (t.drop p) = 0
    · exact hh
    · exfalso
      rw [Tk.scanP_no _ _ _ _ hlt (by omega) hh] at h1
      exact hh h1
  obtain ⟨f, hf⟩ : ∃ f, t.length = f + 1 := ⟨t.length - 1, by omega⟩
  rw [hf, Tk.scanP_yes _ _ _ _ hlt he] at h1 h3 h4
  obtain ⟨r, hr⟩ := scanP_front t _ _ _ h1
  rw [hr] at h3 h4
  have e3 : (Tk.tokAt t p).kind = k := h3
  have e4 : (Tk.tokAt t p).text = t := h4
  have e5 : (t.drop p).take (Tk.lenOf (t.drop p)) = t := e4
  have e6 := congrArg List.length e5
  rw [List.length_take, List.length_drop] at e6
  have p0 : p = 0 := by omega
  subst p0
  rw [List.drop_zero] at e6 he
  have e7 : Tk.kindOf t = k := by have := e3; rw [Tk.tokAt, List.drop_zero] at this; exact this
  have hle := Tk.lenOf_le t
  refine decide_eq_true ⟨?_, hl, he, e7, by omega⟩
  intro hn
  rw [hn] at hlt
  exact absurd hlt (by simp)

theorem alone_eq (k : Int) (t : List UInt8) : Tk.alone k t = Tk.isTok k t := by
  rw [Bool.eq_iff_iff]
  exact ⟨isTok_of_alone k t, alone_of_isTok k t⟩

end Go.Proofs.Ytcfmjoidaehfkaa
