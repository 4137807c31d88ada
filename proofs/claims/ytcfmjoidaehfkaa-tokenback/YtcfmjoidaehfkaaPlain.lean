/- Plain functions on bytes: what the tokens of a text are; nothing of the program stands here. -/
import Derived.WalkKit
namespace Go.Proofs.Ytcfmjoidaehfkaa
namespace Tk

def small (n : Int) : Bool := decide (97 ≤ n) && decide (n ≤ 122)
def great (n : Int) : Bool := decide (65 ≤ n) && decide (n ≤ 90)
def digit (n : Int) : Bool := decide (48 ≤ n) && decide (n ≤ 57)
def alnum (n : Int) : Bool := small n || great n || digit n
def noLf (n : Int) : Bool := n != 10

/-- How many bytes at the head are such. -/
def pre (p : Int → Bool) : List UInt8 → Nat
  | [] => 0
  | c :: r => if p (c.toNat : Int) then pre p r + 1 else 0

theorem pre_le (p : Int → Bool) (l : List UInt8) : pre p l ≤ l.length := by
  induction l with
  | nil => exact Nat.le_refl 0
  | cons c r ih => unfold pre; split <;> simp <;> omega

theorem drop_cons (l : List UInt8) (k : Nat) (h : k < l.length) : l.drop k = l[k] :: l.drop (k + 1) := List.drop_eq_getElem_cons h

theorem pre_drop_yes (p : Int → Bool) (l : List UInt8) (k : Nat) (h : k < l.length) (hp : p (l[k].toNat : Int) = true) : pre p (l.drop k) = pre p (l.drop (k + 1)) + 1 := by
  rw [drop_cons l k h, pre, if_pos hp]
theorem pre_drop_no (p : Int → Bool) (l : List UInt8) (k : Nat) (h : k < l.length) (hp : p (l[k].toNat : Int) = false) : pre p (l.drop k) = 0 := by
  rw [drop_cons l k h, pre, if_neg (by simp [hp])]
theorem pre_drop_end (p : Int → Bool) (l : List UInt8) (k : Nat) (h : l.length ≤ k) : pre p (l.drop k) = 0 := by
  rw [List.drop_of_length_le h, pre]

/-- How many bytes at the head part tokens; 'note': a remark has begun. -/
def sep : Bool → List UInt8 → Nat
  | _, [] => 0
  | true, c :: r => if (c.toNat : Int) = 10 then sep false r + 1 else sep true r + 1
  | false, c :: r => if (c.toNat : Int) = 37 then sep true r + 1 else if (c.toNat : Int) = 32 ∨ (c.toNat : Int) = 9 ∨ (c.toNat : Int) = 10 then sep false r + 1 else 0

/-- Is a byte a sign by itself? -/
def isSign (c : UInt8) : Bool := [40, 41, 44, 46, 60, 61, 43, 45, 42].contains c

/-- How many bytes the sign at the head has. -/
def signLen (l : List UInt8) : Nat :=
  if [58, 45].isPrefixOf l || [60, 61].isPrefixOf l || [33, 61].isPrefixOf l then 2 else
  match l with
  | [] => 0
  | c :: _ => if isSign c then 1 else 0

def kindOf (l : List UInt8) : Int :=
  match l with
  | [] => 4
  | c :: _ => if small c.toNat then 1 else if great c.toNat then 2 else if digit c.toNat then 3 else 4

/-- How many bytes the token at the head has. -/
def lenOf (l : List UInt8) : Nat :=
  match l with
  | [] => 0
  | c :: _ => if small c.toNat || great c.toNat then pre alnum l else if digit c.toNat then pre digit l else signLen l

/-- What is wrong with the token at the head: 0: nothing. -/
def errOf (l : List UInt8) : Int :=
  match l with
  | [] => 0
  | c :: _ =>
    if small c.toNat || great c.toNat then (if pre alnum l > 12 then 2 else 0)
    else if digit c.toNat then (if pre digit l > 7 then 2 else if (c.toNat : Int) = 48 ∧ pre digit l > 1 then 1 else 0)
    else if signLen l = 0 then 1 else 0

/-- A token. -/
structure Tok where
  kind : Int
  at_ : Int
  text : List UInt8

def tokAt (L : List UInt8) (p : Nat) : Tok := { kind := kindOf (L.drop p), at_ := p, text := (L.drop p).take (lenOf (L.drop p)) }

/-- The tokens from a place on, which begins a token (or is the end), behind those that came before; where it is wrong, and why (0, 0: nowhere). -/
def scanP (L : List UInt8) : Nat → Nat → List Tok → List Tok × Nat × Int
  | 0, _, acc => (acc, 0, 0)
  | f + 1, p, acc =>
    if L.length ≤ p then (acc, 0, 0)
    else if errOf (L.drop p) = 0 then scanP L f (p + lenOf (L.drop p) + sep false (L.drop (p + lenOf (L.drop p)))) (acc ++ [tokAt L p])
    else ([], p, errOf (L.drop p))

/-- What Scan answers. -/
def scan (L : List UInt8) : List Tok × Nat × Int :=
  if 5000 < L.length then ([], 0, 2) else scanP L L.length (sep false L) []

theorem scanP_end (L : List UInt8) (f p : Nat) (acc : List Tok) (h : L.length ≤ p) : scanP L f p acc = (acc, 0, 0) := by
  cases f with
  | zero => rfl
  | succ f => rw [scanP, if_pos h]
theorem scanP_no (L : List UInt8) (f p : Nat) (acc : List Tok) (h : p < L.length) (hf : L.length ≤ p + f) (he : ¬ errOf (L.drop p) = 0) : scanP L f p acc = ([], p, errOf (L.drop p)) := by
  cases f with
  | zero => omega
  | succ f => rw [scanP, if_neg (by omega), if_neg he]
theorem scanP_yes (L : List UInt8) (f p : Nat) (acc : List Tok) (h : p < L.length) (he : errOf (L.drop p) = 0) :
    scanP L (f + 1) p acc = scanP L f (p + lenOf (L.drop p) + sep false (L.drop (p + lenOf (L.drop p)))) (acc ++ [tokAt L p]) := by
  rw [scanP, if_neg (by omega), if_pos he]

theorem pre_pos {p : Int → Bool} {c : UInt8} {r : List UInt8} (h : p c.toNat = true) : 1 ≤ pre p (c :: r) := by rw [pre, if_pos h]; omega
/-- A token that is right has a byte at least, and lies within the text. -/
theorem lenOf_pos (l : List UInt8) (h : l ≠ []) (he : errOf l = 0) : 1 ≤ lenOf l := by
  match l, h with
  | c :: r, _ =>
    have e1 : errOf (c :: r) = if small c.toNat || great c.toNat then (if pre alnum (c :: r) > 12 then 2 else 0)
      else if digit c.toNat then (if pre digit (c :: r) > 7 then 2 else if (c.toNat : Int) = 48 ∧ pre digit (c :: r) > 1 then 1 else 0)
      else if signLen (c :: r) = 0 then 1 else 0 := rfl
    have e2 : lenOf (c :: r) = if small c.toNat || great c.toNat then pre alnum (c :: r) else if digit c.toNat then pre digit (c :: r) else signLen (c :: r) := rfl
    rw [he] at e1
    rw [e2]
    by_cases h1 : (small c.toNat || great c.toNat) = true
    · rw [if_pos h1]
      exact pre_pos (by unfold alnum; rw [h1]; rfl)
    · rw [if_neg h1] at e1 ⊢
      by_cases h2 : digit c.toNat = true
      · rw [if_pos h2]; exact pre_pos h2
      · rw [if_neg h2] at e1 ⊢
        by_cases h3 : signLen (c :: r) = 0
        · rw [if_pos h3] at e1; exact absurd e1 (by decide)
        · omega
theorem signLen_le (l : List UInt8) : signLen l ≤ l.length := by
  unfold signLen
  split
  · rename_i h
    simp only [Bool.or_eq_true] at h
    rcases h with (h | h) | h
    all_goals (have h2 := (List.isPrefixOf_iff_prefix.1 h).length_le; simpa using h2)
  · split
    · simp
    · split <;> simp
theorem lenOf_le (l : List UInt8) : lenOf l ≤ l.length := by
  match l with
  | [] => exact Nat.le_refl 0
  | c :: r =>
    have e2 : lenOf (c :: r) = if small c.toNat || great c.toNat then pre alnum (c :: r) else if digit c.toNat then pre digit (c :: r) else signLen (c :: r) := rfl
    rw [e2]
    split
    · exact pre_le _ _
    · split
      · exact pre_le _ _
      · exact signLen_le _

theorem sep_le (b : Bool) (l : List UInt8) : sep b l ≤ l.length := by
  induction l generalizing b with
  | nil => cases b <;> simp [sep]
  | cons c r ih =>
    have h1 := ih true; have h2 := ih false
    cases b
    · simp only [sep, List.length_cons]; split
      · omega
      · split <;> omega
    · simp only [sep, List.length_cons]; split <;> omega

theorem sep_note (l : List UInt8) : sep true l = pre noLf l + sep false (l.drop (pre noLf l)) := by
  induction l with
  | nil => rfl
  | cons c r ih =>
    by_cases h : (c.toNat : Int) = 10
    · have hp : pre noLf (c :: r) = 0 := by simp [pre, noLf, h]
      have h37 : ¬ ((c.toNat : Int) = 37) := by omega
      rw [hp, List.drop_zero]
      simp only [sep, if_pos h, if_neg h37, if_pos (show (c.toNat : Int) = 32 ∨ (c.toNat : Int) = 9 ∨ (c.toNat : Int) = 10 from .inr (.inr h))]
      omega
    · have hp : pre noLf (c :: r) = pre noLf r + 1 := by simp [pre, noLf, h]
      rw [hp, List.drop_succ_cons]
      simp only [sep, if_neg h]
      omega

end Tk
end Go.Proofs.Ytcfmjoidaehfkaa
