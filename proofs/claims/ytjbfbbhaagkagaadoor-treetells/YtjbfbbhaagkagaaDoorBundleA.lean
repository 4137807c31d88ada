/- Own texts, one behind the other (part 1). -/
import Derived.Test.YtjbfbbhaagkagaaDoorRows
import Derived.Test.YtjbfbbhaagkagaaDoorCards
import Derived.Test.YtjbfbbhaagkagaaDoorTie
import Derived.WalkKit
import Derived.WalkSpells
import Derived.WalkLawsBesides
import Derived.Deep.QuietTactic
import Derived.BigQuiet
import Derived.Shelf.Strings.Builder1
import Derived.Shelf.Small.Strs
import Derived.Shelf.Strconv.Atoi
import Derived.Shelf.LaysM
import Derived.Shelf.Strconv.Clone
import Derived.Shelf.Strings.Search1
import Derived.Shelf.Strings.Prefix
import Derived.Test.YtjbfbbhaagkagaaDoorProg
import Derived.LoopN
import Derived.Lib.IndexBytes
import Derived.Defers
import Derived.Recover
import Derived.RegionTactic
import Derived.ChangeAlike
import Derived.WalkSmall
import Derived.Lib.Atoi
import Derived.Lib.Builder
import Derived.Lib.AppendStr
import Derived.Lib.OthersKept
import Derived.Laws.Externs
/- Plain functions on bytes: what the tokens of a text are; nothing of the program stands here. -/
namespace Go.Proofs.YtjbfbbhaagkagaaDoor
namespace Tk

def small (n : Int) : Bool := decide (97 ≤ n) && decide (n ≤ 122)
def great (n : Int) : Bool := decide (65 ≤ n) && decide (n ≤ 90)
def digit (n : Int) : Bool := decide (48 ≤ n) && decide (n ≤ 57)
def alnum (n : Int) : Bool := small n || great n || digit n
def noLf (n : Int) : Bool := n != 10

/-- How many bytes at the head are such. -/
def pre (p : Int → Bool) : List UInt8 → Nat
  | [] => 0
  | c :: r => if p (c.toNat : Int) then pre p r + 1 else 0

theorem pre_le (p : Int → Bool) (l : List UInt8) : pre p l ≤ l.length := by
  induction l with
  | nil => exact Nat.le_refl 0
  | cons c r ih => unfold pre; split <;> simp <;> omega

theorem drop_cons (l : List UInt8) (k : Nat) (h : k < l.length) : l.drop k = l[k] :: l.drop (k + 1) := List.drop_eq_getElem_cons h

theorem pre_drop_yes (p : Int → Bool) (l : List UInt8) (k : Nat) (h : k < l.length) (hp : p (l[k].toNat : Int) = true) : pre p (l.drop k) = pre p (l.drop (k + 1)) + 1 := by
  rw [drop_cons l k h, pre, if_pos hp]
theorem pre_drop_no (p : Int → Bool) (l : List UInt8) (k : Nat) (h : k < l.length) (hp : p (l[k].toNat : Int) = false) : pre p (l.drop k) = 0 := by
  rw [drop_cons l k h, pre, if_neg (by simp [hp])]
theorem pre_drop_end (p : Int → Bool) (l : List UInt8) (k : Nat) (h : l.length ≤ k) : pre p (l.drop k) = 0 := by
  rw [List.drop_of_length_le h, pre]

/-- How many bytes at the head part tokens; 'note': a remark has begun. -/
def sep : Bool → List UInt8 → Nat
  | _, [] => 0
  | true, c :: r => if (c.toNat : Int) = 10 then sep false r + 1 else sep true r + 1
  | false, c :: r => if (c.toNat : Int) = 37 then sep true r + 1 else if (c.toNat : Int) = 32 ∨ (c.toNat : Int) = 9 ∨ (c.toNat : Int) = 10 then sep false r + 1 else 0

/-- Is a byte a sign by itself? -/
def isSign (c : UInt8) : Bool := [40, 41, 44, 46, 60, 61, 43, 45, 42].contains c

/-- How many bytes the sign at the head has. -/
def signLen (l : List UInt8) : Nat :=
  if [58, 45].isPrefixOf l || [60, 61].isPrefixOf l || [33, 61].isPrefixOf l then 2 else
  match l with
  | [] => 0
  | c :: _ => if isSign c then 1 else 0

def kindOf (l : List UInt8) : Int :=
  match l with
  | [] => 4
  | c :: _ => if small c.toNat then 1 else if great c.toNat then 2 else if digit c.toNat then 3 else 4

/-- How many bytes the token at the head has. -/
def lenOf (l : List UInt8) : Nat :=
  match l with
  | [] => 0
  | c :: _ => if small c.toNat || great c.toNat then pre alnum l else if digit c.toNat then pre digit l else signLen l

/-- What is wrong with the token at the head: 0: nothing. -/
def errOf (l : List UInt8) : Int :=
  match l with
  | [] => 0
  | c :: _ =>
    if small c.toNat || great c.toNat then (if pre alnum l > 12 then 2 else 0)
    else if digit c.toNat then (if pre digit l > 7 then 2 else if (c.toNat : Int) = 48 ∧ pre digit l > 1 then 1 else 0)
    else if signLen l = 0 then 1 else 0

/-- A token. -/
structure Tok where
  kind : Int
  at_ : Int
  text : List UInt8

def tokAt (L : List UInt8) (p : Nat) : Tok := { kind := kindOf (L.drop p), at_ := p, text := (L.drop p).take (lenOf (L.drop p)) }

/-- The tokens from a place on, which begins a token (or is the end), behind those that came before; where it is wrong, and why (0, 0: nowhere). -/
def scanP (L : List UInt8) : Nat → Nat → List Tok → List Tok × Nat × Int
  | 0, _, acc => (acc, 0, 0)
  | f + 1, p, acc =>
    if L.length ≤ p then (acc, 0, 0)
    else if errOf (L.drop p) = 0 then scanP L f (p + lenOf (L.drop p) + sep false (L.drop (p + lenOf (L.drop p)))) (acc ++ [tokAt L p])
    else ([], p, errOf (L.drop p))

/-- What Scan answers. -/
def scan (L : List UInt8) : List Tok × Nat × Int :=
  if 5000 < L.length then ([], 0, 2) else scanP L L.length (sep false L) []

theorem scanP_end (L : List UInt8) (f p : Nat) (acc : List Tok) (h : L.length ≤ p) : scanP L f p acc = (acc, 0, 0) := by
  cases f with
  | zero => rfl
  | succ f => rw [scanP, if_pos h]
theorem scanP_no (L : List UInt8) (f p : Nat) (acc : List Tok) (h : p < L.length) (hf : L.length ≤ p + f) (he : ¬ errOf (L.drop p) = 0) : scanP L f p acc = ([], p, errOf (L.drop p)) := by
  cases f with
  | zero => omega
  | succ f => rw [scanP, if_neg (by omega), if_neg he]
theorem scanP_yes (L : List UInt8) (f p : Nat) (acc : List Tok) (h : p < L.length) (he : errOf (L.drop p) = 0) :
    scanP L (f + 1) p acc = scanP L f (p + lenOf (L.drop p) + sep false (L.drop (p + lenOf (L.drop p)))) (acc ++ [tokAt L p]) := by
  rw [scanP, if_neg (by omega), if_pos he]

theorem pre_pos {p : Int → Bool} {c : UInt8} {r : List UInt8} (h : p c.toNat = true) : 1 ≤ pre p (c :: r) := by rw [pre, if_pos h]; omega
/-- A token that is right has a byte at least, and lies within the text. -/
theorem lenOf_pos (l : List UInt8) (h : l ≠ []) (he : errOf l = 0) : 1 ≤ lenOf l := by
  match l, h with
  | c :: r, _ =>
    have e1 : errOf (c :: r) = if small c.toNat || great c.toNat then (if pre alnum (c :: r) > 12 then 2 else 0)
      else if digit c.toNat then (if pre digit (c :: r) > 7 then 2 else if (c.toNat : Int) = 48 ∧ pre digit (c :: r) > 1 then 1 else 0)
      else if signLen (c :: r) = 0 then 1 else 0 := rfl
    have e2 : lenOf (c :: r) = if small c.toNat || great c.toNat then pre alnum (c :: r) else if digit c.toNat then pre digit (c :: r) else signLen (c :: r) := rfl
    rw [he] at e1
    rw [e2]
    by_cases h1 : (small c.toNat || great c.toNat) = true
    · rw [if_pos h1]
      exact pre_pos (by unfold alnum; rw [h1]; rfl)
    · rw [if_neg h1] at e1 ⊢
      by_cases h2 : digit c.toNat = true
      · rw [if_pos h2]; exact pre_pos h2
      · rw [if_neg h2] at e1 ⊢
        by_cases h3 : signLen (c :: r) = 0
        · rw [if_pos h3] at e1; exact absurd e1 (by decide)
        · omega
theorem signLen_le (l : List UInt8) : signLen l ≤ l.length := by
  unfold signLen
  split
  · rename_i h
    simp only [Bool.or_eq_true] at h
    rcases h with (h | h) | h
    all_goals (have h2 := (List.isPrefixOf_iff_prefix.1 h).length_le; simpa using h2)
  · split
    · simp
    · split <;> simp
theorem lenOf_le (l : List UInt8) : lenOf l ≤ l.length := by
  match l with
  | [] => exact Nat.le_refl 0
  | c :: r =>
    have e2 : lenOf (c :: r) = if small c.toNat || great c.toNat then pre alnum (c :: r) else if digit c.toNat then pre digit (c :: r) else signLen (c :: r) := rfl
    rw [e2]
    split
    · exact pre_le _ _
    · split
      · exact pre_le _ _
      · exact signLen_le _

theorem sep_le (b : Bool) (l : List UInt8) : sep b l ≤ l.length := by
  induction l generalizing b with
  | nil => cases b <;> simp [sep]
  | cons c r ih =>
    have h1 := ih true; have h2 := ih false
    cases b
    · simp only [sep, List.length_cons]; split
      · omega
      · split <;> omega
    · simp only [sep, List.length_cons]; split <;> omega

theorem sep_note (l : List UInt8) : sep true l = pre noLf l + sep false (l.drop (pre noLf l)) := by
  induction l with
  | nil => rfl
  | cons c r ih =>
    by_cases h : (c.toNat : Int) = 10
    · have hp : pre noLf (c :: r) = 0 := by simp [pre, noLf, h]
      have h37 : ¬ ((c.toNat : Int) = 37) := by omega
      rw [hp, List.drop_zero]
      simp only [sep, if_pos h, if_neg h37, if_pos (show (c.toNat : Int) = 32 ∨ (c.toNat : Int) = 9 ∨ (c.toNat : Int) = 10 from .inr (.inr h))]
      omega
    · have hp : pre noLf (c :: r) = pre noLf r + 1 := by simp [pre, noLf, h]
      rw [hp, List.drop_succ_cons]
      simp only [sep, if_neg h]
      omega

end Tk
end Go.Proofs.YtjbfbbhaagkagaaDoor

/- The small functions of package token: what each call answers. -/
namespace Go.Proofs.YtjbfbbhaagkagaaDoor
open Go.RowKit

set_option maxRecDepth 100000 in
set_option maxHeartbeats 400000 in
theorem isSmall_any (n : Int) (w : World) : Calls Tryd.prog 44 #[.int .u8 n] w fun e w' => e = .returned (.bool (Tk.small n)) ∧ w' = w := by
  by_cases h : 97 ≤ n
  · go_enter Tryd.func44, Tryd.ntmps44
    go_wp2
    go_ret
    exact ⟨by simp [Tk.small, h], rfl⟩
  · have hd : decide (97 ≤ n) = false := by simpa using h
    go_enter Tryd.func44, Tryd.ntmps44
    go_wp2
    go_ret
    exact ⟨by simp only [Tk.small, hd, Bool.false_and]; rfl, rfl⟩

set_option maxRecDepth 100000 in
set_option maxHeartbeats 400000 in
theorem isGreat_any (n : Int) (w : World) : Calls Tryd.prog 46 #[.int .u8 n] w fun e w' => e = .returned (.bool (Tk.great n)) ∧ w' = w := by
  by_cases h : 65 ≤ n
  · go_enter Tryd.func46, Tryd.ntmps46
    go_wp2
    go_ret
    exact ⟨by simp [Tk.great, h], rfl⟩
  · have hd : decide (65 ≤ n) = false := by simpa using h
    go_enter Tryd.func46, Tryd.ntmps46
    go_wp2
    go_ret
    exact ⟨by simp only [Tk.great, hd, Bool.false_and]; rfl, rfl⟩

set_option maxRecDepth 100000 in
set_option maxHeartbeats 400000 in
theorem isDigit_any (n : Int) (w : World) : Calls Tryd.prog 47 #[.int .u8 n] w fun e w' => e = .returned (.bool (Tk.digit n)) ∧ w' = w := by
  by_cases h : 48 ≤ n
  · go_enter Tryd.func47, Tryd.ntmps47
    go_wp2
    go_ret
    exact ⟨by simp [Tk.digit, h], rfl⟩
  · have hd : decide (48 ≤ n) = false := by simpa using h
    go_enter Tryd.func47, Tryd.ntmps47
    go_wp2
    go_ret
    exact ⟨by simp only [Tk.digit, hd, Bool.false_and]; rfl, rfl⟩

set_option maxRecDepth 100000 in
set_option maxHeartbeats 400000 in
theorem noLf_any (n : Int) (w : World) : Calls Tryd.prog 43 #[.int .u8 n] w fun e w' => e = .returned (.bool (Tk.noLf n)) ∧ w' = w := by
  go_enter Tryd.func43, Tryd.ntmps43
  go_wp2
  go_ret
  exact ⟨by simp [Tk.noLf], rfl⟩

set_option maxRecDepth 100000 in
set_option maxHeartbeats 400000 in
theorem alnum_any (n : Int) (w : World) : Calls Tryd.prog 56 #[.int .u8 n] w fun e w' => e = .returned (.bool (Tk.alnum n)) ∧ w' = w := by
  unfold Tk.alnum
  cases h1 : Tk.small n
  · cases h2 : Tk.great n
    · go_enter Tryd.func56, Tryd.ntmps56
      go_wp2_with (first | (go_at_call 44; refine (isSmall_any _ _).mono ?_; rintro e w' ⟨rfl, rfl⟩) | (go_at_call 46; refine (isGreat_any _ _).mono ?_; rintro e w' ⟨rfl, rfl⟩) | (go_at_call 47; refine (isDigit_any _ _).mono ?_; rintro e w' ⟨rfl, rfl⟩))
      go_ret
      exact ⟨by simp, rfl⟩
    · go_enter Tryd.func56, Tryd.ntmps56
      go_wp2_with (first | (go_at_call 44; refine (isSmall_any _ _).mono ?_; rintro e w' ⟨rfl, rfl⟩) | (go_at_call 46; refine (isGreat_any _ _).mono ?_; rintro e w' ⟨rfl, rfl⟩) | (go_at_call 47; refine (isDigit_any _ _).mono ?_; rintro e w' ⟨rfl, rfl⟩))
      go_ret
      exact ⟨by simp, rfl⟩
  · go_enter Tryd.func56, Tryd.ntmps56
    go_wp2_with (first | (go_at_call 44; refine (isSmall_any _ _).mono ?_; rintro e w' ⟨rfl, rfl⟩) | (go_at_call 46; refine (isGreat_any _ _).mono ?_; rintro e w' ⟨rfl, rfl⟩) | (go_at_call 47; refine (isDigit_any _ _).mono ?_; rintro e w' ⟨rfl, rfl⟩))
    go_ret
    exact ⟨by simp, rfl⟩

theorem ret_int {k : IntKind} {a b : Int} (h : a = b) : Ending.returned (.int k a) = .returned (.int k b) := by rw [h]

/-- What a function value must be for 'run'. -/
def Tests (g : Nat) (p : Int → Bool) : Prop := ∀ (n : Int) (w : World), Calls Tryd.prog g #[.int .u8 n] w fun e w' => e = .returned (.bool (p n)) ∧ w' = w

/-- A call of a function value enters the function. -/
def Enters (g : Nat) : Prop := ∀ (a : Array Value) (w : World), (callFunc g a).run Tryd.prog w = .ok (.enter g a) w

set_option maxRecDepth 100000 in
set_option maxHeartbeats 400000 in
theorem run_any (g : Nat) (p : Int → Bool) (hg : Tests g p) (hcf : Enters g) (s : ByteArray) (at0 : Nat) (w : World) (hs : s.size ≤ maxLen) (ha : at0 ≤ s.size) :
    Calls Tryd.prog 42 #[.string s, .int .i64 at0, .func (.func g) #[] #[]] w fun e w' => e = .returned (.int .i64 ((at0 + Tk.pre p (s.data.toList.drop at0) : Nat) : Int)) ∧ w' = w := by
  unfold maxLen at hs
  go_enter Tryd.func42, Tryd.ntmps42
  go_wp2
  go_loop [1] (fun i => ∃ k : Nat, k ≤ s.size ∧ i = .int .i64 k ∧ at0 + Tk.pre p (s.data.toList.drop at0) = k + Tk.pre p (s.data.toList.drop k)) (fun i => s.size - (intOf i).toNat)
  case atStart => exact ⟨at0, ha, rfl, rfl⟩
  case round =>
    obtain ⟨k, hk, rfl, hk2⟩ := hrel
    have HK : Hid (at0 + Tk.pre p (s.data.toList.drop at0) = k + Tk.pre p (s.data.toList.drop k)) := hk2
    clear hk2
    by_cases hlt : k < s.size
    · go_wp2_with fail
      rw [hcf, Oper.upon_enter]
      refine (hg _ _).mono ?_
      rintro e w' ⟨rfl, rfl⟩
      have hl : k < s.data.toList.length := by simpa using hlt
      cases hp : p (s[k].toNat : Int)
      · have HE : Hid (Tk.pre p (s.data.toList.drop k) = 0) := Tk.pre_drop_no p s.data.toList k hl hp
        clear hp
        go_wp2
        go_ret
        exact ⟨ret_int (by have h1 := HK.out; have h2 := HE.out; omega), rfl⟩
      · have HE : Hid (Tk.pre p (s.data.toList.drop k) = Tk.pre p (s.data.toList.drop (k + 1)) + 1) := Tk.pre_drop_yes p s.data.toList k hl hp
        clear hp
        go_wp2
        go_round
        case rel => exact ⟨k + 1, by omega, by go_num, by rw [HK.out, HE.out]; omega⟩
        case measure => simp [intOf]; omega
    · have HE : Hid (Tk.pre p (s.data.toList.drop k) = 0) := Tk.pre_drop_end p s.data.toList k (by simp; omega)
      go_wp2
      go_ret
      exact ⟨ret_int (by have h1 := HK.out; have h2 := HE.out; omega), rfl⟩

theorem enters_of {f : FuncId} {fn : Func} {c : Code} (hf : Tryd.prog.funcs[f]? = some fn) (hname : (fn.name == "runtime.NumGoroutine") = false) (hb : fn.body = some c) : Enters f := by
  intro a w
  have h1 : fn.name ≠ "runtime.NumGoroutine" := by simpa using hname
  simp [callFunc, hf, h1, hb]
theorem enters43 : Enters 43 := enters_of Tryd.func43 (by kernel_rfl) rfl
theorem enters47 : Enters 47 := enters_of Tryd.func47 (by kernel_rfl) rfl
theorem enters56 : Enters 56 := enters_of Tryd.func56 (by kernel_rfl) rfl

end Go.Proofs.YtjbfbbhaagkagaaDoor

/- The contracts of the library functions that package token calls, laid at this program. -/
namespace Go.Proofs
open Go.Shelf
def Tryd.lays170_ren : Go.Shelf.Ren := ⟨fun | 170 => 18 | n => n, fun | 70 => 52 | 3 => 3 | 0 => 0 | 72 => 55 | 37 => 53 | 5 => 5 | n => n, fun | n => n⟩
theorem Tryd.lays170 : Go.Proofs.Lays.n170 Tryd.prog Tryd.lays170_ren := {
  mixed := by kernel_rfl
  f170 := Tryd.func18.trans (congrArg some (by kernel_rfl))
  t0 := Tryd.underlying0
  a0 := Tryd.isAgg0
  z0 := Tryd.sizeOf0
  v0 := Tryd.zeroValue0
  t3 := Tryd.underlying3
  a3 := Tryd.isAgg3
  z3 := Tryd.sizeOf3
  v3 := Tryd.zeroValue3
  t37 := Tryd.underlying53
  a37 := Tryd.isAgg53
  z37 := Tryd.sizeOf53
  v37 := Tryd.zeroValue53
  t70 := Tryd.underlying52
  a70 := Tryd.isAgg52
  z70 := Tryd.sizeOf52
  v70 := Tryd.zeroValue52
  t72 := Tryd.underlying55
  a72 := Tryd.isAgg55
  z72 := Tryd.sizeOf55
  v72 := Tryd.zeroValue55 }
open Go.RowKit in
theorem Tryd.Builder_Len (B b : Nat) (bs : List Value) (w : World) (h : Lib.IsBuilder 55 5 B b bs w) :
    Calls Tryd.prog 18 #[.pointer (some ⟨b, 0, none⟩)] w fun e w' => e = .returned (.int .i64 bs.length) ∧ w' = w := Any.Builder_Len Tryd.lays170 B b bs w h
def Tryd.lays169_ren : Go.Shelf.Ren := ⟨fun | 169 => 19 | n => n, fun | 70 => 52 | 9 => 9 | 0 => 0 | 72 => 55 | 37 => 53 | 127 => 74 | 3 => 3 | 5 => 5 | n => n, fun | n => n⟩
theorem Tryd.lays169 : Go.Proofs.Lays.n169 Tryd.prog Tryd.lays169_ren := {
  mixed := by kernel_rfl
  f169 := Tryd.func19.trans (congrArg some (by kernel_rfl))
  t0 := Tryd.underlying0
  a0 := Tryd.isAgg0
  z0 := Tryd.sizeOf0
  v0 := Tryd.zeroValue0
  t3 := Tryd.underlying3
  a3 := Tryd.isAgg3
  z3 := Tryd.sizeOf3
  v3 := Tryd.zeroValue3
  t9 := Tryd.underlying9
  a9 := Tryd.isAgg9
  z9 := Tryd.sizeOf9
  v9 := Tryd.zeroValue9
  t37 := Tryd.underlying53
  a37 := Tryd.isAgg53
  z37 := Tryd.sizeOf53
  v37 := Tryd.zeroValue53
  t70 := Tryd.underlying52
  a70 := Tryd.isAgg52
  z70 := Tryd.sizeOf52
  v70 := Tryd.zeroValue52
  t72 := Tryd.underlying55
  a72 := Tryd.isAgg55
  z72 := Tryd.sizeOf55
  v72 := Tryd.zeroValue55
  t127 := Tryd.underlying74
  a127 := Tryd.isAgg74
  z127 := Tryd.sizeOf74
  v127 := Tryd.zeroValue74 }
theorem Tryd.Builder_Extra_169 : Builder.Extra Tryd.prog Tryd.lays169_ren := {
  sizeBuilder := by kernel_rfl
  liesBuilder := by kernel_rfl
  t5 := Tryd.underlying5
  a5 := Tryd.isAgg5
  z5 := Tryd.sizeOf5
  v5 := Tryd.zeroValue5
  infoByte := by kernel_rfl
  cellsByte := by kernel_rfl
  sizeByte := by kernel_rfl
  neB5 := by decide }
open Go.RowKit in
theorem Tryd.Builder_String (B b : Nat) (l : List UInt8) (w : World) (h : Lib.IsBuilder 55 5 B b (Lib.byteCells l) w) (h0 : l ≠ []) :
    Calls Tryd.prog 19 #[.pointer (some ⟨b, 0, none⟩)] w fun e w' => e = .returned (.string ⟨l.toArray⟩) ∧ Below B w w' := Any.Builder_String Tryd.lays169 Tryd.Builder_Extra_169 B b l w h h0
open Go.RowKit in
theorem Tryd.Builder_String_empty (B b : Nat) (w : World) (h : Lib.IsBuilder 55 5 B b [] w) (hBw : B ≤ w.heap.size) :
    Calls Tryd.prog 19 #[.pointer (some ⟨b, 0, none⟩)] w fun e w' => e = .returned (.string ⟨#[]⟩) ∧ Below B w w' := Any.Builder_String_empty Tryd.lays169 Tryd.Builder_Extra_169 B b w h hBw
open Go.RowKit in
theorem Tryd.Builder_String_any (B b : Nat) (l : List UInt8) (w : World) (h : Lib.IsBuilder 55 5 B b (Lib.byteCells l) w) (hBw : B ≤ w.heap.size) :
    Calls Tryd.prog 19 #[.pointer (some ⟨b, 0, none⟩)] w fun e w' => e = .returned (.string ⟨l.toArray⟩) ∧ Below B w w' := Any.Builder_String_any Tryd.lays169 Tryd.Builder_Extra_169 B b l w h hBw
def Tryd.lays137_ren : Go.Shelf.Ren := ⟨fun | 137 => 63 | 217 => 68 | 266 => 71 | n => n, fun | 9 => 9 | 5 => 5 | 3 => 3 | n => n, fun | n => n⟩
theorem Tryd.lays137 : Go.Proofs.Lays.n137 Tryd.prog Tryd.lays137_ren := {
  mixed := by kernel_rfl
  f137 := Tryd.func63.trans (congrArg some (by kernel_rfl))
  f217 := Tryd.func68.trans (congrArg some (by kernel_rfl))
  f266 := Tryd.func71.trans (congrArg some (by kernel_rfl))
  t3 := Tryd.underlying3
  a3 := Tryd.isAgg3
  z3 := Tryd.sizeOf3
  v3 := Tryd.zeroValue3
  t5 := Tryd.underlying5
  a5 := Tryd.isAgg5
  z5 := Tryd.sizeOf5
  v5 := Tryd.zeroValue5
  t9 := Tryd.underlying9
  a9 := Tryd.isAgg9
  z9 := Tryd.sizeOf9
  v9 := Tryd.zeroValue9 }
open Go.RowKit in
theorem Tryd.strings_IndexByte (s : ByteArray) (c : Int) (w : World) :
    Calls Tryd.prog 63 #[.string s, .int .u8 c] w fun e w' => e = .returned (.int .i64 (Lib.indexByte s.data.toList c.toNat.toUInt8)) ∧ w' = w := Any.strings_IndexByte Tryd.lays137 s c w
def Tryd.lays172_ren : Go.Shelf.Ren := ⟨fun | 172 => 64 | 244 => 69 | 245 => 70 | 247 => 72 | 279 => 73 | 280 => 74 | 281 => 75 | 282 => 76 | 287 => 77 | 316 => 66 | 171 => 79 | 205 => 78 | 321 => 80 | 322 => 81 | 243 => 82 | 246 => 83 | 283 => 84 | 284 => 85 | 285 => 86 | 286 => 87 | 129 => 89 | 317 => 88 | 318 => 90 | 319 => 91 | 320 => 92 | 337 => 93 | 338 => 94 | n => n, fun | 9 => 9 | 3 => 3 | 75 => 58 | 76 => 60 | 4 => 4 | 5 => 5 | 167 => 99 | 37 => 53 | 0 => 0 | 85 => 100 | 2 => 2 | 168 => 102 | 53 => 105 | 175 => 106 | 46 => 108 | 210 => 110 | 127 => 74 | 145 => 116 | 143 => 114 | 21 => 21 | 171 => 118 | 173 => 121 | 212 => 125 | 51 => 126 | 20 => 20 | 213 => 127 | 232 => 130 | 233 => 131 | 80 => 63 | n => n, fun | 15 => 1 | 16 => 2 | 17 => 3 | 18 => 4 | 19 => 5 | n => n⟩
theorem Tryd.lays172 : Go.Proofs.Lays.n172 Tryd.prog Tryd.lays172_ren := {
  mixed := by kernel_rfl
  f129 := Tryd.func89.trans (congrArg some (by kernel_rfl))
  f171 := Tryd.func79.trans (congrArg some (by kernel_rfl))
  f172 := Tryd.func64.trans (congrArg some (by kernel_rfl))
  f205 := Tryd.func78.trans (congrArg some (by kernel_rfl))
  f243 := Tryd.func82.trans (congrArg some (by kernel_rfl))
  f244 := Tryd.func69.trans (congrArg some (by kernel_rfl))
  f245 := Tryd.func70.trans (congrArg some (by kernel_rfl))
  f246 := Tryd.func83.trans (congrArg some (by kernel_rfl))
  f247 := Tryd.func72.trans (congrArg some (by kernel_rfl))
  f279 := Tryd.func73.trans (congrArg some (by kernel_rfl))
  f280 := Tryd.func74.trans (congrArg some (by kernel_rfl))
  f281 := Tryd.func75.trans (congrArg some (by kernel_rfl))
  f282 := Tryd.func76.trans (congrArg some (by kernel_rfl))
  f283 := Tryd.func84.trans (congrArg some (by kernel_rfl))
  f284 := Tryd.func85.trans (congrArg some (by kernel_rfl))
  f285 := Tryd.func86.trans (congrArg some (by kernel_rfl))
  f286 := Tryd.func87.trans (congrArg some (by kernel_rfl))
  f287 := Tryd.func77.trans (congrArg some (by kernel_rfl))
  f316 := Tryd.func66.trans (congrArg some (by kernel_rfl))
  f317 := Tryd.func88.trans (congrArg some (by kernel_rfl))
  f318 := Tryd.func90.trans (congrArg some (by kernel_rfl))
  f319 := Tryd.func91.trans (congrArg some (by kernel_rfl))
  f320 := Tryd.func92.trans (congrArg some (by kernel_rfl))
  f321 := Tryd.func80.trans (congrArg some (by kernel_rfl))
  f322 := Tryd.func81.trans (congrArg some (by kernel_rfl))
  f337 := Tryd.func93.trans (congrArg some (by kernel_rfl))
  f338 := Tryd.func94.trans (congrArg some (by kernel_rfl))
  t0 := Tryd.underlying0
  a0 := Tryd.isAgg0
  z0 := Tryd.sizeOf0
  v0 := Tryd.zeroValue0
  t2 := Tryd.underlying2
  a2 := Tryd.isAgg2
  z2 := Tryd.sizeOf2
  v2 := Tryd.zeroValue2
  t3 := Tryd.underlying3
  a3 := Tryd.isAgg3
  z3 := Tryd.sizeOf3
  v3 := Tryd.zeroValue3
  t4 := Tryd.underlying4
  a4 := Tryd.isAgg4
  z4 := Tryd.sizeOf4
  v4 := Tryd.zeroValue4
  t5 := Tryd.underlying5
  a5 := Tryd.isAgg5
  z5 := Tryd.sizeOf5
  v5 := Tryd.zeroValue5
  t9 := Tryd.underlying9
  a9 := Tryd.isAgg9
  z9 := Tryd.sizeOf9
  v9 := Tryd.zeroValue9
  t20 := Tryd.underlying20
  a20 := Tryd.isAgg20
  z20 := Tryd.sizeOf20
  v20 := Tryd.zeroValue20
  t21 := Tryd.underlying21
  a21 := Tryd.isAgg21
  z21 := Tryd.sizeOf21
  v21 := Tryd.zeroValue21
  t37 := Tryd.underlying53
  a37 := Tryd.isAgg53
  z37 := Tryd.sizeOf53
  v37 := Tryd.zeroValue53
  t46 := Tryd.underlying108
  a46 := Tryd.isAgg108
  z46 := Tryd.sizeOf108
  v46 := Tryd.zeroValue108
  t51 := Tryd.underlying126
  a51 := Tryd.isAgg126
  z51 := Tryd.sizeOf126
  v51 := Tryd.zeroValue126
  t53 := Tryd.underlying105
  a53 := Tryd.isAgg105
  z53 := Tryd.sizeOf105
  v53 := Tryd.zeroValue105
  t75 := Tryd.underlying58
  a75 := Tryd.isAgg58
  z75 := Tryd.sizeOf58
  v75 := Tryd.zeroValue58
  t76 := Tryd.underlying60
  a76 := Tryd.isAgg60
  z76 := Tryd.sizeOf60
  v76 := Tryd.zeroValue60
  t85 := Tryd.underlying100
  a85 := Tryd.isAgg100
  z85 := Tryd.sizeOf100
  v85 := Tryd.zeroValue100
  t127 := Tryd.underlying74
  a127 := Tryd.isAgg74
  z127 := Tryd.sizeOf74
  v127 := Tryd.zeroValue74
  t143 := Tryd.underlying114
  a143 := Tryd.isAgg114
  z143 := Tryd.sizeOf114
  v143 := Tryd.zeroValue114
  t145 := Tryd.underlying116
  a145 := Tryd.isAgg116
  z145 := Tryd.sizeOf116
  v145 := Tryd.zeroValue116
  t167 := Tryd.underlying99
  a167 := Tryd.isAgg99
  z167 := Tryd.sizeOf99
  v167 := Tryd.zeroValue99
  t168 := Tryd.underlying102
  a168 := Tryd.isAgg102
  z168 := Tryd.sizeOf102
  v168 := Tryd.zeroValue102
  t171 := Tryd.underlying118
  a171 := Tryd.isAgg118
  z171 := Tryd.sizeOf118
  v171 := Tryd.zeroValue118
  t173 := Tryd.underlying121
  a173 := Tryd.isAgg121
  z173 := Tryd.sizeOf121
  v173 := Tryd.zeroValue121
  t175 := Tryd.underlying106
  a175 := Tryd.isAgg106
  z175 := Tryd.sizeOf106
  v175 := Tryd.zeroValue106
  t210 := Tryd.underlying110
  a210 := Tryd.isAgg110
  z210 := Tryd.sizeOf110
  v210 := Tryd.zeroValue110
  t212 := Tryd.underlying125
  a212 := Tryd.isAgg125
  z212 := Tryd.sizeOf125
  v212 := Tryd.zeroValue125
  t213 := Tryd.underlying127
  a213 := Tryd.isAgg127
  z213 := Tryd.sizeOf127
  t232 := Tryd.underlying130
  a232 := Tryd.isAgg130
  z232 := Tryd.sizeOf130
  v232 := Tryd.zeroValue130
  t233 := Tryd.underlying131
  a233 := Tryd.isAgg131
  z233 := Tryd.sizeOf131
  v233 := Tryd.zeroValue131
  g15 := by kernel_rfl
  g16 := by kernel_rfl
  g17 := by kernel_rfl
  g18 := by kernel_rfl
  g19 := by kernel_rfl }
open Go.RowKit in
theorem Tryd.strconv_Atoi (s : ByteArray) (n : Int) (hl : s.size ≤ 18) (h : Lib.atoi s.data.toList = some n) (w : World) :
    Calls Tryd.prog 64 #[.string s] w fun e w' => e = .returned (.tuple #[.int .i64 n, .nilIface]) ∧ ∃ t, w' = Lib.bytesWorld w 5 t := Any.strconv_Atoi Tryd.lays172 s n hl h w
def Tryd.laysM316_ren : Go.Shelf.Ren := ⟨fun | 316 => 66 | n => n, fun | 9 => 9 | 3 => 3 | 4 => 4 | 37 => 53 | 0 => 0 | 127 => 74 | 5 => 5 | n => n, fun | n => n⟩
theorem Tryd.laysM316 : Go.Proofs.LaysM.n316 Tryd.prog Tryd.laysM316_ren := {
  mixed := by kernel_rfl
  f316 := Tryd.func66.trans (congrArg some (by kernel_rfl))
  t0 := Tryd.underlying0
  a0 := Tryd.isAgg0
  z0 := Tryd.sizeOf0
  v0 := Tryd.zeroValue0
  t3 := Tryd.underlying3
  a3 := Tryd.isAgg3
  z3 := Tryd.sizeOf3
  v3 := Tryd.zeroValue3
  t4 := Tryd.underlying4
  a4 := Tryd.isAgg4
  z4 := Tryd.sizeOf4
  v4 := Tryd.zeroValue4
  t9 := Tryd.underlying9
  a9 := Tryd.isAgg9
  z9 := Tryd.sizeOf9
  v9 := Tryd.zeroValue9
  t37 := Tryd.underlying53
  a37 := Tryd.isAgg53
  z37 := Tryd.sizeOf53
  v37 := Tryd.zeroValue53
  t127 := Tryd.underlying74
  a127 := Tryd.isAgg74
  z127 := Tryd.sizeOf74
  v127 := Tryd.zeroValue74
  t5 := Tryd.underlying5
  a5 := Tryd.isAgg5
  z5 := Tryd.sizeOf5
  v5 := Tryd.zeroValue5
  i0 := by kernel_rfl
  i3 := by kernel_rfl
  i4 := by kernel_rfl
  i5 := by kernel_rfl
  i9 := by kernel_rfl
  i37 := by kernel_rfl
  i127 := by kernel_rfl }
open Go.RowKit in
theorem Tryd.stringslite_Clone (s : ByteArray) (w : World) (hlim : s.size ≤ 281474976710656) :
    Calls Tryd.prog 66 #[.string s] w fun e w' => e = .returned (.string s) ∧ Below w.heap.size w w' := Any.stringslite_Clone Tryd.laysM316 s w hlim
def Tryd.lays217_ren : Go.Shelf.Ren := ⟨fun | 217 => 68 | 266 => 71 | n => n, fun | 9 => 9 | 5 => 5 | 3 => 3 | n => n, fun | n => n⟩
theorem Tryd.lays217 : Go.Proofs.Lays.n217 Tryd.prog Tryd.lays217_ren := {
  mixed := by kernel_rfl
  f217 := Tryd.func68.trans (congrArg some (by kernel_rfl))
  f266 := Tryd.func71.trans (congrArg some (by kernel_rfl))
  t3 := Tryd.underlying3
  a3 := Tryd.isAgg3
  z3 := Tryd.sizeOf3
  v3 := Tryd.zeroValue3
  t5 := Tryd.underlying5
  a5 := Tryd.isAgg5
  z5 := Tryd.sizeOf5
  v5 := Tryd.zeroValue5
  t9 := Tryd.underlying9
  a9 := Tryd.isAgg9
  z9 := Tryd.sizeOf9
  v9 := Tryd.zeroValue9 }
open Go.RowKit Go.Lib in
theorem Tryd.stringslite_IndexByte (s : ByteArray) (c : Int) (w : World) :
    Calls Tryd.prog 68 #[.string s, .int .u8 c] w fun e w' => e = .returned (.int .i64 (Lib.indexByte s.data.toList c.toNat.toUInt8)) ∧ w' = w := Any.stringslite_IndexByte Tryd.lays217 s c w
def Tryd.lays206_ren : Go.Shelf.Ren := ⟨fun | 206 => 67 | n => n, fun | 9 => 9 | 4 => 4 | 3 => 3 | n => n, fun | n => n⟩
theorem Tryd.lays206 : Go.Proofs.Lays.n206 Tryd.prog Tryd.lays206_ren := {
  mixed := by kernel_rfl
  f206 := Tryd.func67.trans (congrArg some (by kernel_rfl))
  t3 := Tryd.underlying3
  a3 := Tryd.isAgg3
  z3 := Tryd.sizeOf3
  v3 := Tryd.zeroValue3
  t4 := Tryd.underlying4
  a4 := Tryd.isAgg4
  z4 := Tryd.sizeOf4
  v4 := Tryd.zeroValue4
  t9 := Tryd.underlying9
  a9 := Tryd.isAgg9
  z9 := Tryd.sizeOf9
  v9 := Tryd.zeroValue9 }
open Go.RowKit Go.Lib in
theorem Tryd.stringslite_HasPrefix (s p : ByteArray) (w : World) :
    Calls Tryd.prog 67 #[.string s, .string p] w fun e w' => e = .returned (.bool (Lib.hasPrefix s.data.toList p.data.toList)) ∧ w' = w := Any.stringslite_HasPrefix Tryd.lays206 s p w
def Tryd.lays99_ren : Go.Shelf.Ren := ⟨fun | 99 => 62 | 206 => 67 | n => n, fun | 9 => 9 | 4 => 4 | 3 => 3 | n => n, fun | n => n⟩
theorem Tryd.lays99 : Go.Proofs.Lays.n99 Tryd.prog Tryd.lays99_ren := {
  mixed := by kernel_rfl
  f99 := Tryd.func62.trans (congrArg some (by kernel_rfl))
  f206 := Tryd.func67.trans (congrArg some (by kernel_rfl))
  t3 := Tryd.underlying3
  a3 := Tryd.isAgg3
  z3 := Tryd.sizeOf3
  v3 := Tryd.zeroValue3
  t4 := Tryd.underlying4
  a4 := Tryd.isAgg4
  z4 := Tryd.sizeOf4
  v4 := Tryd.zeroValue4
  t9 := Tryd.underlying9
  a9 := Tryd.isAgg9
  z9 := Tryd.sizeOf9
  v9 := Tryd.zeroValue9 }
open Go.RowKit Go.Lib in
theorem Tryd.strings_HasPrefix (s p : ByteArray) (w : World) :
    Calls Tryd.prog 62 #[.string s, .string p] w fun e w' => e = .returned (.bool (Lib.hasPrefix s.data.toList p.data.toList)) ∧ w' = w := Any.strings_HasPrefix Tryd.lays99 s p w
end Go.Proofs

/- Package token: how one token is cut out of a text. -/
namespace Go.Proofs.YtjbfbbhaagkagaaDoor
open Go.RowKit

set_option maxRecDepth 100000 in
set_option maxHeartbeats 400000 in
theorem clone_any (s : ByteArray) (w : World) (hs : s.size ≤ 281474976710656) :
    Calls Tryd.prog 61 #[.string s] w fun e w' => e = .returned (.string s) ∧ Below w.heap.size w w' := by
  go_enter Tryd.func61, Tryd.ntmps61
  go_wp2_with (go_at_call 66; refine (Tryd.stringslite_Clone _ _ hs).mono ?_; rintro e w' ⟨rfl, hb⟩)
  go_ret
  exact ⟨rfl, hb⟩

theorem bcell {W w1 : World} (hb : Below W.heap.size W w1) : (∀ b o, b < W.heap.size → w1.cell? ⟨b, o, none⟩ = W.cell? ⟨b, o, none⟩) ∧ (∀ b o, b < W.heap.size → w1.frozen? ⟨b, o, none⟩ = W.frozen? ⟨b, o, none⟩) :=
  ⟨fun b o h => hb.cell (p := ⟨b, o, none⟩) h, fun b o h => hb.frozen (p := ⟨b, o, none⟩) h⟩

/-- The new block of a token, as it is made. -/
abbrev tokObj : Obj := .cells #[.int .i64 0, .int .i64 0, .string { data := #[] }] 44

/-- Behind a call that kept it, the new block of a token is as it was. -/
theorem tokCell {w w1 : World} (hb : Below (w.alloc tokObj).heap.size (w.alloc tokObj) w1) :
    (w1.cell? ⟨w.heap.size, 0, none⟩ = some (.int .i64 0) ∧ w1.cell? ⟨w.heap.size, 1, none⟩ = some (.int .i64 0) ∧ w1.cell? ⟨w.heap.size, 2, none⟩ = some (.string { data := #[] })) ∧
    w1.frozen? ⟨w.heap.size, 0, none⟩ = false ∧ w1.frozen? ⟨w.heap.size, 1, none⟩ = false ∧ w1.frozen? ⟨w.heap.size, 2, none⟩ = false := by
  obtain ⟨hc, hf⟩ := bcell hb
  have h : w.heap.size < (w.alloc tokObj).heap.size := by simp
  refine ⟨⟨?_, ?_, ?_⟩, ?_, ?_, ?_⟩
  · rw [hc _ _ h]; simp [go_sem]
  · rw [hc _ _ h]; simp [go_sem]
  · rw [hc _ _ h]; simp [go_sem]
  · rw [hf _ _ h]; simp [go_sem]
  · rw [hf _ _ h]; simp [go_sem]
  · rw [hf _ _ h]; simp [go_sem]

theorem below_tok {w w1 : World} (hb : Below (w.alloc tokObj).heap.size (w.alloc tokObj) w1) (x y z : Value) :
    Below w.heap.size w (((w1.setCell ⟨w.heap.size, 0, none⟩ x).setCell ⟨w.heap.size, 1, none⟩ y).setCell ⟨w.heap.size, 2, none⟩ z) := by
  have h0 : Below w.heap.size w w1 := ((Below.refl _ _).alloc (Nat.le_refl _) _).trans (hb.mono (by simp))
  exact ((h0.setCell (p := ⟨w.heap.size, 0, none⟩) (Nat.le_refl _) _).setCell (p := ⟨w.heap.size, 1, none⟩) (Nat.le_refl _) _).setCell (p := ⟨w.heap.size, 2, none⟩) (Nat.le_refl _) _

set_option maxRecDepth 100000 in
set_option maxHeartbeats 400000 in
theorem cut_any (s : ByteArray) (a b k : Int) (w : World) (hs : s.size ≤ 281474976710656) (ha : 0 ≤ a) (hab : a ≤ b) (hb : b ≤ s.size) :
    Calls Tryd.prog 57 #[.string s, .int .i64 a, .int .i64 b, .int .i64 k] w fun e w' => e = .returned (.agg #[.int .i64 k, .int .i64 a, .string (s.extract a.toNat b.toNat)]) ∧ Below w.heap.size w w' := by
  go_enter Tryd.func57, Tryd.ntmps57
  go_wp2_with fail
  refine (clone_any _ _ (by simp; omega)).mono ?_
  rintro e w1 ⟨rfl, hb1⟩
  obtain ⟨⟨c0, c1, c2⟩, f0, f1, f2⟩ := tokCell hb1
  go_wp2
  refine bodyPost_ret (v := .agg #[.int .i64 k, .int .i64 a, .string (s.extract a.toNat b.toNat)]) (by simp [results, Tryd.results57, go_sem, c0, c1, c2]) rfl ⟨rfl, ?_⟩
  exact below_tok hb1 _ _ _

theorem pre_end (p : Int → Bool) (s : ByteArray) (a : Nat) (h : a ≤ s.size) : a + Tk.pre p (s.data.toList.drop a) ≤ s.size := by
  have h1 := Tk.pre_le p (s.data.toList.drop a)
  have h2 : (s.data.toList.drop a).length = s.size - a := by simp
  omega

theorem extract_cast (s : ByteArray) (a n : Nat) : s.extract ((a : Nat) : Int).toNat ((a : Int) + (n : Int)).toNat = s.extract a (a + n) := by
  rw [Int.toNat_natCast, show ((a : Int) + (n : Int)).toNat = a + n from by omega]

/-- The end of a call that gives up at a place. -/
abbrev gaveUp (a c : Int) : Ending := .panicked [{ v := .iface 49 (.agg #[.int .i64 a, .int .i64 c]), recovered := false }]

set_option maxRecDepth 100000 in
set_option maxHeartbeats 400000 in
theorem word_no (s : ByteArray) (at0 : Nat) (k : Int) (w : World) (hs : s.size ≤ 281474976710656) (ha : at0 ≤ s.size) (hn : 12 < Tk.pre Tk.alnum (s.data.toList.drop at0)) :
    Calls Tryd.prog 45 #[.string s, .int .i64 at0, .int .i64 k] w fun e w' => e = gaveUp at0 2 ∧ Below w.heap.size w w' := by
  go_enter Tryd.func45, Tryd.ntmps45
  go_wp2_with fail
  refine (run_any 56 Tk.alnum alnum_any enters56 s at0 _ (by unfold maxLen; omega) ha).mono ?_
  rintro e w1 ⟨rfl, rfl⟩
  have hle := pre_end Tk.alnum s at0 ha
  go_wp2_with fail
  exact ⟨rfl, rfl, (Below.refl _ _).alloc (Nat.le_refl _) _⟩

set_option maxRecDepth 100000 in
set_option maxHeartbeats 400000 in
theorem word_yes (s : ByteArray) (at0 : Nat) (k : Int) (w : World) (hs : s.size ≤ 281474976710656) (ha : at0 ≤ s.size) (hn : Tk.pre Tk.alnum (s.data.toList.drop at0) ≤ 12) :
    Calls Tryd.prog 45 #[.string s, .int .i64 at0, .int .i64 k] w fun e w' => e = .returned (.agg #[.int .i64 k, .int .i64 at0, .string (s.extract at0 (at0 + Tk.pre Tk.alnum (s.data.toList.drop at0)))]) ∧ Below w.heap.size w w' := by
  go_enter Tryd.func45, Tryd.ntmps45
  go_wp2_with fail
  refine (run_any 56 Tk.alnum alnum_any enters56 s at0 _ (by unfold maxLen; omega) ha).mono ?_
  rintro e w1 ⟨rfl, rfl⟩
  have hle := pre_end Tk.alnum s at0 ha
  go_wp2_with fail
  refine (cut_any s _ _ k _ hs (by omega) (by omega) (by omega)).mono ?_
  rintro e w1 ⟨he, hb1⟩
  rw [extract_cast] at he
  subst he
  obtain ⟨⟨c0, c1, c2⟩, f0, f1, f2⟩ := tokCell hb1
  go_wp2
  exact bodyPost_ret (v := .agg #[.int .i64 k, .int .i64 at0, .string (s.extract at0 (at0 + Tk.pre Tk.alnum (s.data.toList.drop at0)))]) (by simp [results, Tryd.results45, go_sem, c0, c1, c2]) rfl ⟨rfl, below_tok hb1 _ _ _⟩

set_option maxRecDepth 100000 in
set_option maxHeartbeats 400000 in
theorem number_many (s : ByteArray) (at0 : Nat) (w : World) (hs : s.size ≤ 281474976710656) (ha : at0 < s.size) (hn : 7 < Tk.pre Tk.digit (s.data.toList.drop at0)) :
    Calls Tryd.prog 48 #[.string s, .int .i64 at0] w fun e w' => e = gaveUp at0 2 ∧ Below w.heap.size w w' := by
  go_enter Tryd.func48, Tryd.ntmps48
  go_wp2_with fail
  refine (run_any 47 Tk.digit isDigit_any enters47 s at0 _ (by unfold maxLen; omega) (by omega)).mono ?_
  rintro e w1 ⟨rfl, rfl⟩
  have hle := pre_end Tk.digit s at0 (by omega)
  go_wp2_with fail
  exact ⟨rfl, rfl, (Below.refl _ _).alloc (Nat.le_refl _) _⟩

set_option maxRecDepth 100000 in
set_option maxHeartbeats 400000 in
theorem number_form (s : ByteArray) (at0 : Nat) (w : World) (hs : s.size ≤ 281474976710656) (ha : at0 < s.size) (hn : Tk.pre Tk.digit (s.data.toList.drop at0) ≤ 7) (hm : 1 < Tk.pre Tk.digit (s.data.toList.drop at0)) (h0 : ((s[at0].toNat : Int) == 48) = true) :
    Calls Tryd.prog 48 #[.string s, .int .i64 at0] w fun e w' => e = gaveUp at0 1 ∧ Below w.heap.size w w' := by
  go_enter Tryd.func48, Tryd.ntmps48
  go_wp2_with fail
  refine (run_any 47 Tk.digit isDigit_any enters47 s at0 _ (by unfold maxLen; omega) (by omega)).mono ?_
  rintro e w1 ⟨rfl, rfl⟩
  have hle := pre_end Tk.digit s at0 (by omega)
  go_wp2_with fail
  exact ⟨rfl, rfl, (Below.refl _ _).alloc (Nat.le_refl _) _⟩

set_option maxRecDepth 100000 in
set_option maxHeartbeats 400000 in
theorem number_yes (s : ByteArray) (at0 : Nat) (w : World) (hs : s.size ≤ 281474976710656) (ha : at0 < s.size) (hn : Tk.pre Tk.digit (s.data.toList.drop at0) ≤ 7) (hm : ((s[at0].toNat : Int) == 48) = false ∨ Tk.pre Tk.digit (s.data.toList.drop at0) ≤ 1) :
    Calls Tryd.prog 48 #[.string s, .int .i64 at0] w fun e w' => e = .returned (.agg #[.int .i64 3, .int .i64 at0, .string (s.extract at0 (at0 + Tk.pre Tk.digit (s.data.toList.drop at0)))]) ∧ Below w.heap.size w w' := by
  have hle := pre_end Tk.digit s at0 (by omega)
  rcases Bool.eq_false_or_eq_true ((s[at0].toNat : Int) == 48) with h0 | h0
  · have h1 : Tk.pre Tk.digit (s.data.toList.drop at0) ≤ 1 := by rcases hm with h | h; rw [h0] at h; cases h; exact h
    clear hm
    go_enter Tryd.func48, Tryd.ntmps48
    go_wp2_with fail
    refine (run_any 47 Tk.digit isDigit_any enters47 s at0 _ (by unfold maxLen; omega) (by omega)).mono ?_
    rintro e w1 ⟨rfl, rfl⟩
    go_wp2_with fail
    refine (cut_any s _ _ 3 _ hs (by omega) (by omega) (by omega)).mono ?_
    rintro e w1 ⟨he, hb1⟩
    rw [extract_cast] at he
    subst he
    obtain ⟨⟨c0, c1, c2⟩, f0, f1, f2⟩ := tokCell hb1
    go_wp2
    exact bodyPost_ret (v := .agg #[.int .i64 3, .int .i64 at0, .string (s.extract at0 (at0 + Tk.pre Tk.digit (s.data.toList.drop at0)))]) (by simp [results, Tryd.results48, go_sem, c0, c1, c2]) rfl ⟨rfl, below_tok hb1 _ _ _⟩
  · clear hm
    go_enter Tryd.func48, Tryd.ntmps48
    go_wp2_with fail
    refine (run_any 47 Tk.digit isDigit_any enters47 s at0 _ (by unfold maxLen; omega) (by omega)).mono ?_
    rintro e w1 ⟨rfl, rfl⟩
    go_wp2_with fail
    refine (cut_any s _ _ 3 _ hs (by omega) (by omega) (by omega)).mono ?_
    rintro e w1 ⟨he, hb1⟩
    rw [extract_cast] at he
    subst he
    obtain ⟨⟨c0, c1, c2⟩, f0, f1, f2⟩ := tokCell hb1
    go_wp2
    exact bodyPost_ret (v := .agg #[.int .i64 3, .int .i64 at0, .string (s.extract at0 (at0 + Tk.pre Tk.digit (s.data.toList.drop at0)))]) (by simp [results, Tryd.results48, go_sem, c0, c1, c2]) rfl ⟨rfl, below_tok hb1 _ _ _⟩

theorem sign_index_fin : ∀ n : Fin 256, Tk.isSign (UInt8.ofNat n.val) = decide (0 ≤ Lib.indexByte [40, 41, 44, 46, 60, 61, 43, 45, 42] (UInt8.ofNat n.val)) := by decide +kernel
theorem sign_index (x : UInt8) : Tk.isSign x = decide (0 ≤ Lib.indexByte [40, 41, 44, 46, 60, 61, 43, 45, 42] x) := by
  have h := sign_index_fin ⟨x.toNat, x.toNat_lt⟩
  simpa using h

set_option maxRecDepth 100000 in
set_option maxHeartbeats 1000000 in
theorem signLength_any (t : ByteArray) (w : World) (ht : 0 < t.size) :
    Calls Tryd.prog 58 #[.string t] w fun e w' => e = .returned (.int .i64 (Tk.signLen t.data.toList)) ∧ w' = w := by
  have i0 : ∀ w : World, (Instr.index 95 (.agg #[.string { data := #[58, 45] }, .string { data := #[60, 61] }, .string { data := #[33, 61] }]) (.int .i64 0)).run Tryd.prog w = .ok (.string { data := #[58, 45] }) w := fun _ => by kernel_rfl
  have i1 : ∀ w : World, (Instr.index 95 (.agg #[.string { data := #[58, 45] }, .string { data := #[60, 61] }, .string { data := #[33, 61] }]) (.int .i64 1)).run Tryd.prog w = .ok (.string { data := #[60, 61] }) w := fun _ => by kernel_rfl
  have i2 : ∀ w : World, (Instr.index 95 (.agg #[.string { data := #[58, 45] }, .string { data := #[60, 61] }, .string { data := #[33, 61] }]) (.int .i64 2)).run Tryd.prog w = .ok (.string { data := #[33, 61] }) w := fun _ => by kernel_rfl
  have hd : t.data.toList = t[0] :: t.data.toList.drop 1 := by
    have h := Tk.drop_cons t.data.toList 0 (by simpa using ht)
    rw [List.drop_zero] at h
    exact h
  have hu : ((t[0].toNat : Int).toNat.toUInt8) = t[0] := by simp [Nat.toUInt8]
  have hS := sign_index t[0]
  cases h0 : Lib.hasPrefix t.data.toList [58, 45]
  · cases h1 : Lib.hasPrefix t.data.toList [60, 61]
    · cases h2 : Lib.hasPrefix t.data.toList [33, 61]
      · have HS : Hid (Tk.signLen t.data.toList = if Tk.isSign t[0] then 1 else 0) := by
          have e1 : Tk.signLen t.data.toList = if [58, 45].isPrefixOf t.data.toList || [60, 61].isPrefixOf t.data.toList || [33, 61].isPrefixOf t.data.toList then 2 else match t.data.toList with | [] => 0 | c :: _ => if Tk.isSign c then 1 else 0 := rfl
          rw [Lib.hasPrefix] at h0 h1 h2
          rw [h0, h1, h2] at e1
          rw [hd] at e1
          rw [hd]
          exact e1
        clear hd
        cases h3 : Tk.isSign t[0]
        · rw [h3] at hS
          have hlt : Lib.indexByte [40, 41, 44, 46, 60, 61, 43, 45, 42] t[0] < 0 := by simpa using hS.symm
          have HS' : Hid (Tk.signLen t.data.toList = 0) := by have := HS.out; rw [h3] at this; exact this
          clear HS hS h3
          go_enter Tryd.func58, Tryd.ntmps58
          go_wp2
          refine wp_loop_rounds 4 ?_
          rw [rounds_succ]
          go_wp2_with (go_at_call 62; refine (Tryd.strings_HasPrefix _ _ _).mono ?_; rintro e w' ⟨rfl, rfl⟩)
          rw [rounds_succ]
          go_wp2_with (go_at_call 62; refine (Tryd.strings_HasPrefix _ _ _).mono ?_; rintro e w' ⟨rfl, rfl⟩)
          rw [rounds_succ]
          go_wp2_with (go_at_call 62; refine (Tryd.strings_HasPrefix _ _ _).mono ?_; rintro e w' ⟨rfl, rfl⟩)
          rw [rounds_succ]
          go_wp2_with fail
          refine (Tryd.strings_IndexByte _ _ _).mono ?_
          rintro e w' ⟨he, rfl⟩
          rw [hu] at he
          subst he
          go_wp2
          go_ret
          exact ⟨ret_int (by rw [HS'.out]; rfl), rfl⟩
        · rw [h3] at hS
          have hlt : 0 ≤ Lib.indexByte [40, 41, 44, 46, 60, 61, 43, 45, 42] t[0] := by simpa using hS.symm
          have HS' : Hid (Tk.signLen t.data.toList = 1) := by have := HS.out; rw [h3] at this; exact this
          clear HS hS h3
          go_enter Tryd.func58, Tryd.ntmps58
          go_wp2
          refine wp_loop_rounds 4 ?_
          rw [rounds_succ]
          go_wp2_with (go_at_call 62; refine (Tryd.strings_HasPrefix _ _ _).mono ?_; rintro e w' ⟨rfl, rfl⟩)
          rw [rounds_succ]
          go_wp2_with (go_at_call 62; refine (Tryd.strings_HasPrefix _ _ _).mono ?_; rintro e w' ⟨rfl, rfl⟩)
          rw [rounds_succ]
          go_wp2_with (go_at_call 62; refine (Tryd.strings_HasPrefix _ _ _).mono ?_; rintro e w' ⟨rfl, rfl⟩)
          rw [rounds_succ]
          go_wp2_with fail
          refine (Tryd.strings_IndexByte _ _ _).mono ?_
          rintro e w' ⟨he, rfl⟩
          rw [hu] at he
          subst he
          go_wp2
          go_ret
          exact ⟨ret_int (by rw [HS'.out]; rfl), rfl⟩
      · have HS : Hid (Tk.signLen t.data.toList = 2) := by rw [Lib.hasPrefix] at h2; simp [Hid, Tk.signLen, h2]
        clear hd hS hu
        go_enter Tryd.func58, Tryd.ntmps58
        go_wp2
        refine wp_loop_rounds 4 ?_
        rw [rounds_succ]
        go_wp2_with (go_at_call 62; refine (Tryd.strings_HasPrefix _ _ _).mono ?_; rintro e w' ⟨rfl, rfl⟩)
        rw [rounds_succ]
        go_wp2_with (go_at_call 62; refine (Tryd.strings_HasPrefix _ _ _).mono ?_; rintro e w' ⟨rfl, rfl⟩)
        rw [rounds_succ]
        go_wp2_with (go_at_call 62; refine (Tryd.strings_HasPrefix _ _ _).mono ?_; rintro e w' ⟨rfl, rfl⟩)
        go_ret
        exact ⟨ret_int (by rw [HS.out]; rfl), rfl⟩
    · have HS : Hid (Tk.signLen t.data.toList = 2) := by rw [Lib.hasPrefix] at h1; simp [Hid, Tk.signLen, h1]
      clear hd hS hu
      go_enter Tryd.func58, Tryd.ntmps58
      go_wp2
      refine wp_loop_rounds 4 ?_
      rw [rounds_succ]
      go_wp2_with (go_at_call 62; refine (Tryd.strings_HasPrefix _ _ _).mono ?_; rintro e w' ⟨rfl, rfl⟩)
      rw [rounds_succ]
      go_wp2_with (go_at_call 62; refine (Tryd.strings_HasPrefix _ _ _).mono ?_; rintro e w' ⟨rfl, rfl⟩)
      go_ret
      exact ⟨ret_int (by rw [HS.out]; rfl), rfl⟩
  · have HS : Hid (Tk.signLen t.data.toList = 2) := by rw [Lib.hasPrefix] at h0; simp [Hid, Tk.signLen, h0]
    clear hd hS hu
    go_enter Tryd.func58, Tryd.ntmps58
    go_wp2
    refine wp_loop_rounds 4 ?_
    rw [rounds_succ]
    go_wp2_with (go_at_call 62; refine (Tryd.strings_HasPrefix _ _ _).mono ?_; rintro e w' ⟨rfl, rfl⟩)
    go_ret
    exact ⟨ret_int (by rw [HS.out]; rfl), rfl⟩

end Go.Proofs.YtjbfbbhaagkagaaDoor

/- Package token: the token at a place, and what parts tokens. -/
namespace Go.Proofs.YtjbfbbhaagkagaaDoor
open Go.RowKit

set_option maxRecDepth 100000 in
set_option maxHeartbeats 400000 in
theorem sign_no (s : ByteArray) (at0 : Nat) (w : World) (_hs : s.size ≤ 281474976710656) (ha : at0 < s.size) (hn : Tk.signLen (s.data.toList.drop at0) = 0) :
    Calls Tryd.prog 49 #[.string s, .int .i64 at0] w fun e w' => e = gaveUp at0 1 ∧ Below w.heap.size w w' := by
  have HN : Hid (Tk.signLen (s.data.toList.drop at0) = 0) := hn
  clear hn
  go_enter Tryd.func49, Tryd.ntmps49
  go_wp2_with fail
  refine (signLength_any _ _ (by simp; omega)).mono ?_
  rintro e w1 ⟨he, rfl⟩
  rw [Lib.extract_to_end, HN.out] at he
  subst he
  go_wp2_with fail
  exact ⟨rfl, rfl, (Below.refl _ _).alloc (Nat.le_refl _) _⟩

set_option maxRecDepth 100000 in
set_option maxHeartbeats 400000 in
theorem sign_yes (s : ByteArray) (at0 : Nat) (w : World) (hs : s.size ≤ 281474976710656) (ha : at0 < s.size) (hn : 0 < Tk.signLen (s.data.toList.drop at0)) :
    Calls Tryd.prog 49 #[.string s, .int .i64 at0] w fun e w' => e = .returned (.agg #[.int .i64 4, .int .i64 at0, .string (s.extract at0 (at0 + Tk.signLen (s.data.toList.drop at0)))]) ∧ Below w.heap.size w w' := by
  have hle : at0 + Tk.signLen (s.data.toList.drop at0) ≤ s.size := by
    have h1 := Tk.signLen_le (s.data.toList.drop at0)
    have h2 : (s.data.toList.drop at0).length = s.size - at0 := by simp
    omega
  generalize hX : Tk.signLen (s.data.toList.drop at0) = n at *
  have HX : Hid (Tk.signLen (s.data.toList.drop at0) = n) := hX
  clear hX
  have hb : ((n : Int) == 0) = false := by simp; omega
  go_enter Tryd.func49, Tryd.ntmps49
  go_wp2_with fail
  refine (signLength_any _ _ (by simp; omega)).mono ?_
  rintro e w1 ⟨he, rfl⟩
  rw [Lib.extract_to_end, HX.out] at he
  subst he
  go_wp2_with fail
  refine (cut_any s _ _ 4 _ hs (by omega) (by omega) (by omega)).mono ?_
  rintro e w1 ⟨he, hb1⟩
  rw [extract_cast] at he
  subst he
  obtain ⟨⟨c0, c1, c2⟩, f0, f1, f2⟩ := tokCell hb1
  go_wp2
  exact bodyPost_ret (v := .agg #[.int .i64 4, .int .i64 at0, .string (s.extract at0 (at0 + n))]) (by simp [results, Tryd.results49, go_sem, c0, c1, c2]) rfl ⟨rfl, below_tok hb1 _ _ _⟩

theorem drop_at (s : ByteArray) (a : Nat) (h : a < s.size) : s.data.toList.drop a = s[a] :: s.data.toList.drop (a + 1) := Tk.drop_cons s.data.toList a (by simpa using h)

theorem extract_take (s : ByteArray) (a n : Nat) : s.extract a (a + n) = ⟨((s.data.toList.drop a).take n).toArray⟩ := by
  rw [Lib.extract_eq, Nat.add_sub_cancel_left]

/-- The new block of a token, behind a call that makes one, and the token in it. -/
abbrev tokVal (t : Tk.Tok) : Value := .agg #[.int .i64 t.kind, .int .i64 t.at_, .string ⟨t.text.toArray⟩]

/-- What is wrong with a token, said of its first byte. -/
theorem errOf_cons (c : UInt8) (r : List UInt8) : Tk.errOf (c :: r) = if Tk.small c.toNat || Tk.great c.toNat then (if Tk.pre Tk.alnum (c :: r) > 12 then 2 else 0)
    else if Tk.digit c.toNat then (if Tk.pre Tk.digit (c :: r) > 7 then 2 else if (c.toNat : Int) = 48 ∧ Tk.pre Tk.digit (c :: r) > 1 then 1 else 0)
    else if Tk.signLen (c :: r) = 0 then 1 else 0 := rfl
theorem kindOf_cons (c : UInt8) (r : List UInt8) : Tk.kindOf (c :: r) = if Tk.small c.toNat then 1 else if Tk.great c.toNat then 2 else if Tk.digit c.toNat then 3 else 4 := rfl
theorem lenOf_cons (c : UInt8) (r : List UInt8) : Tk.lenOf (c :: r) = if Tk.small c.toNat || Tk.great c.toNat then Tk.pre Tk.alnum (c :: r) else if Tk.digit c.toNat then Tk.pre Tk.digit (c :: r) else Tk.signLen (c :: r) := rfl

theorem below_made {w w1 : World} (hb : Below (w.alloc tokObj).heap.size (w.alloc tokObj) w1) : Below w.heap.size w w1 :=
  ((Below.refl _ _).alloc (Nat.le_refl _) _).trans (hb.mono (by simp))

set_option maxRecDepth 100000 in
set_option maxHeartbeats 1000000 in
theorem tokenAt_no (s : ByteArray) (at0 : Nat) (w : World) (hs : s.size ≤ 281474976710656) (ha : at0 < s.size) (he : ¬ Tk.errOf (s.data.toList.drop at0) = 0) :
    Calls Tryd.prog 29 #[.string s, .int .i64 at0] w fun e w' => e = gaveUp at0 (Tk.errOf (s.data.toList.drop at0)) ∧ Below w.heap.size w w' := by
  have hd := drop_at s at0 ha
  have e0 : Tk.errOf (s.data.toList.drop at0) = if Tk.small s[at0].toNat || Tk.great s[at0].toNat then (if Tk.pre Tk.alnum (s.data.toList.drop at0) > 12 then 2 else 0)
    else if Tk.digit s[at0].toNat then (if Tk.pre Tk.digit (s.data.toList.drop at0) > 7 then 2 else if (s[at0].toNat : Int) = 48 ∧ Tk.pre Tk.digit (s.data.toList.drop at0) > 1 then 1 else 0)
    else if Tk.signLen (s.data.toList.drop at0) = 0 then 1 else 0 := by
    rw [hd]; exact errOf_cons _ _
  clear hd
  cases h1 : Tk.small (s[at0].toNat : Int)
  · cases h2 : Tk.great (s[at0].toNat : Int)
    · cases h3 : Tk.digit (s[at0].toNat : Int)
      · rw [h1, h2, h3] at e0
        simp only [Bool.or_self, Bool.false_eq_true, if_false] at e0
        have hn : Tk.signLen (s.data.toList.drop at0) = 0 := by
          by_cases h : Tk.signLen (s.data.toList.drop at0) = 0
          · exact h
          · rw [if_neg h] at e0; exact absurd e0 he
        rw [if_pos hn] at e0
        rw [e0]
        have HN : Hid (Tk.signLen (s.data.toList.drop at0) = 0) := hn
        clear e0 he hn
        go_enter Tryd.func29, Tryd.ntmps29
        go_wp2_with (first | (go_at_call 44; refine (isSmall_any _ _).mono ?_; rintro e w' ⟨rfl, rfl⟩) | (go_at_call 46; refine (isGreat_any _ _).mono ?_; rintro e w' ⟨rfl, rfl⟩) | (go_at_call 47; refine (isDigit_any _ _).mono ?_; rintro e w' ⟨rfl, rfl⟩) | (go_at_call 49; refine (sign_no s at0 _ hs ha HN.out).mono ?_; rintro e w1 ⟨rfl, hb1⟩))
        exact ⟨rfl, rfl, below_made hb1⟩
      · rw [h1, h2, h3] at e0
        simp only [Bool.or_self, Bool.false_eq_true, if_false, if_true] at e0
        by_cases h : Tk.pre Tk.digit (s.data.toList.drop at0) > 7
        · rw [if_pos h] at e0
          rw [e0]
          clear e0 he
          go_enter Tryd.func29, Tryd.ntmps29
          go_wp2_with (first | (go_at_call 44; refine (isSmall_any _ _).mono ?_; rintro e w' ⟨rfl, rfl⟩) | (go_at_call 46; refine (isGreat_any _ _).mono ?_; rintro e w' ⟨rfl, rfl⟩) | (go_at_call 47; refine (isDigit_any _ _).mono ?_; rintro e w' ⟨rfl, rfl⟩) | (go_at_call 48; refine (number_many s at0 _ hs ha h).mono ?_; rintro e w1 ⟨rfl, hb1⟩))
          exact ⟨rfl, rfl, below_made hb1⟩
        · rw [if_neg h] at e0
          have hn : (s[at0].toNat : Int) = 48 ∧ Tk.pre Tk.digit (s.data.toList.drop at0) > 1 := by
            by_cases h : (s[at0].toNat : Int) = 48 ∧ Tk.pre Tk.digit (s.data.toList.drop at0) > 1
            · exact h
            · rw [if_neg h] at e0; exact absurd e0 he
          rw [if_pos hn] at e0
          rw [e0]
          have HN : Hid ((s[at0].toNat : Int) = 48 ∧ Tk.pre Tk.digit (s.data.toList.drop at0) > 1) := hn
          clear e0 he hn
          go_enter Tryd.func29, Tryd.ntmps29
          go_wp2_with (first | (go_at_call 44; refine (isSmall_any _ _).mono ?_; rintro e w' ⟨rfl, rfl⟩) | (go_at_call 46; refine (isGreat_any _ _).mono ?_; rintro e w' ⟨rfl, rfl⟩) | (go_at_call 47; refine (isDigit_any _ _).mono ?_; rintro e w' ⟨rfl, rfl⟩) | (go_at_call 48; refine (number_form s at0 _ hs ha (by omega) HN.out.2 (beq_iff_eq.2 HN.out.1)).mono ?_; rintro e w1 ⟨rfl, hb1⟩))
          exact ⟨rfl, rfl, below_made hb1⟩
    · rw [h1, h2] at e0
      simp only [Bool.or_true, if_true] at e0
      have hn : 12 < Tk.pre Tk.alnum (s.data.toList.drop at0) := by
        by_cases h : Tk.pre Tk.alnum (s.data.toList.drop at0) > 12
        · exact h
        · rw [if_neg h] at e0; exact absurd e0 he
      rw [if_pos hn] at e0
      rw [e0]
      clear e0 he
      go_enter Tryd.func29, Tryd.ntmps29
      go_wp2_with (first | (go_at_call 44; refine (isSmall_any _ _).mono ?_; rintro e w' ⟨rfl, rfl⟩) | (go_at_call 46; refine (isGreat_any _ _).mono ?_; rintro e w' ⟨rfl, rfl⟩) | (go_at_call 47; refine (isDigit_any _ _).mono ?_; rintro e w' ⟨rfl, rfl⟩) | (go_at_call 45; refine (word_no s at0 2 _ hs (by omega) hn).mono ?_; rintro e w1 ⟨rfl, hb1⟩))
      exact ⟨rfl, rfl, below_made hb1⟩
  · rw [h1] at e0
    simp only [Bool.true_or, if_true] at e0
    have hn : 12 < Tk.pre Tk.alnum (s.data.toList.drop at0) := by
      by_cases h : Tk.pre Tk.alnum (s.data.toList.drop at0) > 12
      · exact h
      · rw [if_neg h] at e0; exact absurd e0 he
    rw [if_pos hn] at e0
    rw [e0]
    clear e0 he
    go_enter Tryd.func29, Tryd.ntmps29
    go_wp2_with (first | (go_at_call 44; refine (isSmall_any _ _).mono ?_; rintro e w' ⟨rfl, rfl⟩) | (go_at_call 46; refine (isGreat_any _ _).mono ?_; rintro e w' ⟨rfl, rfl⟩) | (go_at_call 47; refine (isDigit_any _ _).mono ?_; rintro e w' ⟨rfl, rfl⟩) | (go_at_call 45; refine (word_no s at0 1 _ hs (by omega) hn).mono ?_; rintro e w1 ⟨rfl, hb1⟩))
    exact ⟨rfl, rfl, below_made hb1⟩

/-- The end of a way that answers a token. -/
theorem ret_tok {k k' a : Int} {s : ByteArray} {n n' : Nat} {p : Nat} (hk : k = k') (hn : n = n') (l : List UInt8) (hl : l = s.data.toList.drop p) :
    Ending.returned (.agg #[.int .i64 k, .int .i64 a, .string (s.extract p (p + n))]) = .returned (.agg #[.int .i64 k', .int .i64 a, .string ⟨(l.take n').toArray⟩]) := by
  subst hk hn hl
  rw [extract_take]

set_option maxRecDepth 100000 in
set_option maxHeartbeats 1000000 in
theorem tokenAt_yes (s : ByteArray) (at0 : Nat) (w : World) (hs : s.size ≤ 281474976710656) (ha : at0 < s.size) (he : Tk.errOf (s.data.toList.drop at0) = 0) :
    Calls Tryd.prog 29 #[.string s, .int .i64 at0] w fun e w' => e = .returned (tokVal (Tk.tokAt s.data.toList at0)) ∧ Below w.heap.size w w' := by
  have hd := drop_at s at0 ha
  have e0 : Tk.errOf (s.data.toList.drop at0) = if Tk.small s[at0].toNat || Tk.great s[at0].toNat then (if Tk.pre Tk.alnum (s.data.toList.drop at0) > 12 then 2 else 0)
    else if Tk.digit s[at0].toNat then (if Tk.pre Tk.digit (s.data.toList.drop at0) > 7 then 2 else if (s[at0].toNat : Int) = 48 ∧ Tk.pre Tk.digit (s.data.toList.drop at0) > 1 then 1 else 0)
    else if Tk.signLen (s.data.toList.drop at0) = 0 then 1 else 0 := by
    rw [hd]; exact errOf_cons _ _
  have e1 : Tk.kindOf (s.data.toList.drop at0) = if Tk.small s[at0].toNat then 1 else if Tk.great s[at0].toNat then 2 else if Tk.digit s[at0].toNat then 3 else 4 := by
    rw [hd]; exact kindOf_cons _ _
  have e2 : Tk.lenOf (s.data.toList.drop at0) = if Tk.small s[at0].toNat || Tk.great s[at0].toNat then Tk.pre Tk.alnum (s.data.toList.drop at0) else if Tk.digit s[at0].toNat then Tk.pre Tk.digit (s.data.toList.drop at0) else Tk.signLen (s.data.toList.drop at0) := by
    rw [hd]; exact lenOf_cons _ _
  rw [he] at e0
  clear hd he
  have HV : Hid (∀ (k : Int) (n : Nat), k = Tk.kindOf (s.data.toList.drop at0) → n = Tk.lenOf (s.data.toList.drop at0) → Ending.returned (.agg #[.int .i64 k, .int .i64 at0, .string (s.extract at0 (at0 + n))]) = .returned (tokVal (Tk.tokAt s.data.toList at0))) := by
    intro k n hk hn
    exact ret_tok hk hn _ rfl
  generalize tokVal (Tk.tokAt s.data.toList at0) = V at *
  cases h1 : Tk.small (s[at0].toNat : Int)
  · cases h2 : Tk.great (s[at0].toNat : Int)
    · cases h3 : Tk.digit (s[at0].toNat : Int)
      · rw [h1, h2, h3] at e0 e1 e2
        simp only [Bool.or_self, Bool.false_eq_true, if_false] at e0 e1 e2
        have hn : 0 < Tk.signLen (s.data.toList.drop at0) := by
          by_cases h : Tk.signLen (s.data.toList.drop at0) = 0
          · rw [if_pos h] at e0; exact absurd e0 (by decide)
          · omega
        have HF : Hid (_ = _) := HV.out 4 (Tk.signLen (s.data.toList.drop at0)) e1.symm e2.symm
        clear e0 e1 e2 HV
        go_enter Tryd.func29, Tryd.ntmps29
        go_wp2_with (first | (go_at_call 44; refine (isSmall_any _ _).mono ?_; rintro e w' ⟨rfl, rfl⟩) | (go_at_call 46; refine (isGreat_any _ _).mono ?_; rintro e w' ⟨rfl, rfl⟩) | (go_at_call 47; refine (isDigit_any _ _).mono ?_; rintro e w' ⟨rfl, rfl⟩) | (go_at_call 49; refine (sign_yes s at0 _ hs ha hn).mono ?_; rintro e w1 ⟨rfl, hb1⟩; obtain ⟨⟨c0, c1, c2⟩, f0, f1, f2⟩ := tokCell hb1))
        exact bodyPost_ret (v := .agg #[.int .i64 4, .int .i64 at0, .string (s.extract at0 (at0 + Tk.signLen (s.data.toList.drop at0)))]) (by simp [results, Tryd.results29, go_sem, c0, c1, c2]) rfl ⟨HF.out, below_tok hb1 _ _ _⟩
      · rw [h1, h2, h3] at e0 e1 e2
        simp only [Bool.or_self, Bool.false_eq_true, if_false, if_true] at e0 e1 e2
        have hm : Tk.pre Tk.digit (s.data.toList.drop at0) ≤ 7 := by
          by_cases h : Tk.pre Tk.digit (s.data.toList.drop at0) > 7
          · rw [if_pos h] at e0; exact absurd e0 (by decide)
          · omega
        have hn : ((s[at0].toNat : Int) == 48) = false ∨ Tk.pre Tk.digit (s.data.toList.drop at0) ≤ 1 := by
          rw [if_neg (by omega)] at e0
          by_cases h : (s[at0].toNat : Int) = 48 ∧ Tk.pre Tk.digit (s.data.toList.drop at0) > 1
          · rw [if_pos h] at e0; exact absurd e0 (by decide)
          · by_cases h4 : (s[at0].toNat : Int) = 48
            · exact .inr (by omega)
            · exact .inl (beq_eq_false_iff_ne.2 h4)
        have HN : Hid (((s[at0].toNat : Int) == 48) = false ∨ Tk.pre Tk.digit (s.data.toList.drop at0) ≤ 1) := hn
        have HF : Hid (_ = _) := HV.out 3 (Tk.pre Tk.digit (s.data.toList.drop at0)) e1.symm e2.symm
        clear e0 e1 e2 HV hn
        go_enter Tryd.func29, Tryd.ntmps29
        go_wp2_with (first | (go_at_call 44; refine (isSmall_any _ _).mono ?_; rintro e w' ⟨rfl, rfl⟩) | (go_at_call 46; refine (isGreat_any _ _).mono ?_; rintro e w' ⟨rfl, rfl⟩) | (go_at_call 47; refine (isDigit_any _ _).mono ?_; rintro e w' ⟨rfl, rfl⟩) | (go_at_call 48; refine (number_yes s at0 _ hs ha hm HN.out).mono ?_; rintro e w1 ⟨rfl, hb1⟩; obtain ⟨⟨c0, c1, c2⟩, f0, f1, f2⟩ := tokCell hb1))
        exact bodyPost_ret (v := .agg #[.int .i64 3, .int .i64 at0, .string (s.extract at0 (at0 + Tk.pre Tk.digit (s.data.toList.drop at0)))]) (by simp [results, Tryd.results29, go_sem, c0, c1, c2]) rfl ⟨HF.out, below_tok hb1 _ _ _⟩
    · rw [h1, h2] at e0 e1 e2
      simp only [Bool.or_true, Bool.false_eq_true, if_false, if_true] at e0 e1 e2
      have hn : Tk.pre Tk.alnum (s.data.toList.drop at0) ≤ 12 := by
        by_cases h : Tk.pre Tk.alnum (s.data.toList.drop at0) > 12
        · rw [if_pos h] at e0; exact absurd e0 (by decide)
        · omega
      have HF : Hid (_ = _) := HV.out 2 (Tk.pre Tk.alnum (s.data.toList.drop at0)) e1.symm e2.symm
      clear e0 e1 e2 HV
      go_enter Tryd.func29, Tryd.ntmps29
      go_wp2_with (first | (go_at_call 44; refine (isSmall_any _ _).mono ?_; rintro e w' ⟨rfl, rfl⟩) | (go_at_call 46; refine (isGreat_any _ _).mono ?_; rintro e w' ⟨rfl, rfl⟩) | (go_at_call 47; refine (isDigit_any _ _).mono ?_; rintro e w' ⟨rfl, rfl⟩) | (go_at_call 45; refine (word_yes s at0 2 _ hs (by omega) hn).mono ?_; rintro e w1 ⟨rfl, hb1⟩; obtain ⟨⟨c0, c1, c2⟩, f0, f1, f2⟩ := tokCell hb1))
      exact bodyPost_ret (v := .agg #[.int .i64 2, .int .i64 at0, .string (s.extract at0 (at0 + Tk.pre Tk.alnum (s.data.toList.drop at0)))]) (by simp [results, Tryd.results29, go_sem, c0, c1, c2]) rfl ⟨HF.out, below_tok hb1 _ _ _⟩
  · rw [h1] at e0 e1 e2
    simp only [Bool.true_or, if_true] at e0 e1 e2
    have hn : Tk.pre Tk.alnum (s.data.toList.drop at0) ≤ 12 := by
      by_cases h : Tk.pre Tk.alnum (s.data.toList.drop at0) > 12
      · rw [if_pos h] at e0; exact absurd e0 (by decide)
      · omega
    have HF : Hid (_ = _) := HV.out 1 (Tk.pre Tk.alnum (s.data.toList.drop at0)) e1.symm e2.symm
    clear e0 e1 e2 HV
    go_enter Tryd.func29, Tryd.ntmps29
    go_wp2_with (first | (go_at_call 44; refine (isSmall_any _ _).mono ?_; rintro e w' ⟨rfl, rfl⟩) | (go_at_call 46; refine (isGreat_any _ _).mono ?_; rintro e w' ⟨rfl, rfl⟩) | (go_at_call 47; refine (isDigit_any _ _).mono ?_; rintro e w' ⟨rfl, rfl⟩) | (go_at_call 45; refine (word_yes s at0 1 _ hs (by omega) hn).mono ?_; rintro e w1 ⟨rfl, hb1⟩; obtain ⟨⟨c0, c1, c2⟩, f0, f1, f2⟩ := tokCell hb1))
    exact bodyPost_ret (v := .agg #[.int .i64 1, .int .i64 at0, .string (s.extract at0 (at0 + Tk.pre Tk.alnum (s.data.toList.drop at0)))]) (by simp [results, Tryd.results29, go_sem, c0, c1, c2]) rfl ⟨HF.out, below_tok hb1 _ _ _⟩

end Go.Proofs.YtjbfbbhaagkagaaDoor

/- Package token: what parts tokens is skipped. -/
namespace Go.Proofs.YtjbfbbhaagkagaaDoor
open Go.RowKit

theorem sep_blank (s : ByteArray) (k : Nat) (h : k < s.size) (hc : (s[k].toNat : Int) = 32 ∨ (s[k].toNat : Int) = 9 ∨ (s[k].toNat : Int) = 10) :
    Tk.sep false (s.data.toList.drop k) = Tk.sep false (s.data.toList.drop (k + 1)) + 1 := by
  rw [drop_at s k h, Tk.sep, if_neg (by omega), if_pos hc]
theorem sep_stop (s : ByteArray) (k : Nat) (h : k < s.size) (h1 : ¬ (s[k].toNat : Int) = 37) (hc : ¬ ((s[k].toNat : Int) = 32 ∨ (s[k].toNat : Int) = 9 ∨ (s[k].toNat : Int) = 10)) :
    Tk.sep false (s.data.toList.drop k) = 0 := by
  rw [drop_at s k h, Tk.sep, if_neg h1, if_neg hc]
theorem sep_end (b : Bool) (s : ByteArray) (k : Nat) (h : s.size ≤ k) : Tk.sep b (s.data.toList.drop k) = 0 := by
  rw [List.drop_of_length_le (by simpa using h)]
  cases b <;> rfl
theorem sep_rem (s : ByteArray) (k : Nat) (h : k < s.size) (h1 : (s[k].toNat : Int) = 37) :
    Tk.sep false (s.data.toList.drop k) = Tk.pre Tk.noLf (s.data.toList.drop k) + Tk.sep false (s.data.toList.drop (k + Tk.pre Tk.noLf (s.data.toList.drop k))) ∧ 1 ≤ Tk.pre Tk.noLf (s.data.toList.drop k) := by
  have hp : Tk.pre Tk.noLf (s.data.toList.drop k) = Tk.pre Tk.noLf (s.data.toList.drop (k + 1)) + 1 := by
    rw [drop_at s k h, Tk.pre, if_pos (by rw [Tk.noLf, h1]; rfl)]
  refine ⟨?_, by omega⟩
  have e1 : Tk.sep false (s.data.toList.drop k) = Tk.sep true (s.data.toList.drop (k + 1)) + 1 := by
    rw [drop_at s k h, Tk.sep, if_pos h1]
  rw [e1, Tk.sep_note, List.drop_drop, hp, show k + (Tk.pre Tk.noLf (s.data.toList.drop (k + 1)) + 1) = k + 1 + Tk.pre Tk.noLf (s.data.toList.drop (k + 1)) from by omega]
  omega

theorem sep_end_le (b : Bool) (s : ByteArray) (a : Nat) (h : a ≤ s.size) : a + Tk.sep b (s.data.toList.drop a) ≤ s.size := by
  have h1 := Tk.sep_le b (s.data.toList.drop a)
  have h2 : (s.data.toList.drop a).length = s.size - a := by simp
  omega

set_option maxRecDepth 100000 in
set_option maxHeartbeats 1000000 in
theorem skip_any (s : ByteArray) (at0 : Nat) (w : World) (hs : s.size ≤ 281474976710656) (ha : at0 ≤ s.size) :
    Calls Tryd.prog 28 #[.string s, .int .i64 at0] w fun e w' => e = .returned (.int .i64 ((at0 + Tk.sep false (s.data.toList.drop at0) : Nat) : Int)) ∧ w' = w := by
  go_enter Tryd.func28, Tryd.ntmps28
  go_wp2
  go_loop [1] (fun i => ∃ k : Nat, k ≤ s.size ∧ i = .int .i64 k ∧ at0 + Tk.sep false (s.data.toList.drop at0) = k + Tk.sep false (s.data.toList.drop k)) (fun i => s.size - (intOf i).toNat)
  case atStart => exact ⟨at0, ha, rfl, rfl⟩
  case round =>
    obtain ⟨k, hk, rfl, hk2⟩ := hrel
    have HK : Hid (at0 + Tk.sep false (s.data.toList.drop at0) = k + Tk.sep false (s.data.toList.drop k)) := hk2
    clear hk2
    by_cases hlt : k < s.size
    · by_cases hb : (s[k].toNat : Int) = 32 ∨ (s[k].toNat : Int) = 9 ∨ (s[k].toNat : Int) = 10
      · have HE : Hid (Tk.sep false (s.data.toList.drop k) = Tk.sep false (s.data.toList.drop (k + 1)) + 1) := sep_blank s k hlt hb
        have hrel2 : Hid (at0 + Tk.sep false (s.data.toList.drop at0) = (k + 1) + Tk.sep false (s.data.toList.drop (k + 1))) := by
          have h1 := HK.out; have h2 := HE.out
          show _ = _
          omega
        clear HE HK
        by_cases b1 : (s[k].toNat : Int) = 32
        · have t1 : ((s[k].toNat : Int) == 32) = true := beq_iff_eq.2 b1
          clear b1 hb
          go_wp2
          go_round
          case rel => exact ⟨k + 1, by omega, by go_num, hrel2.out⟩
          case measure => simp [intOf]; omega
        · have t1 : ((s[k].toNat : Int) == 32) = false := beq_eq_false_iff_ne.2 b1
          by_cases b2 : (s[k].toNat : Int) = 9
          · have t2 : ((s[k].toNat : Int) == 9) = true := beq_iff_eq.2 b2
            clear b1 b2 hb
            go_wp2
            go_round
            case rel => exact ⟨k + 1, by omega, by go_num, hrel2.out⟩
            case measure => simp [intOf]; omega
          · have t2 : ((s[k].toNat : Int) == 9) = false := beq_eq_false_iff_ne.2 b2
            have t3 : ((s[k].toNat : Int) == 10) = true := beq_iff_eq.2 (by omega)
            clear b1 b2 hb
            go_wp2
            go_round
            case rel => exact ⟨k + 1, by omega, by go_num, hrel2.out⟩
            case measure => simp [intOf]; omega
      · have t1 : ((s[k].toNat : Int) == 32) = false := beq_eq_false_iff_ne.2 (by omega)
        have t2 : ((s[k].toNat : Int) == 9) = false := beq_eq_false_iff_ne.2 (by omega)
        have t3 : ((s[k].toNat : Int) == 10) = false := beq_eq_false_iff_ne.2 (by omega)
        by_cases b4 : (s[k].toNat : Int) = 37
        · obtain ⟨h1, h2⟩ := sep_rem s k hlt b4
          have hle := pre_end Tk.noLf s k hk
          have HR : Hid (at0 + Tk.sep false (s.data.toList.drop at0) = (k + Tk.pre Tk.noLf (s.data.toList.drop k)) + Tk.sep false (s.data.toList.drop (k + Tk.pre Tk.noLf (s.data.toList.drop k)))) := by
            have h3 := HK.out
            show _ = _
            omega
          have t4 : ((s[k].toNat : Int) == 37) = true := beq_iff_eq.2 b4
          clear h1 HK hb b4
          go_wp2_with (go_at_call 42; refine (run_any 43 Tk.noLf noLf_any enters43 s k _ (by unfold maxLen; omega) hk).mono ?_; rintro e w' ⟨rfl, rfl⟩)
          go_round
          case rel => exact ⟨k + Tk.pre Tk.noLf (s.data.toList.drop k), hle, by go_num, HR.out⟩
          case measure => simp [intOf]; omega
        · have HE : Hid (Tk.sep false (s.data.toList.drop k) = 0) := sep_stop s k hlt b4 hb
          have t4 : ((s[k].toNat : Int) == 37) = false := beq_eq_false_iff_ne.2 b4
          clear hb b4
          go_wp2
          go_ret
          exact ⟨ret_int (by have h1 := HK.out; have h2 := HE.out; omega), rfl⟩
    · have HE : Hid (Tk.sep false (s.data.toList.drop k) = 0) := sep_end false s k (by omega)
      go_wp2
      go_ret
      exact ⟨ret_int (by have h1 := HK.out; have h2 := HE.out; omega), rfl⟩

end Go.Proofs.YtjbfbbhaagkagaaDoor

/- Package token: the deferred function of scan. -/
namespace Go.Proofs.YtjbfbbhaagkagaaDoor
open Go.RowKit

set_option maxRecDepth 100000 in
set_option maxHeartbeats 400000 in
theorem catch_idle (pl pg : Addr) (w : World) :
    CallsD Tryd.prog 27 #[.pointer (some pl), .pointer (some pg)] .returning w fun e u' w' => e = .returned (.tuple #[]) ∧ u' = .returning ∧ w' = w := by
  refine callsD_of_wpS Tryd.func27 rfl fun c₀ cs hu => ?_
  apply wpS_seq
  apply wpS_region
  simp [wpOpsS, go_sem, recoverD, hu, Tryd.ntmps27, Exit.thenS]
  refine wpS_of_wp ?_
  rw [show (#[Value.pointer (some pl), Value.pointer (some pg)] ++ ((Array.replicate 6 undef).setIfInBounds 1 Value.nilIface).setIfInBounds 0 Value.nilIface) = #[.pointer (some pl), .pointer (some pg), .nilIface, .nilIface, undef, undef, undef, undef] from rfl]
  go_wp2
  refine ⟨rfl, .returning, ?_, .tuple #[], ?_, rfl, rfl, rfl⟩
  · rw [← hu]
  · simp [results, Tryd.results27]

set_option maxRecDepth 100000 in
set_option maxHeartbeats 400000 in
theorem catch_panicking (bl bg B : Nat) (lv g0 g1 : Value) (a c : Int) (older : List PanicEntry) (w : World)
    (hl : w.cell? ⟨bl, 0, none⟩ = some lv) (fl : w.frozen? ⟨bl, 0, none⟩ = false) (hg0 : w.cell? ⟨bg, 0, none⟩ = some g0) (hg1 : w.cell? ⟨bg, 1, none⟩ = some g1)
    (fg0 : w.frozen? ⟨bg, 0, none⟩ = false) (fg1 : w.frozen? ⟨bg, 1, none⟩ = false) (hB1 : B ≤ bl) (hB2 : bl < bg) :
    CallsD Tryd.prog 27 #[.pointer (some ⟨bl, 0, none⟩), .pointer (some ⟨bg, 0, none⟩)] (.panicking ({ v := .iface 49 (.agg #[.int .i64 a, .int .i64 c]), recovered := false } :: older)) w fun e u' w' =>
      e = .returned (.tuple #[]) ∧ u' = .panicking ({ v := .iface 49 (.agg #[.int .i64 a, .int .i64 c]), recovered := true } :: older) ∧
      w'.cell? ⟨bl, 0, none⟩ = some (.slice none 0 0) ∧ w'.cell? ⟨bg, 0, none⟩ = some (.int .i64 a) ∧ w'.cell? ⟨bg, 1, none⟩ = some (.int .i64 c) ∧ Below B w w' := by
  have hta : ∀ w : World, (Instr.typeAssert (.iface 49 (.agg #[.int .i64 a, .int .i64 c])) 20 49 false).run Tryd.prog w = .ok (.agg #[.int .i64 a, .int .i64 c]) w := fun _ => by kernel_rfl
  refine callsD_of_wpS Tryd.func27 rfl fun c₀ cs hu => ?_
  apply wpS_seq
  apply wpS_region
  simp [wpOpsS, go_sem, recoverD, hu, Tryd.ntmps27, Exit.thenS]
  refine wpS_of_wp ?_
  rw [show (#[Value.pointer (some { block := bl, off := 0 }), Value.pointer (some { block := bg, off := 0 })] ++
          ((Array.replicate 6 undef).setIfInBounds 1
                (Value.iface 49 (Value.agg #[Value.int IntKind.i64 a, Value.int IntKind.i64 c]))).setIfInBounds
            0 (Value.iface 49 (Value.agg #[Value.int IntKind.i64 a, Value.int IntKind.i64 c]))) = #[Value.pointer (some { block := bl, off := 0 }), Value.pointer (some { block := bg, off := 0 }), (Value.iface 49 (Value.agg #[Value.int IntKind.i64 a, Value.int IntKind.i64 c])), (Value.iface 49 (Value.agg #[Value.int IntKind.i64 a, Value.int IntKind.i64 c])), undef, undef, undef, undef] from rfl]
  go_wp2
  go_region
  have hne : ¬ bl = bg := by omega
  have hne' : ¬ bg = bl := by omega
  refine ⟨rfl, _, rfl, .tuple #[], ?_, rfl, rfl, ?_, ?_, ?_, ?_⟩
  · simp [results, Tryd.results27]
  · simp [go_sem, hl]
  · simp [go_sem, hg0]
  · simp [go_sem, hg1]
  · exact ((((Below.refl _ _).setCell (p := ⟨bl, 0, none⟩) hB1 _).setCell (p := ⟨bg, 0, none⟩) (show B ≤ bg by omega) _).setCell (p := ⟨bg, 1, none⟩) (show B ≤ bg by omega) _).drew

end Go.Proofs.YtjbfbbhaagkagaaDoor

/- Package token: what the loop of scan keeps in memory. -/
namespace Go.Proofs.YtjbfbbhaagkagaaDoor
open Go.RowKit

/-- The cells of a token. -/
def tokCells (t : Tk.Tok) : List Value := [.int .i64 t.kind, .int .i64 t.at_, .string ⟨t.text.toArray⟩]
def allCells (l : List Tk.Tok) : List Value := l.flatMap tokCells
theorem allCells_nil : allCells [] = [] := rfl
theorem allCells_snoc (l : List Tk.Tok) (t : Tk.Tok) : allCells (l ++ [t]) = allCells l ++ tokCells t := by simp [allCells]
theorem allCells_length (l : List Tk.Tok) : (allCells l).length = l.length * 3 := by
  induction l with
  | nil => rfl
  | cons t r ih => simp only [allCells, List.flatMap_cons, List.length_append] at ih ⊢; rw [ih]; simp [tokCells]; omega

theorem ownsRow_below {w w' : World} {base : Nat} {e : TypeId} {size : Nat} {v : Value} {n : Nat} {xs : List Value} (h : w.ownsRow base e size v n xs) (hb : Below w.heap.size w w') : w'.ownsRow base e size v n xs := by
  obtain ⟨h1, h2⟩ := h
  refine ⟨h1, ?_⟩
  rcases h2 with h2 | ⟨g, cap, cur, hv, hg, hbk, r⟩
  · exact .inl h2
  · refine .inr ⟨g, cap, cur, hv, hg, ?_, r⟩
    have hlt : g < w.heap.size := by
      rcases Nat.lt_or_ge g w.heap.size with h | h
      · exact h
      · rw [Array.getElem?_eq_none h] at hbk; cases hbk
    rw [hb.block g hlt]; exact hbk

theorem own_slice {w : World} {base : Nat} {e : TypeId} {size : Nat} {v : Value} {n : Nat} {xs : List Value} (h : w.ownsRow base e size v n xs) : ∃ ao cap, v = .slice ao n cap := by
  rcases h.2 with ⟨hv, h0⟩ | ⟨g, cap, cur, hv, _⟩
  · exact ⟨none, 0, by rw [hv, h0]⟩
  · exact ⟨_, _, hv⟩

/-- The loop of scan: N: the block of l; N + 1: that of gave. -/
structure ScanInv (N : Nat) (w wr : World) (v : Value) (acc : List Tk.Tok) : Prop where
  cl : wr.cell? ⟨N, 0, none⟩ = some v
  own : wr.ownsRow (N + 2) 44 3 v acc.length (allCells acc)
  fl : wr.frozen? ⟨N, 0, none⟩ = false
  g0 : wr.cell? ⟨N + 1, 0, none⟩ = some (.int .i64 0)
  g1 : wr.cell? ⟨N + 1, 1, none⟩ = some (.int .i64 0)
  f0 : wr.frozen? ⟨N + 1, 0, none⟩ = false
  f1 : wr.frozen? ⟨N + 1, 1, none⟩ = false
  bel : Below N w wr
  size : N + 2 ≤ wr.heap.size

theorem ScanInv.below {N : Nat} {w wr w1 : World} {v : Value} {acc : List Tk.Tok} (h : ScanInv N w wr v acc) (hb : Below wr.heap.size wr w1) : ScanInv N w w1 v acc := by
  have hs := h.size
  have h1 : N < wr.heap.size := by omega
  have h2 : N + 1 < wr.heap.size := by omega
  obtain ⟨hc, hf⟩ := (⟨fun b o hh => hb.cell (p := ⟨b, o, none⟩) hh, fun b o hh => hb.frozen (p := ⟨b, o, none⟩) hh⟩ : (∀ b o, b < wr.heap.size → w1.cell? ⟨b, o, none⟩ = wr.cell? ⟨b, o, none⟩) ∧ (∀ b o, b < wr.heap.size → w1.frozen? ⟨b, o, none⟩ = wr.frozen? ⟨b, o, none⟩))
  exact { cl := by rw [hc _ _ h1]; exact h.cl
          own := ownsRow_below h.own hb
          fl := by rw [hf _ _ h1]; exact h.fl
          g0 := by rw [hc _ _ h2]; exact h.g0
          g1 := by rw [hc _ _ h2]; exact h.g1
          f0 := by rw [hf _ _ h2]; exact h.f0
          f1 := by rw [hf _ _ h2]; exact h.f1
          bel := h.bel.trans (hb.mono (by omega))
          size := by have := hb.size; omega }

theorem ScanInv.alloc {N : Nat} {w wr : World} {v : Value} {acc : List Tk.Tok} (h : ScanInv N w wr v acc) (o : Obj) : ScanInv N w (wr.alloc o) v acc :=
  h.below ((Below.refl _ _).alloc (Nat.le_refl _) _)

/-- A write to the call's own blocks that lie behind. -/
theorem ScanInv.grown {N : Nat} {w wr w1 : World} {v v' : Value} {acc acc' : List Tk.Tok} (h : ScanInv N w wr v acc) (hg : wr.grownBy w1 v.ownBlock)
    (hown : w1.ownsRow (N + 2) 44 3 v' acc'.length (allCells acc')) : ScanInv N w (w1.setCell ⟨N, 0, none⟩ v') v' acc' := by
  have hs := h.size
  have hne : ∀ k, k < N + 2 → some k ≠ v.ownBlock := fun k hk e => by
    have := (h.own.lt k e.symm).1
    omega
  have hb : ∀ k, k < N + 2 → w1.heap[k]? = wr.heap[k]? := fun k hk => hg.block k (by omega) (hne k hk)
  have hc : ∀ k o, k < N + 2 → w1.cell? ⟨k, o, none⟩ = wr.cell? ⟨k, o, none⟩ := fun k o hk => World.cell?_of_block (a := ⟨k, o, none⟩) (hb k hk)
  have hf : ∀ k o, k < N + 2 → w1.frozen? ⟨k, o, none⟩ = wr.frozen? ⟨k, o, none⟩ := fun k o hk => World.frozen?_of_block (a := ⟨k, o, none⟩) (hb k hk)
  have c0 : w1.cell? ⟨N, 0, none⟩ = some v := by rw [hc _ _ (by omega)]; exact h.cl
  exact { cl := by simp [go_sem, c0]
          own := ownsRow_setCell_below hown (by simp) _
          fl := by simp [go_sem, hf N 0 (by omega), h.fl]
          g0 := by simp [go_sem, hc (N + 1) 0 (by omega), h.g0]
          g1 := by simp [go_sem, hc (N + 1) 1 (by omega), h.g1]
          f0 := by simp [go_sem, hf (N + 1) 0 (by omega), h.f0]
          f1 := by simp [go_sem, hf (N + 1) 1 (by omega), h.f1]
          bel := (h.bel.grown hg (by omega) (fun k hk => by have := (h.own.lt k hk).1; omega)).setCell (p := ⟨N, 0, none⟩) (Nat.le_refl _) _
          size := by have := hg.size; simp; omega }

/-- What lies in blocks that the append did not touch. -/
theorem ScanInv.after {N : Nat} {w w1 w2 : World} {v : Value} {acc : List Tk.Tok} {o1 o2 : Obj} (h : ScanInv N w w1 v acc) (hg : ((w1.alloc o1).alloc o2).grownBy w2 v.ownBlock) :
    w2.cell? ⟨N, 0, none⟩ = some v ∧ w2.frozen? ⟨N, 0, none⟩ = false ∧ (∀ o, w2.cell? ⟨w1.heap.size, o, none⟩ = ((w1.alloc o1).alloc o2).cell? ⟨w1.heap.size, o, none⟩) := by
  have h2 := (h.alloc o1).alloc o2
  have hs := h.size
  have hz : ((w1.alloc o1).alloc o2).heap.size = w1.heap.size + 2 := by simp
  have hne : some N ≠ v.ownBlock := fun e => by have := (h.own.lt N e.symm).1; omega
  have hne' : some w1.heap.size ≠ v.ownBlock := fun e => by have := (h.own.lt _ e.symm).2; omega
  have hb1 := hg.block N (by omega) hne
  have hb2 := hg.block w1.heap.size (by omega) hne'
  refine ⟨?_, ?_, fun o => World.cell?_of_block (a := ⟨w1.heap.size, o, none⟩) hb2⟩
  · rw [World.cell?_of_block (a := ⟨N, 0, none⟩) hb1]; exact h2.cl
  · rw [World.frozen?_of_block (a := ⟨N, 0, none⟩) hb1]; exact h2.fl

theorem ownsRow_base {w : World} {base base' : Nat} {e : TypeId} {size : Nat} {v : Value} {n : Nat} {xs : List Value} (h : w.ownsRow base e size v n xs) (hb : base' ≤ base) : w.ownsRow base' e size v n xs := by
  obtain ⟨h1, h2⟩ := h
  refine ⟨h1, ?_⟩
  rcases h2 with h2 | ⟨g, cap, cur, hv, hg, r⟩
  · exact .inl h2
  · exact .inr ⟨g, cap, cur, hv, by omega, r⟩

/-- At the loop's begin. -/
theorem ScanInv.start (w : World) : ScanInv w.heap.size w ((w.alloc (.cells #[.slice none 0 0] 30)).alloc (.cells #[.int .i64 0, .int .i64 0] 49)) (.slice none 0 0) [] where
  cl := by simp [go_sem, World.cell?_alloc_past]
  own := World.ownsRow_nil _ _ _ _
  fl := by simp [go_sem]
  g0 := by simp [go_sem]
  g1 := by simp [go_sem]
  f0 := by simp [go_sem]
  f1 := by simp [go_sem]
  bel := ((Below.refl _ _).alloc (Nat.le_refl _) _).alloc (by simp) _
  size := by simp

end Go.Proofs.YtjbfbbhaagkagaaDoor

/- Package token: scan and Scan answer just the tokens of the text. -/
namespace Go.Proofs.YtjbfbbhaagkagaaDoor
open Go.RowKit

/-- What scan leaves. -/
def ScanEnd (L : List UInt8) (w : World) (e : Ending) (w' : World) : Prop :=
  ∃ v, e = .returned (.tuple #[v, .agg #[.int .i64 ((Tk.scan L).2.1 : Nat), .int .i64 (Tk.scan L).2.2]]) ∧ w'.ownsRow w.heap.size 44 3 v (Tk.scan L).1.length (allCells (Tk.scan L).1) ∧ Below w.heap.size w w'

/-- Where scan gives up: what its deferred function leaves. -/
theorem scan_gives {w w1 : World} {v : Value} {acc : List Tk.Tok} (h : ScanInv w.heap.size w w1 v acc) (L : List UInt8) (p : Nat) (c : Int) (hL : Tk.scan L = ([], p, c)) (tmps : Array Value)
    (h2 : tmps[2]? = some (.pointer (some ⟨w.heap.size, 0, none⟩))) (h3 : tmps[3]? = some (.pointer (some ⟨w.heap.size + 1, 0, none⟩))) :
    Leaves Tryd.prog Tryd.f14 tmps (ScanEnd L w) [{ target := .fn (.func 27) #[.pointer (some ⟨w.heap.size, 0, none⟩), .pointer (some ⟨w.heap.size + 1, 0, none⟩)], args := #[] }]
      (.panicking [{ v := .iface 49 (.agg #[.int .i64 p, .int .i64 c]), recovered := false }]) w1 := by
  refine leaves_cons (f := 27) (args := #[.pointer (some ⟨w.heap.size, 0, none⟩), .pointer (some ⟨w.heap.size + 1, 0, none⟩)]) (by simp) (by simp [go_sem]) ?_
  refine (catch_panicking w.heap.size (w.heap.size + 1) w.heap.size _ _ _ p c [] w1 h.cl h.fl h.g0 h.g1 h.f0 h.f1 (Nat.le_refl _) (by omega)).mono ?_
  rintro e u' w2 ⟨rfl, rfl, k1, k2, k3, hb⟩
  have hres : (results Tryd.f14 tmps).run Tryd.prog w2 = .ok (.tuple #[.slice none 0 0, .agg #[.int .i64 p, .int .i64 c]]) w2 := by
    simp [results, Tryd.results14, go_sem, h2, h3, k1, k2, k3]
  refine ⟨_, hres, .slice none 0 0, ?_, ?_, h.bel.trans hb⟩
  · rw [hL]
  · rw [hL]; exact World.ownsRow_nil _ _ _ _

/-- Where scan comes to the text's end. -/
theorem scan_done {w wr : World} {v : Value} {acc : List Tk.Tok} (h : ScanInv w.heap.size w wr v acc) (L : List UInt8) (hL : Tk.scan L = (acc, 0, 0)) (tmps : Array Value)
    (h2 : tmps[2]? = some (.pointer (some ⟨w.heap.size, 0, none⟩))) (h3 : tmps[3]? = some (.pointer (some ⟨w.heap.size + 1, 0, none⟩))) :
    Leaves Tryd.prog Tryd.f14 tmps (ScanEnd L w) [{ target := .fn (.func 27) #[.pointer (some ⟨w.heap.size, 0, none⟩), .pointer (some ⟨w.heap.size + 1, 0, none⟩)], args := #[] }]
      .returning (((wr.setCell ⟨w.heap.size, 0, none⟩ v).setCell ⟨w.heap.size + 1, 0, none⟩ (.int .i64 0)).setCell ⟨w.heap.size + 1, 1, none⟩ (.int .i64 0)) := by
  refine leaves_cons (f := 27) (args := #[.pointer (some ⟨w.heap.size, 0, none⟩), .pointer (some ⟨w.heap.size + 1, 0, none⟩)]) (by simp) (by simp [go_sem]) ?_
  refine (catch_idle _ _ _).mono ?_
  rintro e u' w2 ⟨rfl, rfl, rfl⟩
  have c0 := h.cl; have c1 := h.g0; have c2 := h.g1
  have hres : (results Tryd.f14 tmps).run Tryd.prog (((wr.setCell ⟨w.heap.size, 0, none⟩ v).setCell ⟨w.heap.size + 1, 0, none⟩ (.int .i64 0)).setCell ⟨w.heap.size + 1, 1, none⟩ (.int .i64 0)) =
      .ok (.tuple #[v, .agg #[.int .i64 0, .int .i64 0]]) (((wr.setCell ⟨w.heap.size, 0, none⟩ v).setCell ⟨w.heap.size + 1, 0, none⟩ (.int .i64 0)).setCell ⟨w.heap.size + 1, 1, none⟩ (.int .i64 0)) := by
    simp [results, Tryd.results14, go_sem, h2, h3, c0, c1, c2]
  refine ⟨_, hres, v, ?_, ?_, ?_⟩
  · rw [hL]; rfl
  · rw [hL]
    exact ownsRow_base (ownsRow_setCell_below (ownsRow_setCell_below (ownsRow_setCell_below h.own (by simp) _) (by simp) _) (by simp) _) (by omega)
  · exact ((h.bel.setCell (p := ⟨w.heap.size, 0, none⟩) (Nat.le_refl _) _).setCell (p := ⟨w.heap.size + 1, 0, none⟩) (Nat.le_succ _) _).setCell (p := ⟨w.heap.size + 1, 1, none⟩) (Nat.le_succ _) _

set_option maxRecDepth 100000 in
set_option maxHeartbeats 400000 in
theorem scan_long (s : ByteArray) (w : World) (hs : 5000 < s.size) : Calls Tryd.prog 14 #[.string s] w (ScanEnd s.data.toList w) := by
  have hmf : ∀ (fn : Fn) (first cap : Array Value) (w : World), (Instr.makeFunc fn first cap).run Tryd.prog w = .ok (.func fn first cap) w := fun _ _ _ _ => rfl
  go_enter_defers Tryd.func14, Tryd.ntmps14
  go_wp2_with fail
  refine scan_gives (ScanInv.start w) s.data.toList 0 2 ?_ _ rfl rfl
  unfold Tk.scan
  rw [if_pos (by simpa using hs)]

theorem skip_sum (s : ByteArray) (p n : Nat) (w : World) (hs : s.size ≤ 281474976710656) (ha : p + n ≤ s.size) :
    Calls Tryd.prog 28 #[.string s, .int .i64 ((p : Int) + (n : Int))] w fun e w' => e = .returned (.int .i64 ((p + n + Tk.sep false (s.data.toList.drop (p + n)) : Nat) : Int)) ∧ w' = w := by
  have h := skip_any s (p + n) w hs ha
  rw [show ((p + n : Nat) : Int) = (p : Int) + (n : Int) from by omega] at h
  exact h

theorem A_info34 : (Tryd.prog.info? 44).map (fun i => (i.zero, i.size, i.bytes)) = some (some (.agg #[.int .i64 0, .int .i64 0, .string ⟨#[]⟩]), 3, 32) := by kernel_rfl

set_option maxRecDepth 100000 in
set_option maxHeartbeats 1000000 in
theorem scan_short (s : ByteArray) (w : World) (hs : s.size ≤ 5000) : Calls Tryd.prog 14 #[.string s] w (ScanEnd s.data.toList w) := by
  obtain ⟨i0, hi, hz0, hz1, hz2⟩ := info_parts A_info34
  have hmf : ∀ (fn : Fn) (first cap : Array Value) (w : World), (Instr.makeFunc fn first cap).run Tryd.prog w = .ok (.func fn first cap) w := fun _ _ _ _ => rfl
  have hse := sep_end_le false s 0 (by omega)
  rw [List.drop_zero] at hse
  have hst := ScanInv.start w
  go_enter_defers Tryd.func14, Tryd.ntmps14
  go_wp2_with fail
  refine (skip_any s 0 _ (by omega) (by omega)).mono ?_
  rintro e w1 ⟨he, rfl⟩
  rw [List.drop_zero] at he
  subst he
  go_wp2_with fail
  go_loopw [4] (fun i wr => ∃ (f p : Nat) (acc : List Tk.Tok) (v : Value), p ≤ s.size ∧ s.size ≤ p + f ∧ acc.length ≤ p ∧ i = .int .i64 p ∧ Tk.scanP s.data.toList f p acc = Tk.scan s.data.toList ∧ ScanInv w.heap.size w wr v acc)
    (fun i _ => s.size - (intOf i).toNat)
  case atStart => 
    refine ⟨s.size, Tk.sep false s.data.toList, [], .slice none 0 0, by omega, by omega, Nat.zero_le _, ?_, ?_, hst⟩
    · go_num
    · unfold Tk.scan
      rw [if_neg (by simpa using hs)]
      rfl
  case round =>
    obtain ⟨f, p, acc, v, hp, hpf, hacc, rfl, hscan, hinv⟩ := hrel
    have HS : Hid (Tk.scanP s.data.toList f p acc = Tk.scan s.data.toList) := hscan
    clear hscan hst
    obtain ⟨ao, cap, rfl⟩ := own_slice hinv.own
    by_cases hlt : p < s.size
    · by_cases he : Tk.errOf (s.data.toList.drop p) = 0
      · go_wp2_with fail
        refine (tokenAt_yes s p _ (by omega) hlt he).mono ?_
        rintro e w1 ⟨rfl, hb1⟩
        have hinv1 := hinv.below hb1
        have hz := hinv1.size
        have c0 : ∀ o, (w1.alloc o).cell? ⟨w.heap.size, 0, none⟩ = some (.slice ao acc.length cap) := fun o => (hinv1.alloc o).cl
        have hlen := Tk.lenOf_le (s.data.toList.drop p)
        have hpos := Tk.lenOf_pos (s.data.toList.drop p) (by rw [drop_at s p hlt]; simp) he
        have hdl : (s.data.toList.drop p).length = s.size - p := by simp
        obtain ⟨f, rfl⟩ : ∃ f', f = f' + 1 := ⟨f - 1, by omega⟩
        have HN : Hid (Tk.scanP s.data.toList f (p + Tk.lenOf (s.data.toList.drop p) + Tk.sep false (s.data.toList.drop (p + Tk.lenOf (s.data.toList.drop p)))) (acc ++ [Tk.tokAt s.data.toList p]) = Tk.scan s.data.toList) :=
          (Tk.scanP_yes _ _ _ _ (by simpa using hlt) he).symm.trans HS.out
        have hTl : (Tk.tokAt s.data.toList p).text.length = Tk.lenOf (s.data.toList.drop p) := by
          simp only [Tk.tokAt, List.length_take]; omega
        have hse2 := sep_end_le false s (p + Tk.lenOf (s.data.toList.drop p)) (by omega)
        generalize Tk.tokAt s.data.toList p = T at *
        rw [← hTl] at HN hse2 hlen hpos
        clear hTl HS hse hdl
        go_wp2_with (at_builtin; refine wpList_append_own _ rfl (.tmp 21) (.tmp 23) 30 rfl (w.heap.size + 2) 44 i0 _ 3 32 Tryd.underlying30 hi hz0 hz1 hz2 rfl (by decide) _ _ _ rfl ((hinv1.alloc _).alloc _).own ⟨w1.heap.size + 1, 0, none⟩ 1 1 (tokCells T) rfl rfl ?c1 ?c2 ?c3 ?c4 ?c5 ?_)
        case c1 =>
          intro j u hj
          match j, hj with
          | 0, hj => simp [tokCells] at hj; subst hj; simp [Addr.add, go_sem]
          | 1, hj => simp [tokCells] at hj; subst hj; simp [Addr.add, go_sem]
          | 2, hj => simp [tokCells] at hj; subst hj; simp [Addr.add, go_sem]
        case c2 => intro u hu; simp [tokCells] at hu; rcases hu with rfl | rfl | rfl <;> rfl
        case c3 => unfold maxLen; omega
        case c4 => omega
        case c5 => simp; omega
        intro v' w2 hown hgrow _
        obtain ⟨ao', cap', rfl⟩ := own_slice hown
        obtain ⟨k1, k2, k3⟩ := hinv1.after hgrow
        have k4 := k3 2
        simp [go_sem, World.cell?_alloc_past] at k4
        have hinv2 := ((hinv1.alloc _).alloc _).grown hgrow (acc' := acc ++ [T]) (by rw [allCells_snoc, List.length_append]; exact hown)
        clear hgrow hown k3 hinv1 hinv c0 hi hz0 hz1 hz2
        go_wp2_with fail
        refine (skip_sum s p T.text.length _ (by omega) (by omega)).mono ?_
        rintro e w3 ⟨rfl, rfl⟩
        go_wp2
        go_roundw
        case rel => exact ⟨f, _, acc ++ [T], _, hse2, by omega, by rw [List.length_append]; simp; omega, by go_num, HN.out, hinv2⟩
        case measure => simp [intOf]; omega
      · go_wp2_with fail
        refine (tokenAt_no s p _ (by omega) hlt he).mono ?_
        rintro e w1 ⟨rfl, hb1⟩
        go_wp2_with fail
        refine scan_gives (hinv.below hb1) s.data.toList p _ ?_ _ rfl rfl
        exact HS.out.symm.trans (Tk.scanP_no _ _ _ _ (by simpa using hlt) (by simpa using hpf) he)
    · have c0 := hinv.cl
      have c1 := hinv.g0
      have c2 := hinv.g1
      have fl := hinv.fl
      have f0 := hinv.f0
      have f1 := hinv.f1
      go_wp2_with fail
      exact scan_done hinv s.data.toList (HS.out.symm.trans (Tk.scanP_end _ _ _ _ (by simp; omega))) _ rfl rfl

end Go.Proofs.YtjbfbbhaagkagaaDoor

/- Package token: Scan answers just the tokens of the text, or where it is wrong and why. -/
namespace Go.Proofs.YtjbfbbhaagkagaaDoor
open Go.RowKit

theorem scan_any (s : ByteArray) (w : World) : Calls Tryd.prog 14 #[.string s] w (ScanEnd s.data.toList w) := by
  by_cases h : 5000 < s.size
  · exact scan_long s w h
  · exact scan_short s w (by omega)

theorem ownsRow_drewN {w : World} {base : Nat} {e : TypeId} {size : Nat} {v : Value} {n : Nat} {xs : List Value} (h : w.ownsRow base e size v n xs) (k : Nat) : (w.drewN k).ownsRow base e size v n xs := h

/-- What Scan leaves. -/
def ScanTop (L : List UInt8) (w : World) (e : Ending) (w' : World) : Prop :=
  ∃ ao cap, e = .returned (.tuple #[.slice ao (Tk.scan L).1.length cap, .int .i64 ((Tk.scan L).2.1 : Nat), .int .i64 (Tk.scan L).2.2]) ∧ w'.ownsRow w.heap.size 44 3 (.slice ao (Tk.scan L).1.length cap) (Tk.scan L).1.length (allCells (Tk.scan L).1) ∧ Below w.heap.size w w'

set_option maxRecDepth 100000 in
set_option maxHeartbeats 400000 in
theorem Scan_any (s : ByteArray) (w : World) : Calls Tryd.prog 8 #[.string s] w (ScanTop s.data.toList w) := by
  go_enter Tryd.func8, Tryd.ntmps8
  go_wp2_with fail
  refine (scan_any s _).mono ?_
  rintro e w1 ⟨v, rfl, hown, hb⟩
  obtain ⟨ao, cap, rfl⟩ := own_slice hown
  have hown2 : ∀ o, (w1.alloc o).ownsRow w.heap.size 44 3 (.slice ao (Tk.scan s.data.toList).1.length cap) (Tk.scan s.data.toList).1.length (allCells (Tk.scan s.data.toList).1) := fun o => hown.alloc o
  have hz := hb.size
  have hb2 : ∀ o, Below w.heap.size w (w1.alloc o) := fun o => hb.alloc hz o
  go_wp2
  go_quiet (fail)
  go_wp2
  go_ret3
  exact ⟨ao, cap, rfl, ownsRow_drewN (hown2 _) _, below_drewN (hb2 _) _⟩

end Go.Proofs.YtjbfbbhaagkagaaDoor

/- The document's answer: the token at a place. -/
namespace Go.Proofs.YtjbfbbhaagkagaaDoor
open Go.RowKit

theorem byte_bd (x : UInt8) : (0 : Int) ≤ (x.toNat : Int) ∧ (x.toNat : Int) ≤ 255 := by have := x.toNat_lt; omega
theorem ret_two {j k : IntKind} {a b c d : Int} (h : a = b) (h' : c = d) : Ending.returned (.tuple #[.int j a, .int k c]) = .returned (.tuple #[.int j b, .int k d]) := by rw [h, h']

end Go.Proofs.YtjbfbbhaagkagaaDoor

/- The document's answer: the sign at a place. -/
namespace Go.Proofs.YtjbfbbhaagkagaaDoor
open Go.RowKit

theorem sign_hit (c : UInt8) (k : Nat) (hk : k < 9) (h : ((({ data := #[40, 41, 44, 46, 60, 61, 43, 45, 42] } : ByteArray)[k]'hk).toNat : Int) == (c.toNat : Int)) : (List.drop k [40, 41, 44, 46, 60, 61, 43, 45, 42]).contains c = true := by
  have h1 : ({ data := #[40, 41, 44, 46, 60, 61, 43, 45, 42] } : ByteArray)[k]'hk = c := by
    have := beq_iff_eq.1 h
    exact UInt8.toNat_inj.1 (by omega)
  have h2 : ([40, 41, 44, 46, 60, 61, 43, 45, 42] : List UInt8)[k]'hk = c := h1
  rw [Tk.drop_cons [40, 41, 44, 46, 60, 61, 43, 45, 42] k hk, h2]
  simp
theorem sign_skip (c : UInt8) (k : Nat) (hk : k < 9) (h : (((({ data := #[40, 41, 44, 46, 60, 61, 43, 45, 42] } : ByteArray)[k]'hk).toNat : Int) == (c.toNat : Int)) = false) : (List.drop k [40, 41, 44, 46, 60, 61, 43, 45, 42]).contains c = (List.drop (k + 1) [40, 41, 44, 46, 60, 61, 43, 45, 42]).contains c := by
  have h1 : ¬ ({ data := #[40, 41, 44, 46, 60, 61, 43, 45, 42] } : ByteArray)[k]'hk = c := by
    intro e
    have := beq_eq_false_iff_ne.1 h
    exact this (by rw [e])
  have h2 : ¬ c = ([40, 41, 44, 46, 60, 61, 43, 45, 42] : List UInt8)[k]'hk := fun e => h1 e.symm
  rw [Tk.drop_cons [40, 41, 44, 46, 60, 61, 43, 45, 42] k hk, List.contains_cons, beq_eq_false_iff_ne.2 h2, Bool.false_or]

/-- Two bytes ahead. -/
theorem two_pre (a b : UInt8) (l : List UInt8) : [a, b].isPrefixOf l = (l.take 2 == [a, b]) := by
  match l with
  | [] => rfl
  | [x] => simp [List.isPrefixOf]
  | x :: y :: r =>
    rw [Bool.eq_iff_iff]
    simp [List.isPrefixOf]
    constructor
    · rintro ⟨rfl, rfl⟩; exact ⟨rfl, rfl⟩
    · rintro ⟨rfl, rfl⟩; exact ⟨rfl, rfl⟩

theorem two_extract (s : ByteArray) (a : Nat) : (s.extract a (a + 2)).toList = (s.data.toList.drop a).take 2 := by
  rw [Lib.extract_toList, Nat.add_sub_cancel_left]

/-- What the document's answer tells of the token at a place: kind 0: none. -/
def refKind (l : List UInt8) : Int := if Tk.lenOf l = 0 then 0 else Tk.kindOf l

end Go.Proofs.YtjbfbbhaagkagaaDoor

/- The document's answer: the tokens of a text. -/
namespace Go.Proofs.YtjbfbbhaagkagaaDoor
open Go.RowKit

/-- What is wrong with a token, by its kind and length. -/
theorem tok_cases (c : UInt8) (r : List UInt8) :
    (Tk.lenOf (c :: r) = 0 ∧ Tk.errOf (c :: r) = 1) ∨
    (1 ≤ Tk.lenOf (c :: r) ∧ (Tk.kindOf (c :: r) = 1 ∨ Tk.kindOf (c :: r) = 2) ∧ 12 < Tk.lenOf (c :: r) ∧ Tk.errOf (c :: r) = 2) ∨
    (1 ≤ Tk.lenOf (c :: r) ∧ (Tk.kindOf (c :: r) = 1 ∨ Tk.kindOf (c :: r) = 2) ∧ Tk.lenOf (c :: r) ≤ 12 ∧ Tk.errOf (c :: r) = 0) ∨
    (1 ≤ Tk.lenOf (c :: r) ∧ Tk.kindOf (c :: r) = 3 ∧ 7 < Tk.lenOf (c :: r) ∧ Tk.errOf (c :: r) = 2) ∨
    (1 ≤ Tk.lenOf (c :: r) ∧ Tk.kindOf (c :: r) = 3 ∧ 1 < Tk.lenOf (c :: r) ∧ Tk.lenOf (c :: r) ≤ 7 ∧ (c.toNat : Int) = 48 ∧ Tk.errOf (c :: r) = 1) ∨
    (1 ≤ Tk.lenOf (c :: r) ∧ Tk.kindOf (c :: r) = 3 ∧ Tk.lenOf (c :: r) ≤ 1 ∧ Tk.errOf (c :: r) = 0) ∨
    (1 ≤ Tk.lenOf (c :: r) ∧ Tk.kindOf (c :: r) = 3 ∧ 1 < Tk.lenOf (c :: r) ∧ Tk.lenOf (c :: r) ≤ 7 ∧ ¬ (c.toNat : Int) = 48 ∧ Tk.errOf (c :: r) = 0) ∨
    (1 ≤ Tk.lenOf (c :: r) ∧ Tk.kindOf (c :: r) = 4 ∧ Tk.errOf (c :: r) = 0) := by
  rw [lenOf_cons, kindOf_cons, errOf_cons]
  have pw : (Tk.small c.toNat || Tk.great c.toNat) = true → 1 ≤ Tk.pre Tk.alnum (c :: r) := fun h => Tk.pre_pos (by unfold Tk.alnum; rw [h]; rfl)
  have pd : Tk.digit c.toNat = true → 1 ≤ Tk.pre Tk.digit (c :: r) := fun h => Tk.pre_pos h
  cases h1 : Tk.small c.toNat
  · cases h2 : Tk.great c.toNat
    · cases h3 : Tk.digit c.toNat
      · simp only [Bool.or_self, Bool.false_eq_true, if_false]
        by_cases h : Tk.signLen (c :: r) = 0
        · exact .inl ⟨h, by rw [if_pos h]⟩
        · exact .inr (.inr (.inr (.inr (.inr (.inr (.inr ⟨by omega, trivial, by rw [if_neg h]⟩))))))
      · have p3 := pd h3
        simp only [Bool.or_self, Bool.false_eq_true, if_false, if_true]
        by_cases h : Tk.pre Tk.digit (c :: r) > 7
        · exact .inr (.inr (.inr (.inl ⟨p3, trivial, h, by rw [if_pos h]⟩)))
        · by_cases h' : Tk.pre Tk.digit (c :: r) > 1
          · by_cases h4 : (c.toNat : Int) = 48
            · exact .inr (.inr (.inr (.inr (.inl ⟨p3, trivial, h', by omega, h4, by rw [if_neg h, if_pos ⟨h4, h'⟩]⟩))))
            · exact .inr (.inr (.inr (.inr (.inr (.inr (.inl ⟨p3, trivial, h', by omega, h4, by rw [if_neg h, if_neg (fun x => h4 x.1)]⟩))))))
          · exact .inr (.inr (.inr (.inr (.inr (.inl ⟨p3, trivial, by omega, by rw [if_neg h, if_neg (fun x => h' x.2)]⟩)))))
    · have p2 := pw (by rw [h1, h2]; rfl)
      simp only [Bool.or_true, Bool.false_eq_true, if_false, if_true]
      by_cases h : Tk.pre Tk.alnum (c :: r) > 12
      · exact .inr (.inl ⟨p2, .inr trivial, h, by rw [if_pos h]⟩)
      · exact .inr (.inr (.inl ⟨p2, .inr trivial, by omega, by rw [if_neg h]⟩))
  · have p1 := pw (by rw [h1]; rfl)
    simp only [Bool.true_or, if_true]
    by_cases h : Tk.pre Tk.alnum (c :: r) > 12
    · exact .inr (.inl ⟨p1, .inl trivial, h, by rw [if_pos h]⟩)
    · exact .inr (.inr (.inl ⟨p1, .inl trivial, by omega, by rw [if_neg h]⟩))

theorem sep_open (s : ByteArray) (k : Nat) (h : k < s.size) (hc : (s[k].toNat : Int) = 37) : Tk.sep false (s.data.toList.drop k) = Tk.sep true (s.data.toList.drop (k + 1)) + 1 := by
  rw [drop_at s k h, Tk.sep, if_pos hc]
theorem sep_lf (s : ByteArray) (k : Nat) (h : k < s.size) (hc : (s[k].toNat : Int) = 10) : Tk.sep true (s.data.toList.drop k) = Tk.sep false (s.data.toList.drop (k + 1)) + 1 := by
  rw [drop_at s k h, Tk.sep, if_pos hc]
theorem sep_more (s : ByteArray) (k : Nat) (h : k < s.size) (hc : ¬ (s[k].toNat : Int) = 10) : Tk.sep true (s.data.toList.drop k) = Tk.sep true (s.data.toList.drop (k + 1)) + 1 := by
  rw [drop_at s k h, Tk.sep, if_neg hc]

/-- The loop of the document's scan. -/
def RefRel (s : ByteArray) (w : World) (v nt i : Value) (wr : World) : Prop :=
  ∃ (f p : Nat) (b : Bool) (acc : List Tk.Tok) (ao : Option Addr) (cap : Nat), p ≤ s.size ∧ s.size ≤ p + Tk.sep b (s.data.toList.drop p) + f ∧ acc.length ≤ p ∧ v = .slice ao acc.length cap ∧ nt = .bool b ∧ i = .int .i64 p ∧
    Tk.scanP s.data.toList f (p + Tk.sep b (s.data.toList.drop p)) acc = Tk.scan s.data.toList ∧ wr.ownsRow w.heap.size 44 3 (.slice ao acc.length cap) acc.length (allCells acc) ∧ Below w.heap.size w wr

theorem ext_zero (s : ByteArray) (p n : Nat) (h : p < s.size) (hn : 1 ≤ n) : (((s.extract p (p + n))[0]'(by simp; omega)).toNat : Int) = (s[p].toNat : Int) := by
  have h1 : (s.extract p (p + n)).data.toList[0]? = some s[p] := by
    rw [Lib.extract_data, Nat.add_sub_cancel_left, List.getElem?_take, if_pos (by omega), List.getElem?_drop, Nat.add_zero]
    exact List.getElem?_eq_getElem (by simpa using h)
  have h3 : (s.extract p (p + n)).data.toList[0]? = some ((s.extract p (p + n))[0]'(by simp; omega)) := List.getElem?_eq_getElem (by simp; omega)
  rw [h1] at h3
  rw [Option.some.inj h3]

theorem tok_cells (s : ByteArray) (p : Nat) (K : Int) (h : Tk.kindOf (s.data.toList.drop p) = K) : [Value.int .i64 K, .int .i64 p, .string (s.extract p (p + Tk.lenOf (s.data.toList.drop p)))] = tokCells (Tk.tokAt s.data.toList p) := by
  subst h
  rw [extract_take]
  rfl

theorem ref_more (s : ByteArray) (f p : Nat) (acc : List Tk.Tok) (hlt : p < s.size) (hpf : s.size ≤ p + f) (h : Tk.scanP s.data.toList f p acc = Tk.scan s.data.toList) (he : Tk.errOf (s.data.toList.drop p) = 0) :
    ∃ f1, Hid (s.size ≤ p + 1 + f1 ∧ Tk.scanP s.data.toList f1 (p + Tk.lenOf (s.data.toList.drop p) + Tk.sep false (s.data.toList.drop (p + Tk.lenOf (s.data.toList.drop p)))) (acc ++ [Tk.tokAt s.data.toList p]) = Tk.scan s.data.toList) := by
  obtain ⟨f, rfl⟩ : ∃ f', f = f' + 1 := ⟨f - 1, by omega⟩
  exact ⟨f, by omega, (Tk.scanP_yes _ _ _ _ (by simpa using hlt) he).symm.trans h⟩

theorem ref_rel {s : ByteArray} {w w2 : World} {p f1 : Nat} {acc : List Tk.Tok} {ao : Option Addr} {cap : Nat} (hlt : p < s.size) (hlen : Tk.lenOf (s.data.toList.drop p) ≤ (s.data.toList.drop p).length) (hdl : (s.data.toList.drop p).length = s.size - p) (hacc : acc.length ≤ p) (h1 : 1 ≤ Tk.lenOf (s.data.toList.drop p))
    (HF : s.size ≤ p + 1 + f1 ∧ Tk.scanP s.data.toList f1 (p + Tk.lenOf (s.data.toList.drop p) + Tk.sep false (s.data.toList.drop (p + Tk.lenOf (s.data.toList.drop p)))) (acc ++ [Tk.tokAt s.data.toList p]) = Tk.scan s.data.toList)
    (hown : w2.ownsRow w.heap.size 44 3 (.slice ao (acc.length + 1) cap) (acc.length + 1) (allCells acc ++ tokCells (Tk.tokAt s.data.toList p))) (hbel : Below w.heap.size w w2) :
    RefRel s w (.slice ao (acc.length + 1) cap) (.bool false) (.int .i64 ((p : Int) + ((Tk.lenOf (s.data.toList.drop p) : Nat) : Int))) w2 := by
  obtain ⟨g1, g2⟩ := HF
  refine ⟨f1, p + Tk.lenOf (s.data.toList.drop p), false, acc ++ [Tk.tokAt s.data.toList p], ao, cap, by omega, by omega, by simp; omega, by simp, rfl, by go_num, g2, ?_, hbel⟩
  rw [allCells_snoc]
  simpa using hown

end Go.Proofs.YtjbfbbhaagkagaaDoor

/- Lists of tokens in memory. -/
namespace Go.Proofs.YtjbfbbhaagkagaaDoor
open Go.RowKit

namespace Tk
def sameOne (q : Bool) (x y : Tok) : Bool := (x.kind == y.kind) && (x.text == y.text) && (!q || x.at_ == y.at_)
/-- Are two lists of tokens the same? but for where they begin, if q is false. -/
def same (q : Bool) : List Tok → List Tok → Bool
  | [], [] => true
  | x :: a, y :: b => sameOne q x y && same q a b
  | _, _ => false
end Tk

theorem ret_bool {a b : Bool} (h : a = b) : Ending.returned (.bool a) = .returned (.bool b) := by rw [h]

theorem drewN_two (w : World) (a b : Nat) : (w.drewN a).drewN b = w.drewN (a + b) := by simp [World.drewN, Nat.add_assoc]

/-- A token's three cells. -/
def TokIn (w : World) (b off : Nat) (t : Tk.Tok) : Prop :=
  w.cell? ⟨b, off, none⟩ = some (.int .i64 t.kind) ∧ w.cell? ⟨b, off + 1, none⟩ = some (.int .i64 t.at_) ∧ w.cell? ⟨b, off + 2, none⟩ = some (.string ⟨t.text.toArray⟩)

def tokD (l : List Tk.Tok) (i : Nat) : Tk.Tok := l.getD i ⟨0, 0, []⟩
theorem drop_tok (l : List Tk.Tok) (k : Nat) (h : k < l.length) : l.drop k = tokD l k :: l.drop (k + 1) := by
  rw [List.drop_eq_getElem_cons h, tokD, List.getD_eq_getElem?_getD, List.getElem?_eq_getElem h]
  rfl

theorem allCells_get : ∀ (l : List Tk.Tok) (i j : Nat), i < l.length → j < 3 → (allCells l)[i * 3 + j]? = (tokCells (tokD l i))[j]? := by
  intro l
  induction l with
  | nil => intro i j h; exact absurd h (by simp)
  | cons t r ih =>
    intro i j hi hj
    have e : allCells (t :: r) = tokCells t ++ allCells r := by simp [allCells]
    have hl : (tokCells t).length = 3 := rfl
    rw [e]
    cases i with
    | zero => rw [Nat.zero_mul, Nat.zero_add, List.getElem?_append_left (by omega)]; rfl
    | succ i =>
      rw [List.getElem?_append_right (by omega), hl, show (i + 1) * 3 + j - 3 = i * 3 + j from by omega, ih i j (by simpa using hi) hj]
      rfl

/-- A list of tokens behind a slice. -/
def ToksAt (w : World) (ao : Option Addr) (l : List Tk.Tok) : Prop :=
  l = [] ∨ ∃ b off, ao = some ⟨b, off, none⟩ ∧ ∀ i, i < l.length → TokIn w b (off + i * 3) (tokD l i)

/-- A row of the call's own, read as tokens. -/
theorem toksAt_own {w : World} {base n : Nat} {ao : Option Addr} {cap : Nat} {l : List Tk.Tok} (h : w.ownsRow base 44 3 (.slice ao n cap) n (allCells l)) : ToksAt w ao l := by
  rcases h.2 with ⟨hv, h0⟩ | ⟨g, cap', cur, hv, hg, hbk, r⟩
  · left
    have h1 := h.1
    rw [h0, allCells_length] at h1
    exact List.eq_nil_of_length_eq_zero (by omega)
  · right
    have hv' : ao = some ⟨g, 0, none⟩ := by injection hv
    subst hv'
    refine ⟨g, 0, rfl, fun i hi => ?_⟩
    have hc := h.cells (g := g) rfl
    have hget : ∀ j, j < 3 → (allCells l)[i * 3 + j]? = (tokCells (tokD l i))[j]? := fun j hj => allCells_get l i j hi hj
    have hadd : ∀ k, ((⟨g, 0, none⟩ : Addr).add k) = ⟨g, 0 + k, none⟩ := fun _ => by simp [Addr.add]; exact fun h => h.symm
    refine ⟨?_, ?_, ?_⟩
    · have := hc (i * 3 + 0) _ ((hget 0 (by omega)).trans rfl)
      rw [hadd] at this
      simpa using this
    · have := hc (i * 3 + 1) _ ((hget 1 (by omega)).trans rfl)
      rw [hadd] at this
      simpa [Nat.add_assoc] using this
    · have := hc (i * 3 + 2) _ ((hget 2 (by omega)).trans rfl)
      rw [hadd] at this
      simpa [Nat.add_assoc] using this

end Go.Proofs.YtjbfbbhaagkagaaDoor

/- When a text is just one token. -/
namespace Go.Proofs.YtjbfbbhaagkagaaDoor
open Go.RowKit

namespace Tk
/-- Is a text just one token of a kind, as Scan tells? -/
def alone (k : Int) (t : List UInt8) : Bool := ((scan t).2.2 == 0) && (((scan t).1.length : Int) == 1) && ((tokD (scan t).1 0).kind == k) && ((tokD (scan t).1 0).text == t)
/-- Is a text just one token of a kind? -/
def isTok (k : Int) (t : List UInt8) : Bool := decide (t ≠ [] ∧ t.length ≤ 5000 ∧ errOf t = 0 ∧ kindOf t = k ∧ lenOf t = t.length)
end Tk

theorem sep_zero (c : UInt8) (r : List UInt8) (he : Tk.errOf (c :: r) = 0) : Tk.sep false (c :: r) = 0 := by
  have h := tok_cases c r
  have hk : ¬ ((c.toNat : Int) = 37 ∨ (c.toNat : Int) = 32 ∨ (c.toNat : Int) = 9 ∨ (c.toNat : Int) = 10) := by
    intro hc
    have h1 : Tk.small c.toNat = false := by unfold Tk.small; rcases hc with h | h | h | h <;> rw [h] <;> rfl
    have h2 : Tk.great c.toNat = false := by unfold Tk.great; rcases hc with h | h | h | h <;> rw [h] <;> rfl
    have h3 : Tk.digit c.toNat = false := by unfold Tk.digit; rcases hc with h | h | h | h <;> rw [h] <;> rfl
    have h4 : Tk.signLen (c :: r) = 0 := by
      have hn : c.toNat = 37 ∨ c.toNat = 32 ∨ c.toNat = 9 ∨ c.toNat = 10 := by omega
      have hc' : c = 37 ∨ c = 32 ∨ c = 9 ∨ c = 10 := by
        rcases hn with h | h | h | h
        · exact .inl (UInt8.toNat_inj.1 h)
        · exact .inr (.inl (UInt8.toNat_inj.1 h))
        · exact .inr (.inr (.inl (UInt8.toNat_inj.1 h)))
        · exact .inr (.inr (.inr (UInt8.toNat_inj.1 h)))
      rcases hc' with rfl | rfl | rfl | rfl <;> simp [Tk.signLen, Tk.isSign, List.isPrefixOf]
    rw [errOf_cons, h1, h2, h3] at he
    simp [h4] at he
  rw [Tk.sep, if_neg (fun h => hk (.inl h)), if_neg (fun h => hk (.inr h))]

theorem isTok_scan (k : Int) (t : List UInt8) (h : Tk.isTok k t = true) : Tk.scan t = ([{ kind := k, at_ := 0, text := t }], 0, 0) := by
  have h := of_decide_eq_true h
  obtain ⟨h1, h2, h3, h4, h5⟩ := h
  match t, h1 with
  | c :: r, _ =>
    unfold Tk.scan
    rw [if_neg (by omega), sep_zero c r h3]
    have hl : (c :: r).length = r.length + 1 := rfl
    rw [hl, Tk.scanP, if_neg (by simp), List.drop_zero, if_pos h3, Tk.scanP_end _ _ _ _ (by omega)]
    simp only [List.nil_append, Tk.tokAt, List.drop_zero, h4, h5]
    rw [List.take_length]
    rfl

theorem alone_of_isTok (k : Int) (t : List UInt8) (h : Tk.isTok k t = true) : Tk.alone k t = true := by
  unfold Tk.alone
  rw [isTok_scan k t h]
  simp [tokD]

/-- What scanP puts in front stays there. -/
theorem scanP_front (L : List UInt8) : ∀ (f p : Nat) (acc : List Tk.Tok), (Tk.scanP L f p acc).2.2 = 0 → ∃ r, (Tk.scanP L f p acc).1 = acc ++ r := by
  intro f
  induction f with
  | zero => intro p acc _; exact ⟨[], by simp [Tk.scanP]⟩
  | succ f ih =>
    intro p acc h
    rw [Tk.scanP] at h ⊢
    split
    · exact ⟨[], by simp⟩
    · rename_i h1
      rw [if_neg h1] at h
      split
      · rename_i h2
        rw [if_pos h2] at h
        obtain ⟨r, hr⟩ := ih _ _ h
        exact ⟨Tk.tokAt L p :: r, by rw [hr]; simp⟩
      · rename_i h2
        rw [if_neg h2] at h
        exact absurd h h2

theorem isTok_of_alone (k : Int) (t : List UInt8) (h : Tk.alone k t = true) : Tk.isTok k t = true := by
  unfold Tk.alone at h
  simp only [Bool.and_eq_true, beq_iff_eq] at h
  obtain ⟨⟨⟨h1, h2⟩, h3⟩, h4⟩ := h
  have hl : t.length ≤ 5000 := by
    by_cases hh : 5000 < t.length
    · exfalso
      rw [Tk.scan, if_pos hh] at h1
      exact absurd h1 (by decide)
    · omega
  have hs : Tk.scan t = Tk.scanP t t.length (Tk.sep false t) [] := by rw [Tk.scan, if_neg (by omega)]
  have hsl := Tk.sep_le false t
  rw [hs] at h1 h2 h3 h4
  generalize hp : Tk.sep false t = p at *
  have hlt : p < t.length := by
    rcases Nat.lt_or_ge p t.length with hh | hh
    · exact hh
    · exfalso
      rw [Tk.scanP_end _ _ _ _ hh] at h2
      exact absurd h2 (by decide)
  have he : Tk.errOf (t.drop p) = 0 := by
    by_cases hh : Tk.errOf (t.drop p) = 0
    · exact hh
    · exfalso
      rw [Tk.scanP_no _ _ _ _ hlt (by omega) hh] at h1
      exact hh h1
  obtain ⟨f, hf⟩ : ∃ f, t.length = f + 1 := ⟨t.length - 1, by omega⟩
  rw [hf, Tk.scanP_yes _ _ _ _ hlt he] at h1 h3 h4
  obtain ⟨r, hr⟩ := scanP_front t _ _ _ h1
  rw [hr] at h3 h4
  have e3 : (Tk.tokAt t p).kind = k := h3
  have e4 : (Tk.tokAt t p).text = t := h4
  have e5 : (t.drop p).take (Tk.lenOf (t.drop p)) = t := e4
  have e6 := congrArg List.length e5
  rw [List.length_take, List.length_drop] at e6
  have p0 : p = 0 := by omega
  subst p0
  rw [List.drop_zero] at e6 he
  have e7 : Tk.kindOf t = k := by have := e3; rw [Tk.tokAt, List.drop_zero] at this; exact this
  have hle := Tk.lenOf_le t
  refine decide_eq_true ⟨?_, hl, he, e7, by omega⟩
  intro hn
  rw [hn] at hlt
  exact absurd hlt (by simp)

theorem alone_eq (k : Int) (t : List UInt8) : Tk.alone k t = Tk.isTok k t := by
  rw [Bool.eq_iff_iff]
  exact ⟨isTok_of_alone k t, alone_of_isTok k t⟩

end Go.Proofs.YtjbfbbhaagkagaaDoor

/- Trees, plain: what Check says; nothing of the program stands here. -/
namespace Go.Proofs.YtjbfbbhaagkagaaDoor
namespace Tr

structure Term where
  var : List UInt8
  n : Int
structure Lit where
  kind : Int
  at_ : Int
  op : Int
  name : List UInt8
  terms : List Term
structure Rule where
  at_ : Int
  name : List UInt8
  terms : List Term
  fold : Int
  body : List Lit

def foldOf (s : List UInt8) : Int :=
  if s == [99, 111, 117, 110, 116] then 1 else if s == [115, 117, 109] then 2 else if s == [108, 101, 97, 115, 116] then 3 else if s == [109, 111, 115, 116] then 4 else 0
def isWord (s : List UInt8) : Bool := (s == [110, 111, 116]) || (foldOf s != 0)
def isName (s : List UInt8) : Bool := Tk.isTok 1 s && !isWord s
def between (n a b : Int) : Bool := decide (a ≤ n) && decide (n ≤ b)
def termOk (t : Term) : Bool := if t.var.isEmpty then between t.n (-9999999) 9999999 else (t.n == 0) && Tk.isTok 2 t.var
def termsOk (l : List Term) : Bool := l.all termOk
def foldOk (f : Int) (terms body : Nat) : Bool := (f == 0) || (between f 1 4 && decide (0 < terms) && decide (0 < body))
def litOk (l : Lit) : Bool :=
  termsOk l.terms && (if l.kind = 1 ∨ l.kind = 2 then (l.op == 0) && isName l.name
    else if l.kind = 3 then between l.op 1 4 && l.name.isEmpty && ((l.terms.length : Int) == 2)
    else if l.kind = 4 then between l.op 5 7 && l.name.isEmpty && ((l.terms.length : Int) == 3) else false)
def litsOk (l : List Lit) : Bool := l.all litOk
def ruleOk (r : Rule) : Bool := isName r.name && termsOk r.terms && foldOk r.fold r.terms.length r.body.length && litsOk r.body
def litsMany (l : List Lit) : Bool := l.any fun x => decide (3 < x.terms.length)
def ruleMany (r : Rule) : Bool := decide (4 < r.body.length) || decide (3 < r.terms.length) || litsMany r.body
def many (l : List Rule) : Bool := decide (12 < l.length) || l.any ruleMany
def check (l : List Rule) : Int := if many l then 2 else if l.all ruleOk then 0 else 1

def termD (l : List Term) (i : Nat) : Term := l.getD i ⟨[], 0⟩
def litD (l : List Lit) (i : Nat) : Lit := l.getD i ⟨0, 0, 0, [], []⟩
def ruleD (l : List Rule) (i : Nat) : Rule := l.getD i ⟨0, [], [], 0, []⟩
end Tr

/-- An 'all' along an index. -/
theorem all_drop {α : Type} (p : α → Bool) (l : List α) (d : α) (k : Nat) (h : k < l.length) : (l.drop k).all p = (p (l.getD k d) && (l.drop (k + 1)).all p) := by
  rw [List.drop_eq_getElem_cons h, List.all_cons, List.getD_eq_getElem?_getD, List.getElem?_eq_getElem h]
  rfl
theorem any_drop {α : Type} (p : α → Bool) (l : List α) (d : α) (k : Nat) (h : k < l.length) : (l.drop k).any p = (p (l.getD k d) || (l.drop (k + 1)).any p) := by
  rw [List.drop_eq_getElem_cons h, List.any_cons, List.getD_eq_getElem?_getD, List.getElem?_eq_getElem h]
  rfl

end Go.Proofs.YtjbfbbhaagkagaaDoor

/- What the parser answers, plain: tokens in, a tree or a place out. -/
namespace Go.Proofs.YtjbfbbhaagkagaaDoor
namespace Pr

/-- The next token; behind the last one, one of no kind at the text's end. -/
def hd (en : Int) (r : List Tk.Tok) : Tk.Tok := match r with | [] => ⟨0, en, []⟩ | t :: _ => t
/-- The number of digits. -/
def num (s : List UInt8) : Int := (Lib.atoi s).getD 0
def must (t : List UInt8) (en : Int) (r : List Tk.Tok) : Int ⊕ List Tk.Tok := if (hd en r).text == t then .inr r.tail else .inl (hd en r).at_
def name (en : Int) (r : List Tk.Tok) : Int ⊕ (List UInt8 × List Tk.Tok) :=
  if ((hd en r).kind == 1) && !Tr.isWord (hd en r).text then .inr ((hd en r).text, r.tail) else .inl (hd en r).at_
def number (en : Int) (r : List Tk.Tok) : Int ⊕ (Int × List Tk.Tok) := if (hd en r).kind == 3 then .inr (num (hd en r).text, r.tail) else .inl (hd en r).at_
/-- What stands behind a '-'. -/
def neg (en : Int) (r : List Tk.Tok) : Int ⊕ (Tr.Term × List Tk.Tok) :=
  if (hd en r).text == [48] then .inl (hd en r).at_ else match number en r with
    | .inl a => .inl a
    | .inr x => .inr (⟨[], -x.1⟩, x.2)
def term (en : Int) (r : List Tk.Tok) : Int ⊕ (Tr.Term × List Tk.Tok) :=
  if (hd en r).kind == 2 then .inr (⟨(hd en r).text, 0⟩, r.tail)
  else if (hd en r).kind == 3 then .inr (⟨[], num (hd en r).text⟩, r.tail)
  else match must [45] en r with
    | .inl a => .inl a
    | .inr r1 => neg en r1
/-- A fold, if the next token is one. -/
def foldAt (en : Int) (r : List Tk.Tok) : Int × List Tk.Tok := if Tr.foldOf (hd en r).text != 0 then (Tr.foldOf (hd en r).text, r.tail) else (0, r)
def foldMay (may : Bool) (en : Int) (r : List Tk.Tok) : Int × List Tk.Tok := if may then foldAt en r else (0, r)
def isText (en : Int) (r : List Tk.Tok) (t : List UInt8) : Bool := (hd en r).text == t
/-- Terms from here on, a comma between, behind those that came. -/
def more (may : Bool) (en : Int) : Nat → List Tr.Term → List Tk.Tok → Int ⊕ ((List Tr.Term × Int) × List Tk.Tok)
  | 0, _, _ => .inl 0
  | f + 1, acc, r => match term en (foldMay may en r).2 with
    | .inl a => .inl a
    | .inr x => if ((foldMay may en r).1 == 0) && isText en x.2 [44] then more may en f (acc ++ [x.1]) x.2.tail else .inr ((acc ++ [x.1], (foldMay may en r).1), x.2)
/-- What stands behind the bracket. -/
def inside (may : Bool) (en : Int) (r : List Tk.Tok) : Int ⊕ ((List Tr.Term × Int) × List Tk.Tok) :=
  if isText en r [41] then .inr (([], 0), r.tail) else match more may en (r.length + 1) [] r with
    | .inl a => .inl a
    | .inr x => match must [41] en x.2 with
      | .inl a => .inl a
      | .inr r3 => .inr (x.1, r3)
def terms (may : Bool) (en : Int) (r : List Tk.Tok) : Int ⊕ ((List Tr.Term × Int) × List Tk.Tok) := match must [40] en r with
  | .inl a => .inl a
  | .inr r1 => inside may en r1
def opOf (s : List UInt8) : Int :=
  if s == [60] then 1 else if s == [60, 61] then 2 else if s == [61] then 3 else if s == [33, 61] then 4 else if s == [43] then 5 else if s == [45] then 6 else if s == [42] then 7 else 0
def op (en : Int) (r : List Tk.Tok) : Int ⊕ (Int × List Tk.Tok) := if opOf (hd en r).text != 0 then .inr (opOf (hd en r).text, r.tail) else .inl (hd en r).at_
/-- A name and terms. -/
def atom (kind at_ : Int) (en : Int) (r : List Tk.Tok) : Int ⊕ (Tr.Lit × List Tk.Tok) := match name en r with
  | .inl a => .inl a
  | .inr x => match terms false en x.2 with
    | .inl a => .inl a
    | .inr y => .inr (⟨kind, at_, 0, x.1, y.1.1⟩, y.2)
def calcLit (at_ o : Int) (a b : Tr.Term) (en : Int) (r : List Tk.Tok) : Int ⊕ (Tr.Lit × List Tk.Tok) := match must [61] en r with
  | .inl p => .inl p
  | .inr r1 => match term en r1 with
    | .inl p => .inl p
    | .inr z => .inr (⟨4, at_, o, [], [a, b, z.1]⟩, z.2)
def reckon (at_ : Int) (en : Int) (r : List Tk.Tok) : Int ⊕ (Tr.Lit × List Tk.Tok) := match term en r with
  | .inl p => .inl p
  | .inr a => match op en a.2 with
    | .inl p => .inl p
    | .inr o => match term en o.2 with
      | .inl p => .inl p
      | .inr b => if Tr.between o.1 5 7 then calcLit at_ o.1 a.1 b.1 en b.2 else .inr (⟨3, at_, o.1, [], [a.1, b.1]⟩, b.2)
def lit (en : Int) (r : List Tk.Tok) : Int ⊕ (Tr.Lit × List Tk.Tok) :=
  if isText en r [110, 111, 116] then atom 2 (hd en r).at_ en r.tail
  else if (hd en r).kind == 1 then atom 1 (hd en r).at_ en r
  else reckon (hd en r).at_ en r
def lits (en : Int) : Nat → List Tr.Lit → List Tk.Tok → Int ⊕ (List Tr.Lit × List Tk.Tok)
  | 0, _, _ => .inl 0
  | f + 1, acc, r => match lit en r with
    | .inl a => .inl a
    | .inr x => if isText en x.2 [44] then lits en f (acc ++ [x.1]) x.2.tail else .inr (acc ++ [x.1], x.2)
/-- What stands behind a head that is no fact. -/
def tailOf (at_ : Int) (nm : List UInt8) (l : List Tr.Term) (fo : Int) (en : Int) (r : List Tk.Tok) : Int ⊕ (Tr.Rule × List Tk.Tok) := match must [58, 45] en r with
  | .inl p => .inl p
  | .inr r1 => match lits en (r1.length + 1) [] r1 with
    | .inl p => .inl p
    | .inr b => match must [46] en b.2 with
      | .inl p => .inl p
      | .inr r2 => .inr (⟨at_, nm, l, fo, b.1⟩, r2)
def rule (en : Int) (r : List Tk.Tok) : Int ⊕ (Tr.Rule × List Tk.Tok) := match name en r with
  | .inl p => .inl p
  | .inr x => match terms true en x.2 with
    | .inl p => .inl p
    | .inr y => if (y.1.2 == 0) && isText en y.2 [46] then .inr (⟨(hd en r).at_, x.1, y.1.1, y.1.2, []⟩, y.2.tail) else tailOf (hd en r).at_ x.1 y.1.1 y.1.2 en y.2
def rules (en : Int) : Nat → List Tr.Rule → List Tk.Tok → Int ⊕ List Tr.Rule
  | 0, acc, _ => .inr acc
  | f + 1, acc, r => match r with
    | [] => .inr acc
    | _ :: _ => match rule en r with
      | .inl a => .inl a
      | .inr x => rules en f (acc ++ [x.1]) x.2
/-- What Parse answers: a tree, where it is wrong, and why. -/
def parse (L : List UInt8) : List Tr.Rule × Int × Int :=
  if (Tk.scan L).2.2 = 0 then match rules L.length ((Tk.scan L).1.length) [] (Tk.scan L).1 with
    | .inl a => ([], a, 1)
    | .inr t => if Tr.check t = 0 then (t, 0, 0) else ([], 0, Tr.check t)
  else ([], (Tk.scan L).2.1, (Tk.scan L).2.2)
end Pr
end Go.Proofs.YtjbfbbhaagkagaaDoor

/- What is parsed hangs on kinds and texts alone, but for where all begins. -/
namespace Go.Proofs.YtjbfbbhaagkagaaDoor
namespace Pr

def er (t : Tk.Tok) : Tk.Tok := ⟨t.kind, 0, t.text⟩
def erL (x : Tr.Lit) : Tr.Lit := ⟨x.kind, 0, x.op, x.name, x.terms⟩
def erR (r : Tr.Rule) : Tr.Rule := ⟨0, r.name, r.terms, r.fold, r.body.map erL⟩
def zap {α β : Type} (f : α → β) : Int ⊕ (α × List Tk.Tok) → Int ⊕ (β × List Tk.Tok)
  | .inl _ => .inl 0
  | .inr x => .inr (f x.1, x.2.map er)

theorem hd_kind (en : Int) (r : List Tk.Tok) : (hd 0 (r.map er)).kind = (hd en r).kind := by cases r <;> rfl
theorem hd_text (en : Int) (r : List Tk.Tok) : (hd 0 (r.map er)).text = (hd en r).text := by cases r <;> rfl
theorem hd_at (r : List Tk.Tok) : (hd 0 (r.map er)).at_ = 0 := by cases r <;> rfl
theorem tail_er (r : List Tk.Tok) : (r.map er).tail = r.tail.map er := by cases r <;> rfl
theorem isText_er (en : Int) (r : List Tk.Tok) (t : List UInt8) : isText 0 (r.map er) t = isText en r t := by unfold isText; rw [hd_text en]

theorem must_er (t : List UInt8) (en : Int) (r : List Tk.Tok) : must t 0 (r.map er) = match must t en r with | .inl _ => .inl 0 | .inr x => .inr (x.map er) := by
  unfold must
  rw [hd_text en, hd_at, tail_er]
  by_cases h : ((hd en r).text == t) = true
  · rw [if_pos h, if_pos h]
  · rw [if_neg h, if_neg h]
theorem name_er (en : Int) (r : List Tk.Tok) : name 0 (r.map er) = zap id (name en r) := by
  unfold name
  rw [hd_text en, hd_kind en, hd_at, tail_er]
  by_cases h : (((hd en r).kind == 1) && !Tr.isWord (hd en r).text) = true
  · rw [if_pos h, if_pos h]; rfl
  · rw [if_neg h, if_neg h]; rfl
theorem number_er (en : Int) (r : List Tk.Tok) : number 0 (r.map er) = zap id (number en r) := by
  unfold number
  rw [hd_text en, hd_kind en, hd_at, tail_er]
  by_cases h : ((hd en r).kind == 3) = true
  · rw [if_pos h, if_pos h]; rfl
  · rw [if_neg h, if_neg h]; rfl
theorem neg_er (en : Int) (r : List Tk.Tok) : neg 0 (r.map er) = zap id (neg en r) := by
  unfold neg
  rw [hd_text en, hd_at, number_er en]
  by_cases h : ((hd en r).text == [48]) = true
  · rw [if_pos h, if_pos h]; rfl
  · rw [if_neg h, if_neg h]
    cases number en r <;> rfl
theorem term_er (en : Int) (r : List Tk.Tok) : term 0 (r.map er) = zap id (term en r) := by
  unfold term
  rw [hd_text en, hd_kind en, tail_er, must_er [45] en]
  by_cases h : ((hd en r).kind == 2) = true
  · rw [if_pos h, if_pos h]; rfl
  · rw [if_neg h, if_neg h]
    by_cases h2 : ((hd en r).kind == 3) = true
    · rw [if_pos h2, if_pos h2]; rfl
    · rw [if_neg h2, if_neg h2]
      cases must [45] en r with
      | inl a => rfl
      | inr x => exact neg_er en x
theorem foldAt_er (en : Int) (r : List Tk.Tok) : foldAt 0 (r.map er) = ((foldAt en r).1, (foldAt en r).2.map er) := by
  unfold foldAt
  rw [hd_text en, tail_er]
  by_cases h : (Tr.foldOf (hd en r).text != 0) = true
  · rw [if_pos h, if_pos h]
  · rw [if_neg h, if_neg h]
theorem foldMay_er (may : Bool) (en : Int) (r : List Tk.Tok) : foldMay may 0 (r.map er) = ((foldMay may en r).1, (foldMay may en r).2.map er) := by
  unfold foldMay
  cases may
  · rfl
  · exact foldAt_er en r
theorem more_er (may : Bool) (en : Int) : ∀ (f : Nat) (acc : List Tr.Term) (r : List Tk.Tok), more may 0 f acc (r.map er) = zap id (more may en f acc r)
  | 0, _, _ => rfl
  | f + 1, acc, r => by
    unfold more
    rw [foldMay_er may en]
    simp only
    rw [term_er en]
    cases term en (foldMay may en r).2 with
    | inl a => rfl
    | inr x =>
      simp only [zap, id]
      rw [isText_er en, tail_er]
      by_cases h : (((foldMay may en r).1 == 0) && isText en x.2 [44]) = true
      · rw [if_pos h, if_pos h]; exact more_er may en f _ _
      · rw [if_neg h, if_neg h]
theorem inside_er (may : Bool) (en : Int) (r : List Tk.Tok) : inside may 0 (r.map er) = zap id (inside may en r) := by
  unfold inside
  rw [isText_er en, tail_er, List.length_map, more_er may en]
  by_cases h : isText en r [41] = true
  · rw [if_pos h, if_pos h]; rfl
  · rw [if_neg h, if_neg h]
    cases more may en (r.length + 1) [] r with
    | inl a => rfl
    | inr x =>
      simp only [zap, id]
      rw [must_er [41] en]
      cases must [41] en x.2 <;> rfl
theorem terms_er (may : Bool) (en : Int) (r : List Tk.Tok) : terms may 0 (r.map er) = zap id (terms may en r) := by
  unfold terms
  rw [must_er [40] en]
  cases must [40] en r with
  | inl a => rfl
  | inr x => exact inside_er may en x
theorem op_er (en : Int) (r : List Tk.Tok) : op 0 (r.map er) = zap id (op en r) := by
  unfold op
  rw [hd_text en, hd_at, tail_er]
  by_cases h : (opOf (hd en r).text != 0) = true
  · rw [if_pos h, if_pos h]; rfl
  · rw [if_neg h, if_neg h]; rfl
theorem atom_er (kind at_ en : Int) (r : List Tk.Tok) : atom kind 0 0 (r.map er) = zap erL (atom kind at_ en r) := by
  unfold atom
  rw [name_er en]
  cases name en r with
  | inl a => rfl
  | inr x =>
    simp only [zap, id]
    rw [terms_er false en]
    cases terms false en x.2 <;> rfl
theorem calcLit_er (at_ o : Int) (a b : Tr.Term) (en : Int) (r : List Tk.Tok) : calcLit 0 o a b 0 (r.map er) = zap erL (calcLit at_ o a b en r) := by
  unfold calcLit
  rw [must_er [61] en]
  cases must [61] en r with
  | inl p => rfl
  | inr x =>
    simp only
    rw [term_er en]
    cases term en x <;> rfl
theorem reckon_er (at_ en : Int) (r : List Tk.Tok) : reckon 0 0 (r.map er) = zap erL (reckon at_ en r) := by
  unfold reckon
  rw [term_er en]
  cases term en r with
  | inl p => rfl
  | inr a =>
    simp only [zap, id]
    rw [op_er en]
    cases op en a.2 with
    | inl p => rfl
    | inr o =>
      simp only [zap, id]
      rw [term_er en]
      cases term en o.2 with
      | inl p => rfl
      | inr b =>
        simp only [zap, id]
        by_cases h : Tr.between o.1 5 7 = true
        · rw [if_pos h, if_pos h]; exact calcLit_er at_ o.1 a.1 b.1 en b.2
        · rw [if_neg h, if_neg h]; rfl
theorem lit_er (en : Int) (r : List Tk.Tok) : lit 0 (r.map er) = zap erL (lit en r) := by
  unfold lit
  rw [isText_er en, hd_at, hd_kind en, tail_er]
  by_cases h : isText en r [110, 111, 116] = true
  · rw [if_pos h, if_pos h]; exact atom_er 2 _ en _
  · rw [if_neg h, if_neg h]
    by_cases h2 : ((hd en r).kind == 1) = true
    · rw [if_pos h2, if_pos h2]; exact atom_er 1 _ en _
    · rw [if_neg h2, if_neg h2]; exact reckon_er _ en _
theorem lits_er (en : Int) : ∀ (f : Nat) (acc : List Tr.Lit) (r : List Tk.Tok), lits 0 f (acc.map erL) (r.map er) = zap (List.map erL) (lits en f acc r)
  | 0, _, _ => rfl
  | f + 1, acc, r => by
    unfold lits
    rw [lit_er en]
    cases lit en r with
    | inl a => rfl
    | inr x =>
      simp only [zap]
      rw [isText_er en, tail_er, show acc.map erL ++ [erL x.1] = (acc ++ [x.1]).map erL by simp]
      by_cases h : isText en x.2 [44] = true
      · rw [if_pos h, if_pos h]; exact lits_er en f _ _
      · rw [if_neg h, if_neg h]
theorem tailOf_er (at_ : Int) (nm : List UInt8) (l : List Tr.Term) (fo en : Int) (r : List Tk.Tok) : tailOf 0 nm l fo 0 (r.map er) = zap erR (tailOf at_ nm l fo en r) := by
  unfold tailOf
  rw [must_er [58, 45] en]
  cases must [58, 45] en r with
  | inl p => rfl
  | inr x =>
    simp only
    rw [List.length_map, show ([] : List Tr.Lit) = ([] : List Tr.Lit).map erL from rfl, lits_er en]
    simp only [List.map_nil]
    cases lits en (x.length + 1) [] x with
    | inl p => rfl
    | inr b =>
      simp only [zap]
      rw [must_er [46] en]
      cases must [46] en b.2 <;> rfl
theorem rule_er (en : Int) (r : List Tk.Tok) : rule 0 (r.map er) = zap erR (rule en r) := by
  unfold rule
  rw [name_er en, hd_at]
  cases name en r with
  | inl p => rfl
  | inr x =>
    simp only [zap, id]
    rw [terms_er true en]
    cases terms true en x.2 with
    | inl p => rfl
    | inr y =>
      simp only [zap, id]
      rw [isText_er en, tail_er]
      by_cases h : ((y.1.2 == 0) && isText en y.2 [46]) = true
      · rw [if_pos h, if_pos h]; rfl
      · rw [if_neg h, if_neg h]; exact tailOf_er _ _ _ _ en _
theorem rules_er (en : Int) : ∀ (f : Nat) (acc : List Tr.Rule) (r : List Tk.Tok), rules 0 f (acc.map erR) (r.map er) = match rules en f acc r with | .inl _ => .inl 0 | .inr t => .inr (t.map erR)
  | 0, _, _ => rfl
  | f + 1, acc, r => by
    cases r with
    | nil => rfl
    | cons t r =>
      have h := rule_er en (t :: r)
      rw [List.map_cons] at h ⊢
      unfold rules
      simp only
      rw [h]
      cases rule en (t :: r) with
      | inl a => rfl
      | inr x =>
        simp only [zap]
        rw [show acc.map erR ++ [erR x.1] = (acc ++ [x.1]).map erR by simp]
        exact rules_er en f _ _
end Pr
end Go.Proofs.YtjbfbbhaagkagaaDoor

/- Package token: is a token the only one of its text? -/
namespace Go.Proofs.YtjbfbbhaagkagaaDoor
open Go.RowKit

abbrev tokObjOf (t : Tk.Tok) : Obj := .cells #[.int .i64 t.kind, .int .i64 t.at_, .string ⟨t.text.toArray⟩] 44

theorem boxCell {w w1 : World} {t : Tk.Tok} (hb : Below (w.alloc (tokObjOf t)).heap.size (w.alloc (tokObjOf t)) w1) :
    w1.cell? ⟨w.heap.size, 0, none⟩ = some (.int .i64 t.kind) ∧ w1.cell? ⟨w.heap.size, 1, none⟩ = some (.int .i64 t.at_) ∧ w1.cell? ⟨w.heap.size, 2, none⟩ = some (.string ⟨t.text.toArray⟩) := by
  obtain ⟨hc, hf⟩ := bcell hb
  have h : w.heap.size < (w.alloc (tokObjOf t)).heap.size := by simp
  refine ⟨?_, ?_, ?_⟩
  · rw [hc _ _ h]; simp [go_sem]
  · rw [hc _ _ h]; simp [go_sem]
  · rw [hc _ _ h]; simp [go_sem]

theorem below_box {w w1 : World} {o : Obj} (hb : Below (w.alloc o).heap.size (w.alloc o) w1) : Below w.heap.size w w1 :=
  ((Below.refl _ _).alloc (Nat.le_refl _) _).trans (hb.mono (by simp))

set_option maxRecDepth 100000 in
set_option maxHeartbeats 1000000 in
theorem alone_any (t : Tk.Tok) (w : World) :
    Calls Tryd.prog 15 #[tokVal t] w fun e w' => e = .returned (.bool (Tk.alone t.kind t.text)) ∧ Below w.heap.size w w' := by
  have HV : Hid (Tk.alone t.kind t.text = (((Tk.scan t.text).2.2 == 0) && (((Tk.scan t.text).1.length : Int) == 1) && ((tokD (Tk.scan t.text).1 0).kind == t.kind) && ((tokD (Tk.scan t.text).1 0).text == t.text))) := rfl
  generalize Tk.alone t.kind t.text = V at *
  have hS := fun w => Scan_any ⟨t.text.toArray⟩ w
  have hd : (⟨t.text.toArray⟩ : ByteArray).data.toList = t.text := List.toList_toArray
  rw [hd] at hS
  unfold ScanTop at hS
  generalize Tk.scan t.text = X at *
  have HS : Hid (_) := hS
  clear hS hd
  go_enter Tryd.func15, Tryd.ntmps15
  go_wp2_with fail
  refine (HS.out _).mono ?_
  rintro e w1 ⟨ao, cap, rfl, hown, hb⟩
  obtain ⟨c0, c1, c2⟩ := boxCell hb
  have hT0 : 0 < X.1.length → ∃ b off, ao = some ⟨b, off, none⟩ ∧ TokIn w1 b off (tokD X.1 0) := fun h0 => by
    rcases toksAt_own hown with h | ⟨b, off, rfl, hc⟩
    · rw [h] at h0; exact absurd h0 (by simp)
    · exact ⟨b, off, rfl, by simpa using hc 0 h0⟩
  have hbel := below_box hb
  clear hown hb HS
  generalize tokD X.1 0 = x at *
  cases g1 : (X.2.2 == 0)
  · have HF : Hid (V = false) := by show _ = _; rw [HV.out, g1]; rfl
    clear HV
    go_wp2_with fail
    go_quiet (fail)
    go_wp2
    go_ret
    exact ⟨ret_bool HF.out.symm, below_drewN hbel _⟩
  · cases g2 : ((X.1.length : Int) == 1)
    · have HF : Hid (V = false) := by show _ = _; rw [HV.out, g2]; simp
      clear HV
      go_wp2_with fail
      go_quiet (fail)
      go_wp2
      go_ret
      exact ⟨ret_bool HF.out.symm, below_drewN hbel _⟩
    · have hpos : 0 < X.1.length := by have := beq_iff_eq.1 g2; omega
      obtain ⟨b, off, rfl, d0, d1, d2⟩ := hT0 hpos
      clear hT0
      cases g3 : (x.kind == t.kind)
      · have HF : Hid (V = false) := by show _ = _; rw [HV.out, g3]; simp
        clear HV
        go_wp2_with fail
        go_quiet (fail)
        go_wp2
        go_ret
        exact ⟨ret_bool HF.out.symm, below_drewN hbel _⟩
      · cases g4 : (x.text == t.text)
        · have HF : Hid (V = false) := by show _ = _; rw [HV.out, g4]; simp
          clear HV
          go_wp2_with fail
          go_quiet (fail)
          go_wp2
          go_ret
          exact ⟨ret_bool HF.out.symm, below_drewN hbel _⟩
        · have HF : Hid (V = true) := by show _ = _; rw [HV.out, g1, g2, g3, g4]; rfl
          clear HV
          go_wp2_with fail
          go_quiet (fail)
          go_wp2
          go_ret
          exact ⟨ret_bool HF.out.symm, below_drewN hbel _⟩

end Go.Proofs.YtjbfbbhaagkagaaDoor

/- The writers of a strings.Builder at this program: what they leave, and that other blocks stand. -/
namespace Go.Proofs.YtjbfbbhaagkagaaDoor
open Go.RowKit

theorem A_info44 : (Tryd.prog.info? 55).map (·.size) = some 2 := by kernel_rfl
theorem A_lies44 : liesAt Tryd.prog Tryd.prog.depth 55 (2 / Tryd.prog.cellsOf 55) 0 55 1 = true := by kernel_rfl
theorem A_info5 : (Tryd.prog.info? 5).map (fun i => (i.zero, i.size, i.bytes)) = some (some (.int .u8 0), 1, 1) := by kernel_rfl

set_option maxRecDepth 100000 in
set_option maxHeartbeats 1000000 in
theorem check_used (b : Nat) (w : World) (h0 : w.cell? ⟨b, 0, none⟩ = some (.pointer (some ⟨b, 0, none⟩))) :
    Calls Tryd.prog 30 #[.pointer (some ⟨b, 0, none⟩)] w fun e w' => e = .returned (.tuple #[]) ∧ w' = w := by
  obtain ⟨j, hj, _⟩ := Option.map_eq_some_iff.1 A_info44
  go_enter Tryd.func30, Tryd.ntmps30
  go_wp2
  rw [Lib.run_neq_ptr_same w _ Tryd.underlying52 hj]
  go_wp2
  go_end0
  exact ⟨rfl, rfl⟩

set_option maxRecDepth 100000 in
set_option maxHeartbeats 1000000 in
theorem check_fresh (b : Nat) (w : World) (h0 : w.cell? ⟨b, 0, none⟩ = some (.pointer none)) (hsh : w.shape? b = some (55, 2)) (hfz : w.frozen? ⟨b, 0, none⟩ = false) :
    Calls Tryd.prog 30 #[.pointer (some ⟨b, 0, none⟩)] w fun e w' => e = .returned (.tuple #[]) ∧ w' = w.setCell ⟨b, 0, none⟩ (.pointer (some ⟨b, 0, none⟩)) := by
  obtain ⟨j, hj, hjs⟩ := Option.map_eq_some_iff.1 A_info44
  go_enter Tryd.func30, Tryd.ntmps30
  go_wp2
  rw [Lib.run_to_unsafe w ⟨b, 0, none⟩ Tryd.underlying52 Tryd.underlying88 hj (by rw [hjs]; decide) hsh (Nat.zero_lt_succ 1)]
  simp only [Result.andThen]
  rw [Oper.upon_value]
  go_wp2
  rw [run_callFunc_extern Tryd.func50 (by kernel_rfl) (by kernel_rfl) (by kernel_rfl) (e := Extern.AbiNoEscape.same) (by kernel_rfl)]
  rw [Lib.run_noEscape]
  simp only [Result.andThen]
  rw [Oper.upon_value]
  go_wp2
  rw [Lib.run_from_unsafe w ⟨b, 0, none⟩ Tryd.underlying88 Tryd.underlying52 hj hsh A_lies44]
  simp only [Result.andThen]
  rw [Oper.upon_value]
  go_wp2
  go_end0
  exact ⟨rfl, rfl⟩

theorem check_any (B b : Nat) (bs : List Value) (w : World) (h : Lib.IsBuilder 55 5 B b bs w) :
    Calls Tryd.prog 30 #[.pointer (some ⟨b, 0, none⟩)] w fun e w' => e = .returned (.tuple #[]) ∧ (Lib.BuilderAt 55 5 B b (.pointer (some ⟨b, 0, none⟩)) bs w' ∧ Below B w w' ∧ Lib.OthersKept 5 (some b) w w') := by
  rcases h with h | h
  · refine (check_fresh b w h.cell0 h.shape h.frozen0).mono ?_
    rintro e w' ⟨rfl, rfl⟩
    exact ⟨rfl, h.used _, (Below.refl B w).setCell (p := ⟨b, 0, none⟩) h.1 _, (Lib.OthersKept.refl 5 (some b) w).setCell ⟨b, 0, none⟩ rfl _⟩
  · refine (check_used b w h.cell0).mono ?_
    rintro e w' ⟨rfl, rfl⟩
    exact ⟨rfl, h, Below.refl B _, Lib.OthersKept.refl _ _ _⟩

theorem own_kind {w : World} {B : Nat} {v : Value} {n : Nat} {xs : List Value} (h : w.ownsRow B 5 1 v n xs) : ∀ g, v.ownBlock = some g → ∃ c fz, w.heap[g]? = some (.cells c 5 fz) := by
  intro g hg
  rcases h.2 with ⟨rfl, _⟩ | ⟨g', cap, cur, rfl, _, hgg, _⟩
  · simp [Value.ownBlock] at hg
  · simp [Value.ownBlock] at hg
    subst hg
    exact ⟨cur, _, hgg⟩

set_option maxRecDepth 100000 in
set_option maxHeartbeats 1000000 in
theorem writeByte_any (B b : Nat) (bs : List Value) (c : Int) (w : World) (h : Lib.IsBuilder 55 5 B b bs w) (hlen : bs.length + 1 ≤ 140737488355328) (hBw : B ≤ w.heap.size) :
    Calls Tryd.prog 16 #[.pointer (some ⟨b, 0, none⟩), .int .u8 c] w fun e w' => e = .returned .nilIface ∧ (Lib.BuilderAt 55 5 B b (.pointer (some ⟨b, 0, none⟩)) (bs ++ [.int .u8 c]) w' ∧ Below B w w' ∧ Lib.OthersKept 5 (some b) w w') := by
  obtain ⟨i0, hi, hz0, hz1, hz2⟩ := info_parts A_info5
  go_enter Tryd.func16, Tryd.ntmps16
  go_wp2_with (go_at_call 30; refine (check_any B b bs _ h).mono ?_)
  rintro e w1 ⟨rfl, h1, hb1, hk1⟩
  obtain ⟨hB, v, hbk, hown, hne⟩ := h1
  have c0 : w1.cell? ⟨b, 0, none⟩ = some (.pointer (some ⟨b, 0, none⟩)) := by rw [Lib.cell_of_heap hbk]; rfl
  have c1 : w1.cell? ⟨b, 1, none⟩ = some v := by rw [Lib.cell_of_heap hbk]; rfl
  go_wp2_with (at_builtin; refine wpList_append_own _ rfl _ _ 53 rfl B 5 i0 (.int .u8 0) 1 1 Tryd.underlying53 hi hz0 hz1 hz2 rfl (by decide) _ _ _ rfl (hown.alloc _) ⟨w1.heap.size, 0, none⟩ 1 1 [.int .u8 c] rfl rfl ?c1 ?c2 ?c3 ?c4 ?c5 ?_)
  case c1 =>
    intro j u hj
    match j, hj with
    | 0, hj => simp at hj; subst hj; simp [Addr.add]
  case c2 => intro u hu; simp at hu; subst hu; rfl
  case c3 => unfold maxLen; omega
  case c4 => omega
  case c5 => have := hb1.size; simp; omega
  intro v' w2 hown' hgrow _
  have hlt : b < w1.heap.size := Lib.BuilderAt.lt (T := 55) (e := 5) ⟨hB, v, hbk, hown, hne⟩
  have hb2 : w2.heap[b]? = some (.cells #[.pointer (some ⟨b, 0, none⟩), v] 55 (0, 0)) := by
    rw [hgrow.block b (by simp; omega) (fun e => hne e.symm), Lib.alloc_old w1 _ b hlt]
    exact hbk
  have d0 : w2.cell? ⟨b, 0, none⟩ = some (.pointer (some ⟨b, 0, none⟩)) := by rw [Lib.cell_of_heap hb2]; rfl
  have d1 : w2.cell? ⟨b, 1, none⟩ = some v := by rw [Lib.cell_of_heap hb2]; rfl
  have f1 : w2.frozen? ⟨b, 1, none⟩ = false := Lib.frozen_of_heap hb2 1
  obtain ⟨g, cap, rfl⟩ : ∃ g cap, v' = .slice (some ⟨g, 0, none⟩) (bs.length + 1) cap := by
    rcases hown'.2 with ⟨_, h0⟩ | ⟨g, cap, cur, hv, _⟩
    · omega
    · exact ⟨g, cap, hv⟩
  have hk2 : Lib.OthersKept 5 (some b) w w2 := (hk1.alloc _).grown hgrow (own_kind (hown.alloc _))
  go_wp2
  go_ret
  refine ⟨rfl, ?_, ?_, ?_⟩
  · exact Lib.BuilderAt.put (T := 55) (e := 5) hB hb2 (bs' := bs ++ [.int .u8 c]) (by simpa using hown') (by decide)
  · exact ((hb1.alloc (by have := hb1.size; omega) _).grown hgrow (by have := hb1.size; simp; omega) (fun k hk => (hown.lt k hk).1)).setCell (p := ⟨b, 1, none⟩) hB _
  · exact hk2.setCell ⟨b, 1, none⟩ rfl _

set_option maxRecDepth 100000 in
set_option maxHeartbeats 1000000 in
theorem writeString_any (B b : Nat) (bs : List Value) (s : ByteArray) (w : World) (h : Lib.IsBuilder 55 5 B b bs w) (hlen : bs.length + s.size ≤ 140737488355328) (hBw : B ≤ w.heap.size) :
    Calls Tryd.prog 17 #[.pointer (some ⟨b, 0, none⟩), .string s] w fun e w' => e = .returned (.tuple #[.int .i64 s.size, .nilIface]) ∧ (Lib.BuilderAt 55 5 B b (.pointer (some ⟨b, 0, none⟩)) (bs ++ Lib.strCells s) w' ∧ Below B w w' ∧ Lib.OthersKept 5 (some b) w w') := by
  obtain ⟨i0, hi, hz0, hz1, hz2⟩ := info_parts A_info5
  go_enter Tryd.func17, Tryd.ntmps17
  go_wp2_with (go_at_call 30; refine (check_any B b bs _ h).mono ?_)
  rintro e w1 ⟨rfl, h1, hb1, hk1⟩
  obtain ⟨hB, v, hbk, hown, hne⟩ := h1
  have c0 : w1.cell? ⟨b, 0, none⟩ = some (.pointer (some ⟨b, 0, none⟩)) := by rw [Lib.cell_of_heap hbk]; rfl
  have c1 : w1.cell? ⟨b, 1, none⟩ = some v := by rw [Lib.cell_of_heap hbk]; rfl
  go_wp2_with (at_builtin; refine Lib.wpList_append_own_string _ rfl _ _ 53 9 rfl B 5 i0 Tryd.underlying53 Tryd.underlying9 hi hz0 hz1 hz2 _ _ _ rfl hown s rfl ?c3 ?c4 ?c5 ?_)
  case c3 => unfold maxLen; omega
  case c4 => omega
  case c5 => have := hb1.size; omega
  intro v' w2 hown' hgrow _
  have hlt : b < w1.heap.size := Lib.BuilderAt.lt (T := 55) (e := 5) ⟨hB, v, hbk, hown, hne⟩
  have hb2 : w2.heap[b]? = some (.cells #[.pointer (some ⟨b, 0, none⟩), v] 55 (0, 0)) := by
    rw [hgrow.block b hlt (fun e => hne e.symm)]
    exact hbk
  have d0 : w2.cell? ⟨b, 0, none⟩ = some (.pointer (some ⟨b, 0, none⟩)) := by rw [Lib.cell_of_heap hb2]; rfl
  have d1 : w2.cell? ⟨b, 1, none⟩ = some v := by rw [Lib.cell_of_heap hb2]; rfl
  have f1 : w2.frozen? ⟨b, 1, none⟩ = false := Lib.frozen_of_heap hb2 1
  obtain ⟨ao, n', cap, rfl⟩ : ∃ ao n' cap, v' = .slice ao n' cap := by
    rcases hown'.2 with ⟨hv, _⟩ | ⟨g, cap, cur, hv, _⟩
    · exact ⟨_, _, _, hv⟩
    · exact ⟨_, _, _, hv⟩
  have hk2 : Lib.OthersKept 5 (some b) w w2 := hk1.grown hgrow (own_kind hown)
  go_wp2
  go_ret2
  refine ⟨rfl, ?_, ?_, ?_⟩
  · exact Lib.BuilderAt.put (T := 55) (e := 5) hB hb2 (bs' := bs ++ Lib.strCells s) (by simpa [Lib.strCells_length] using hown') (by decide)
  · exact (hb1.grown hgrow (by have := hb1.size; omega) (fun k hk => (hown.lt k hk).1)).setCell (p := ⟨b, 1, none⟩) hB _
  · exact hk2.setCell ⟨b, 1, none⟩ rfl _

end Go.Proofs.YtjbfbbhaagkagaaDoor

