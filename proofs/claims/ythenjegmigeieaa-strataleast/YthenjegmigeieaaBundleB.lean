/- Own texts, one behind the other (part 2). -/
import Derived.Test.YthenjegmigeieaaBundleA
import Derived.Test.YthenjegmigeieaaRows
import Derived.Sort.Grow
import Derived.WalkKit
import Derived.WalkSpells
import Derived.WalkLawsBesides
import Derived.Lib.Builder
import Derived.Lib.AppendStr
import Derived.Lib.OthersKept
import Derived.Laws.Externs
import Derived.Lib.UnsafeStr
import Derived.Deep.RegionHeld3
import Derived.Deep.DeepCutAuto
import Derived.Deep.QuietTactic
import Derived.Deep.RegionLaw
import Derived.RegionDies
import Derived.BigQuiet
import Derived.Deep.RegionHeld2
import Derived.Shelf.SlSortCmp.WholeK
import Derived.Ground.SlsfProg
import Derived.Test.YthenjegmigeieaaProg
import Derived.Lib.Atoi
import Derived.RegionTactic
import Derived.BigRegion
import Derived.Lib.AtoiBound
/- Trees, plain: what Check says; nothing of the program stands here. -/
namespace Go.Proofs.Ythenjegmigeieaa
namespace Tr

structure Term where
  var : List UInt8
  n : Int
structure Lit where
  kind : Int
  at_ : Int
  op : Int
  name : List UInt8
  terms : List Term
structure Rule where
  at_ : Int
  name : List UInt8
  terms : List Term
  fold : Int
  body : List Lit

def foldOf (s : List UInt8) : Int :=
  if s == [99, 111, 117, 110, 116] then 1 else if s == [115, 117, 109] then 2 else if s == [108, 101, 97, 115, 116] then 3 else if s == [109, 111, 115, 116] then 4 else 0
def isWord (s : List UInt8) : Bool := (s == [110, 111, 116]) || (foldOf s != 0)
def isName (s : List UInt8) : Bool := Tk.isTok 1 s && !isWord s
def between (n a b : Int) : Bool := decide (a ≤ n) && decide (n ≤ b)
def termOk (t : Term) : Bool := if t.var.isEmpty then between t.n (-9999999) 9999999 else (t.n == 0) && Tk.isTok 2 t.var
def termsOk (l : List Term) : Bool := l.all termOk
def foldOk (f : Int) (terms body : Nat) : Bool := (f == 0) || (between f 1 4 && decide (0 < terms) && decide (0 < body))
def litOk (l : Lit) : Bool :=
  termsOk l.terms && (if l.kind = 1 ∨ l.kind = 2 then (l.op == 0) && isName l.name
    else if l.kind = 3 then between l.op 1 4 && l.name.isEmpty && ((l.terms.length : Int) == 2)
    else if l.kind = 4 then between l.op 5 7 && l.name.isEmpty && ((l.terms.length : Int) == 3) else false)
def litsOk (l : List Lit) : Bool := l.all litOk
def ruleOk (r : Rule) : Bool := isName r.name && termsOk r.terms && foldOk r.fold r.terms.length r.body.length && litsOk r.body
def litsMany (l : List Lit) : Bool := l.any fun x => decide (3 < x.terms.length)
def ruleMany (r : Rule) : Bool := decide (4 < r.body.length) || decide (3 < r.terms.length) || litsMany r.body
def many (l : List Rule) : Bool := decide (12 < l.length) || l.any ruleMany
def check (l : List Rule) : Int := if many l then 2 else if l.all ruleOk then 0 else 1

def termD (l : List Term) (i : Nat) : Term := l.getD i ⟨[], 0⟩
def litD (l : List Lit) (i : Nat) : Lit := l.getD i ⟨0, 0, 0, [], []⟩
def ruleD (l : List Rule) (i : Nat) : Rule := l.getD i ⟨0, [], [], 0, []⟩
end Tr

/-- An 'all' along an index. -/
theorem all_drop {α : Type} (p : α → Bool) (l : List α) (d : α) (k : Nat) (h : k < l.length) : (l.drop k).all p = (p (l.getD k d) && (l.drop (k + 1)).all p) := by
  rw [List.drop_eq_getElem_cons h, List.all_cons, List.getD_eq_getElem?_getD, List.getElem?_eq_getElem h]
  rfl
theorem any_drop {α : Type} (p : α → Bool) (l : List α) (d : α) (k : Nat) (h : k < l.length) : (l.drop k).any p = (p (l.getD k d) || (l.drop (k + 1)).any p) := by
  rw [List.drop_eq_getElem_cons h, List.any_cons, List.getD_eq_getElem?_getD, List.getElem?_eq_getElem h]
  rfl

end Go.Proofs.Ythenjegmigeieaa

/- Programs, plain: what Check says of them; nothing of the program stands here. -/
namespace Go.Proofs.Ythenjegmigeieaa
namespace Sc

structure Term where
  var : Int
  n : Int
structure Lit where
  kind : Int
  op : Int
  pred : Int
  terms : List Term
structure Rule where
  pred : Int
  terms : List Term
  fold : Int
  body : List Lit
  vars : Int
structure Prog where
  arity : List Int
  names : List (List UInt8)
  rules : List Rule

def termD (l : List Term) (i : Nat) : Term := l.getD i ⟨0, 0⟩
def litD (l : List Lit) (i : Nat) : Lit := l.getD i ⟨0, 0, 0, []⟩
def ruleD (l : List Rule) (i : Nat) : Rule := l.getD i ⟨0, [], 0, [], 0⟩
def intD (l : List Int) (i : Nat) : Int := l.getD i 0
def strD (l : List (List UInt8)) (i : Nat) : List UInt8 := l.getD i []

/-- What is wrong first. -/
def first {α : Type} (f : α → Int) : List α → Int
  | [] => 0
  | x :: r => if f x = 0 then first f r else f x
/-- One behind the other. -/
def thn (a b : Int) : Int := if a = 0 then b else a
def isNum (n : Int) : Bool := Tr.between n (-1000000) 1000000
def termErr (vars : Int) (t : Term) : Int :=
  if Tr.between t.var (-1) (vars - 1) then (if !isNum t.n || (decide (0 ≤ t.var) && t.n != 0) then 3 else 0) else 5
def termsErr (vars : Int) (l : List Term) : Int := first (termErr vars) l
def isPred (ar : List Int) (k : Int) : Bool := Tr.between k 0 ((ar.length : Int) - 1)
def litErr (ar : List Int) (l : Lit) : Int :=
  if l.kind = 1 ∨ l.kind = 2 then
    (if l.op ≠ 0 then 3 else if isPred ar l.pred then (if (l.terms.length : Int) ≠ intD ar l.pred.toNat then 1 else 0) else 5)
  else if l.kind = 3 then (if Tr.between l.op 1 4 then (if l.pred ≠ 0 ∨ ¬ l.terms.length = 2 then 1 else 0) else 3)
  else if l.kind = 4 then (if Tr.between l.op 5 7 then (if l.pred ≠ 0 ∨ ¬ l.terms.length = 3 then 1 else 0) else 3)
  else 7
def litAll (ar : List Int) (vars : Int) (l : Lit) : Int := thn (litErr ar l) (termsErr vars l.terms)

/-- Which variables are bound, so far. -/
def known (b : List Bool) (t : Term) : Bool := decide (t.var < 0) || b.getD t.var.toNat false
def bind1 (b : List Bool) (t : Term) : List Bool := if 0 ≤ t.var then b.set t.var.toNat true else b
def bindAll (b : List Bool) (l : List Term) : List Bool := l.foldl bind1 b
/-- The terms that a literal binds. -/
def binds (b : List Bool) (l : Lit) : List Term :=
  if l.kind = 1 then l.terms else if l.kind = 4 ∧ known b (termD l.terms 0) = true ∧ known b (termD l.terms 1) = true then l.terms.drop 2 else []
def bindLit (b : List Bool) (l : Lit) : List Bool := bindAll b (binds b l)
def round (body : List Lit) (b : List Bool) : List Bool := body.foldl bindLit b
def rounds (body : List Lit) : Nat → List Bool → List Bool
  | 0, b => b
  | n + 1, b => rounds body n (round body b)
def safe (r : Rule) : Bool := (rounds r.body r.body.length (List.replicate r.vars.toNat false)).all id

def ruleErr (ar : List Int) (r : Rule) : Int :=
  if isPred ar r.pred then
    thn (if (r.terms.length : Int) ≠ intD ar r.pred.toNat then 1 else 0) (
    thn (if Tr.between r.vars 0 8 then 0 else 3) (
    thn (termsErr r.vars r.terms) (
    thn (if Tr.between r.fold 0 4 then 0 else 7) (
    thn (if r.fold ≠ 0 ∧ (r.terms.length = 0 ∨ r.body.length = 0) then 1 else 0) (
    thn (if 4 < r.body.length then 2 else 0) (
    thn (first (litAll ar r.vars) r.body) (if safe r then 0 else 4)))))))
  else 5
/-- Predicate i: its number of terms, its name, and that no name ahead is the same. -/
def predErr (ar : List Int) (names : List (List UInt8)) (i : Nat) : Int :=
  thn (if Tr.between (intD ar i) 0 3 then 0 else 3) (thn (if Tr.isName (strD names i) then 0 else 1) (if (names.take i).contains (strD names i) then 6 else 0))
def check (p : Prog) : Int :=
  if 10 < p.arity.length ∨ 12 < p.rules.length then 2
  else if ¬ p.names.length = p.arity.length then 1
  else thn (first (predErr p.arity p.names) (List.range p.names.length)) (first (ruleErr p.arity) p.rules)
/-- A fact of a program that is right. -/
def factErr (p : Prog) (pred : Int) (args : List Int) : Int :=
  if isPred p.arity pred then thn (if (args.length : Int) ≠ intD p.arity pred.toNat then 1 else 0) (if args.all isNum then 0 else 3) else 5
def fact (p : Prog) (pred : Int) (args : List Int) : Int := thn (check p) (factErr p pred args)

theorem thn_zero (b : Int) : thn 0 b = b := rfl
theorem thn_ne {a : Int} (b : Int) (h : ¬ a = 0) : thn a b = a := by unfold thn; rw [if_neg h]
theorem first_drop {α : Type} (f : α → Int) (d : α) (l : List α) (k : Nat) (h : k < l.length) : first f (l.drop k) = thn (f (l.getD k d)) (first f (l.drop (k + 1))) := by
  rw [List.drop_eq_getElem_cons h, first, thn]
  simp [List.getD_eq_getElem?_getD, List.getElem?_eq_getElem h]
theorem first_end {α : Type} (f : α → Int) (l : List α) : first f (l.drop l.length) = 0 := by rw [List.drop_length]; rfl

/-! ### One round for each literal is enough -/
theorem known_le {b c : List Bool} (h : ∀ i : Nat, b.getD i false = true → c.getD i false = true) (t : Term) (hk : known b t = true) : known c t = true := by
  unfold known at hk ⊢
  rcases Bool.or_eq_true _ _ ▸ hk with h1 | h1
  · simp [h1]
  · rw [h _ h1, Bool.or_true]
def Le (b c : List Bool) : Prop := b.length = c.length ∧ ∀ i : Nat, b.getD i false = true → c.getD i false = true
theorem Le.refl (b : List Bool) : Le b b := ⟨rfl, fun _ h => h⟩
theorem Le.trans {a b c : List Bool} (h : Le a b) (k : Le b c) : Le a c := ⟨h.1.trans k.1, fun i hi => k.2 i (h.2 i hi)⟩
theorem bind1_le (b : List Bool) (t : Term) : Le b (bind1 b t) := by
  unfold bind1
  split
  · refine ⟨by simp, fun i hi => ?_⟩
    rw [List.getD_eq_getElem?_getD] at hi ⊢
    rw [List.getElem?_set]
    split
    · rename_i h
      subst h
      split
      · rfl
      · rename_i h2
        rw [List.getElem?_eq_none (by omega)] at hi
        exact hi
    · exact hi
  · exact Le.refl b
theorem bindAll_le (l : List Term) : ∀ b : List Bool, Le b (bindAll b l) := by
  induction l with
  | nil => exact Le.refl
  | cons t r ih => exact fun b => (bind1_le b t).trans (ih (bind1 b t))
theorem bindLit_le (b : List Bool) (l : Lit) : Le b (bindLit b l) := bindAll_le _ b
theorem round_le (body : List Lit) : ∀ b : List Bool, Le b (round body b) := by
  induction body with
  | nil => exact Le.refl
  | cons t r ih => exact fun b => (bindLit_le b t).trans (ih (bindLit b t))
/-- All that these terms bind is bound. -/
def Has (b : List Bool) (l : List Term) : Prop := ∀ t, t ∈ l → 0 ≤ t.var → t.var.toNat < b.length → b.getD t.var.toNat false = true
theorem Has.le {b c : List Bool} {l : List Term} (h : Has b l) (k : Le b c) : Has c l := fun t ht h0 hl => k.2 _ (h t ht h0 (by rw [k.1]; exact hl))
theorem bind1_has {b : List Bool} {t : Term} (h : 0 ≤ t.var → t.var.toNat < b.length → b.getD t.var.toNat false = true) : bind1 b t = b := by
  unfold bind1
  split
  · rename_i h0
    apply List.ext_getElem?
    intro i
    rw [List.getElem?_set]
    split
    · rename_i hi
      subst hi
      split
      · rename_i hl
        have := h h0 hl
        rw [List.getD_eq_getElem?_getD, List.getElem?_eq_getElem hl] at this
        rw [List.getElem?_eq_getElem hl]
        simp at this
        rw [this]
      · rename_i hl
        rw [List.getElem?_eq_none (by omega)]
    · rfl
  · rfl
theorem bindAll_has (l : List Term) : ∀ {b : List Bool}, Has b l → bindAll b l = b := by
  induction l with
  | nil => exact fun _ => rfl
  | cons t r ih =>
    intro b h
    show bindAll (bind1 b t) r = b
    rw [bind1_has (h t List.mem_cons_self)]
    exact ih fun x hx => h x (List.mem_cons_of_mem _ hx)
theorem has_bind1 (b : List Bool) (t : Term) (h0 : 0 ≤ t.var) (hl : t.var.toNat < b.length) : (bind1 b t).getD t.var.toNat false = true := by
  unfold bind1
  rw [if_pos h0, List.getD_eq_getElem?_getD, List.getElem?_set_self hl]
  rfl
theorem has_bindAll (l : List Term) : ∀ b : List Bool, Has (bindAll b l) l := by
  induction l with
  | nil => exact fun _ t ht => absurd ht (by simp)
  | cons t r ih =>
    intro b x hx h0 hl
    have hle : Le (bind1 b t) (bindAll (bind1 b t) r) := bindAll_le r _
    rcases List.mem_cons.mp hx with rfl | hx
    · refine hle.2 _ (has_bind1 b x h0 ?_)
      have h1 := (bind1_le b x).1
      have h2 := hle.1
      show x.var.toNat < b.length
      rw [h1, h2]
      exact hl
    · exact ih (bind1 b t) x hx h0 hl
/-- A literal that is ready binds all its terms of that kind. -/
def ready (b : List Bool) (l : Lit) : Bool := (l.kind == 1) || ((l.kind == 4) && known b (termD l.terms 0) && known b (termD l.terms 1))
def out (l : Lit) : List Term := if l.kind = 1 then l.terms else l.terms.drop 2
theorem binds_ready (b : List Bool) (l : Lit) : binds b l = if ready b l then out l else [] := by
  unfold binds ready out
  by_cases h1 : l.kind = 1
  · simp [h1]
  · by_cases h4 : l.kind = 4
    · cases hk0 : known b (termD l.terms 0) <;> cases hk1 : known b (termD l.terms 1) <;> simp [h4]
    · simp [h1, h4]
theorem ready_le {b c : List Bool} (h : Le b c) {l : Lit} (hr : ready b l = true) : ready c l = true := by
  unfold ready at hr ⊢
  rcases Bool.or_eq_true _ _ ▸ hr with h1 | h1
  · simp [h1]
  · simp only [Bool.and_eq_true] at h1
    simp [h1.1.1, known_le h.2 _ h1.1.2, known_le h.2 _ h1.2]
/-- What was ready ahead of a round is bound behind it. -/
theorem round_has (body : List Lit) : ∀ (b : List Bool) (l : Lit), l ∈ body → ready b l = true → Has (round body b) (out l) := by
  induction body with
  | nil => exact fun _ l hl => absurd hl (by simp)
  | cons x r ih =>
    intro b l hl hr
    rcases List.mem_cons.mp hl with rfl | hl
    · refine Has.le ?_ (round_le r (bindLit b l))
      unfold bindLit
      rw [binds_ready, if_pos hr]
      exact has_bindAll _ _
    · exact ih (bindLit b x) l hl (ready_le (bindLit_le b x) hr)
/-- Where all that is ready is bound, a round binds nothing. -/
theorem round_fix (body : List Lit) : ∀ (b : List Bool), (∀ l, l ∈ body → ready b l = true → Has b (out l)) → round body b = b := by
  induction body with
  | nil => exact fun _ _ => rfl
  | cons x r ih =>
    intro b h
    have hx : bindLit b x = b := by
      unfold bindLit
      rw [binds_ready]
      split
      · rename_i hr
        exact bindAll_has _ (h x List.mem_cons_self hr)
      · rfl
    show round r (bindLit b x) = b
    rw [hx]
    exact ih b fun l hl => h l (List.mem_cons_of_mem _ hl)
def many (body : List Lit) (b : List Bool) : Nat := body.countP (ready b)
theorem many_le {body : List Lit} {b c : List Bool} (h : Le b c) : many body b ≤ many body c := List.countP_mono_left fun _ _ => ready_le h
theorem many_eq {b c : List Bool} (h : Le b c) : ∀ {body : List Lit}, many body c ≤ many body b → ∀ l, l ∈ body → ready c l = true → ready b l = true := by
  intro body
  induction body with
  | nil => exact fun _ l hl => absurd hl (by simp)
  | cons x r ih =>
    intro hm l hl hr
    have h1 : many r b ≤ many r c := many_le h
    simp only [many, List.countP_cons] at hm h1
    have h2 : ready b x = true → ready c x = true := ready_le h
    rcases List.mem_cons.mp hl with rfl | hl
    · cases hb : ready b l with
      | true => rfl
      | false => rw [hb, hr] at hm; simp at hm; omega
    · refine ih ?_ l hl hr
      show List.countP (ready c) r ≤ List.countP (ready b) r
      cases hb : ready b x with
      | true => rw [hb, h2 hb] at hm; simpa using hm
      | false =>
        cases hc : ready c x with
        | true => rw [hb, hc] at hm; simp at hm; omega
        | false => rw [hb, hc] at hm; simpa using hm
/-- Where a round makes nothing ready, the next one binds nothing. -/
theorem round_still (body : List Lit) (b : List Bool) (h : many body (round body b) ≤ many body b) : round body (round body b) = round body b :=
  round_fix body _ fun l hl hr => round_has body b l hl (many_eq (round_le body b) h l hl hr)
theorem rounds_fix (body : List Lit) : ∀ (n : Nat) (b : List Bool), round body b = b → rounds body n b = b := by
  intro n
  induction n with
  | zero => exact fun _ _ => rfl
  | succ n ih => intro b h; rw [rounds, h]; exact ih b h
theorem rounds_more (body : List Lit) : ∀ (n : Nat) (b : List Bool), body.length ≤ n + many body b → rounds body (n + 2) b = rounds body (n + 1) b := by
  intro n
  induction n with
  | zero =>
    intro b h
    have hc : many body (round body b) ≤ many body b := Nat.le_trans List.countP_le_length (by simpa using h)
    exact round_still body b hc
  | succ n ih =>
    intro b h
    by_cases hm : many body (round body b) ≤ many body b
    · have hf := round_still body b hm
      show rounds body (n + 2) (round body b) = rounds body (n + 1) (round body b)
      rw [rounds_fix body _ _ hf, rounds_fix body _ _ hf]
    · exact ih (round body b) (by omega)
theorem rounds_enough (body : List Lit) (b : List Bool) : rounds body (body.length + 1) b = rounds body body.length b := by
  by_cases h0 : many body b = 0
  · have hf : round body b = b := round_fix body b fun l hl hr => by
      have := List.countP_eq_zero.mp h0 l hl
      exact absurd hr this
    rw [rounds_fix body _ _ hf, rounds_fix body _ _ hf]
  · have hl : many body b ≤ body.length := List.countP_le_length
    obtain ⟨n, hn⟩ : ∃ n, body.length = n + 1 := ⟨body.length - 1, by omega⟩
    rw [hn]
    exact rounds_more body n b (by omega)
end Sc

end Go.Proofs.Ythenjegmigeieaa

/- The document's scan of any text; lists of tokens that are kept. -/
namespace Go.Proofs.Ythenjegmigeieaa
open Go.RowKit

theorem toksAt_below {w w' : World} {ao : Option Addr} {l : List Tk.Tok} (h : ToksAt w ao l) (hb : Below w.heap.size w w') : ToksAt w' ao l := by
  rcases h with h | ⟨b, off, rfl, hc⟩
  · exact .inl h
  · refine .inr ⟨b, off, rfl, fun i hi => ?_⟩
    obtain ⟨a0, a1, a2⟩ := hc i hi
    have hbw : b < w.heap.size := World.block_lt_of_cell? w _ a0
    exact ⟨(hb.cell (p := ⟨b, _, none⟩) hbw).trans a0, (hb.cell (p := ⟨b, _, none⟩) hbw).trans a1, (hb.cell (p := ⟨b, _, none⟩) hbw).trans a2⟩

/-- No more tokens than bytes. -/
theorem scanP_many (L : List UInt8) : ∀ (f p : Nat) (acc : List Tk.Tok), acc.length ≤ p → p ≤ L.length → (Tk.scanP L f p acc).1.length ≤ L.length := by
  intro f
  induction f with
  | zero => intro p acc h1 h2; rw [Tk.scanP]; exact Nat.le_trans h1 h2
  | succ f ih =>
    intro p acc h1 h2
    rw [Tk.scanP]
    split
    · exact Nat.le_trans h1 h2
    · split
      · rename_i h3 h4
        have g1 := Tk.lenOf_le (L.drop p)
        have g2 := Tk.lenOf_pos (L.drop p) (by intro e; have := congrArg List.length e; simp at this; omega) h4
        rw [List.length_drop] at g1
        have g3 := Tk.sep_le false (L.drop (p + Tk.lenOf (L.drop p)))
        rw [List.length_drop] at g3
        refine ih _ _ ?_ ?_
        · rw [List.length_append]; simp; omega
        · omega
      · simp
theorem scan_many (L : List UInt8) : (Tk.scan L).1.length ≤ 5000 := by
  unfold Tk.scan
  split
  · simp
  · have := scanP_many L L.length (Tk.sep false L) [] (Nat.zero_le _) (Tk.sep_le false L)
    omega

end Go.Proofs.Ythenjegmigeieaa

/- Trees in memory: what is read behind a slice. -/
namespace Go.Proofs.Ythenjegmigeieaa
open Go.RowKit

def TermIn (w : World) (b off : Nat) (t : Tr.Term) : Prop :=
  w.cell? ⟨b, off, none⟩ = some (.string ⟨t.var.toArray⟩) ∧ w.cell? ⟨b, off + 1, none⟩ = some (.int .i64 t.n)
def TermsAt (w : World) (ao : Option Addr) (l : List Tr.Term) : Prop :=
  l = [] ∨ ∃ b off, ao = some ⟨b, off, none⟩ ∧ ∀ i, i < l.length → TermIn w b (off + i * 2) (Tr.termD l i)
/-- A slice value with terms behind it. -/
def TermsV (w : World) (v : Value) (l : List Tr.Term) : Prop := ∃ ao cap, v = .slice ao l.length cap ∧ TermsAt w ao l
def LitIn (w : World) (b off : Nat) (x : Tr.Lit) : Prop :=
  w.cell? ⟨b, off, none⟩ = some (.int .i64 x.kind) ∧ w.cell? ⟨b, off + 1, none⟩ = some (.int .i64 x.at_) ∧ w.cell? ⟨b, off + 2, none⟩ = some (.int .i64 x.op) ∧ w.cell? ⟨b, off + 3, none⟩ = some (.string ⟨x.name.toArray⟩) ∧
    ∃ v, w.cell? ⟨b, off + 4, none⟩ = some v ∧ TermsV w v x.terms
def LitsAt (w : World) (ao : Option Addr) (l : List Tr.Lit) : Prop :=
  l = [] ∨ ∃ b off, ao = some ⟨b, off, none⟩ ∧ ∀ i, i < l.length → LitIn w b (off + i * 5) (Tr.litD l i)
def LitsV (w : World) (v : Value) (l : List Tr.Lit) : Prop := ∃ ao cap, v = .slice ao l.length cap ∧ LitsAt w ao l
def RuleIn (w : World) (b off : Nat) (r : Tr.Rule) : Prop :=
  w.cell? ⟨b, off, none⟩ = some (.int .i64 r.at_) ∧ w.cell? ⟨b, off + 1, none⟩ = some (.string ⟨r.name.toArray⟩) ∧ (∃ v, w.cell? ⟨b, off + 2, none⟩ = some v ∧ TermsV w v r.terms) ∧ w.cell? ⟨b, off + 3, none⟩ = some (.int .i64 r.fold) ∧
    ∃ v, w.cell? ⟨b, off + 4, none⟩ = some v ∧ LitsV w v r.body
def RulesAt (w : World) (ao : Option Addr) (l : List Tr.Rule) : Prop :=
  l = [] ∨ ∃ b off, ao = some ⟨b, off, none⟩ ∧ ∀ i, i < l.length → RuleIn w b (off + i * 5) (Tr.ruleD l i)
def RulesV (w : World) (v : Value) (l : List Tr.Rule) : Prop := ∃ ao cap, v = .slice ao l.length cap ∧ RulesAt w ao l

theorem cell_below {w w' : World} (hb : Below w.heap.size w w') {b o : Nat} {v : Value} (h : w.cell? ⟨b, o, none⟩ = some v) : w'.cell? ⟨b, o, none⟩ = some v :=
  (hb.cell (p := ⟨b, o, none⟩) (World.block_lt_of_cell? w _ h)).trans h

theorem termsAt_below {w w' : World} {ao : Option Addr} {l : List Tr.Term} (h : TermsAt w ao l) (hb : Below w.heap.size w w') : TermsAt w' ao l := by
  rcases h with h | ⟨b, off, rfl, hc⟩
  · exact .inl h
  · exact .inr ⟨b, off, rfl, fun i hi => ⟨cell_below hb (hc i hi).1, cell_below hb (hc i hi).2⟩⟩
theorem termsV_below {w w' : World} {v : Value} {l : List Tr.Term} (h : TermsV w v l) (hb : Below w.heap.size w w') : TermsV w' v l := by
  obtain ⟨ao, cap, rfl, h⟩ := h
  exact ⟨ao, cap, rfl, termsAt_below h hb⟩
theorem litIn_below {w w' : World} {b off : Nat} {x : Tr.Lit} (h : LitIn w b off x) (hb : Below w.heap.size w w') : LitIn w' b off x := by
  obtain ⟨h0, h1, h2, h3, v, h4, h5⟩ := h
  exact ⟨cell_below hb h0, cell_below hb h1, cell_below hb h2, cell_below hb h3, v, cell_below hb h4, termsV_below h5 hb⟩
theorem litsAt_below {w w' : World} {ao : Option Addr} {l : List Tr.Lit} (h : LitsAt w ao l) (hb : Below w.heap.size w w') : LitsAt w' ao l := by
  rcases h with h | ⟨b, off, rfl, hc⟩
  · exact .inl h
  · exact .inr ⟨b, off, rfl, fun i hi => litIn_below (hc i hi) hb⟩
theorem litsV_below {w w' : World} {v : Value} {l : List Tr.Lit} (h : LitsV w v l) (hb : Below w.heap.size w w') : LitsV w' v l := by
  obtain ⟨ao, cap, rfl, h⟩ := h
  exact ⟨ao, cap, rfl, litsAt_below h hb⟩
theorem ruleIn_below {w w' : World} {b off : Nat} {x : Tr.Rule} (h : RuleIn w b off x) (hb : Below w.heap.size w w') : RuleIn w' b off x := by
  obtain ⟨h0, h1, ⟨v, h2, h3⟩, h4, u, h5, h6⟩ := h
  exact ⟨cell_below hb h0, cell_below hb h1, ⟨v, cell_below hb h2, termsV_below h3 hb⟩, cell_below hb h4, u, cell_below hb h5, litsV_below h6 hb⟩
theorem rulesAt_below {w w' : World} {ao : Option Addr} {l : List Tr.Rule} (h : RulesAt w ao l) (hb : Below w.heap.size w w') : RulesAt w' ao l := by
  rcases h with h | ⟨b, off, rfl, hc⟩
  · exact .inl h
  · exact .inr ⟨b, off, rfl, fun i hi => ruleIn_below (hc i hi) hb⟩
theorem rulesV_below {w w' : World} {v : Value} {l : List Tr.Rule} (h : RulesV w v l) (hb : Below w.heap.size w w') : RulesV w' v l := by
  obtain ⟨ao, cap, rfl, h⟩ := h
  exact ⟨ao, cap, rfl, rulesAt_below h hb⟩

/-- The values of a struct that is handed on. -/
abbrev termVal (t : Tr.Term) : Value := .agg #[.string ⟨t.var.toArray⟩, .int .i64 t.n]
abbrev litVal (x : Tr.Lit) (v : Value) : Value := .agg #[.int .i64 x.kind, .int .i64 x.at_, .int .i64 x.op, .string ⟨x.name.toArray⟩, v]
abbrev ruleVal (r : Tr.Rule) (v u : Value) : Value := .agg #[.int .i64 r.at_, .string ⟨r.name.toArray⟩, v, .int .i64 r.fold, u]

end Go.Proofs.Ythenjegmigeieaa

/- Programs in memory: what is read behind slices. -/
namespace Go.Proofs.Ythenjegmigeieaa
open Go.RowKit

def IntsAt (w : World) (ao : Option Addr) (l : List Int) : Prop :=
  l = [] ∨ ∃ b off, ao = some ⟨b, off, none⟩ ∧ ∀ i, i < l.length → w.cell? ⟨b, off + i, none⟩ = some (.int .i64 (Sc.intD l i))
def IntsV (w : World) (v : Value) (l : List Int) : Prop := ∃ ao cap, v = .slice ao l.length cap ∧ IntsAt w ao l
def StrsAt (w : World) (ao : Option Addr) (l : List (List UInt8)) : Prop :=
  l = [] ∨ ∃ b off, ao = some ⟨b, off, none⟩ ∧ ∀ i, i < l.length → w.cell? ⟨b, off + i, none⟩ = some (.string ⟨(Sc.strD l i).toArray⟩)
def StrsV (w : World) (v : Value) (l : List (List UInt8)) : Prop := ∃ ao cap, v = .slice ao l.length cap ∧ StrsAt w ao l
def PTermIn (w : World) (b off : Nat) (t : Sc.Term) : Prop :=
  w.cell? ⟨b, off, none⟩ = some (.int .i64 t.var) ∧ w.cell? ⟨b, off + 1, none⟩ = some (.int .i64 t.n)
def PTermsAt (w : World) (ao : Option Addr) (l : List Sc.Term) : Prop :=
  l = [] ∨ ∃ b off, ao = some ⟨b, off, none⟩ ∧ ∀ i, i < l.length → PTermIn w b (off + i * 2) (Sc.termD l i)
def PTermsV (w : World) (v : Value) (l : List Sc.Term) : Prop := ∃ ao cap, v = .slice ao l.length cap ∧ l.length ≤ cap ∧ PTermsAt w ao l
def PLitIn (w : World) (b off : Nat) (x : Sc.Lit) : Prop :=
  w.cell? ⟨b, off, none⟩ = some (.int .i64 x.kind) ∧ w.cell? ⟨b, off + 1, none⟩ = some (.int .i64 x.op) ∧ w.cell? ⟨b, off + 2, none⟩ = some (.int .i64 x.pred) ∧
    ∃ v, w.cell? ⟨b, off + 3, none⟩ = some v ∧ PTermsV w v x.terms
def PLitsAt (w : World) (ao : Option Addr) (l : List Sc.Lit) : Prop :=
  l = [] ∨ ∃ b off, ao = some ⟨b, off, none⟩ ∧ ∀ i, i < l.length → PLitIn w b (off + i * 4) (Sc.litD l i)
def PLitsV (w : World) (v : Value) (l : List Sc.Lit) : Prop := ∃ ao cap, v = .slice ao l.length cap ∧ PLitsAt w ao l
def PRuleIn (w : World) (b off : Nat) (r : Sc.Rule) : Prop :=
  w.cell? ⟨b, off, none⟩ = some (.int .i64 r.pred) ∧ (∃ v, w.cell? ⟨b, off + 1, none⟩ = some v ∧ PTermsV w v r.terms) ∧ w.cell? ⟨b, off + 2, none⟩ = some (.int .i64 r.fold) ∧
    (∃ v, w.cell? ⟨b, off + 3, none⟩ = some v ∧ PLitsV w v r.body) ∧ w.cell? ⟨b, off + 4, none⟩ = some (.int .i64 r.vars)
def PRulesAt (w : World) (ao : Option Addr) (l : List Sc.Rule) : Prop :=
  l = [] ∨ ∃ b off, ao = some ⟨b, off, none⟩ ∧ ∀ i, i < l.length → PRuleIn w b (off + i * 5) (Sc.ruleD l i)
def PRulesV (w : World) (v : Value) (l : List Sc.Rule) : Prop := ∃ ao cap, v = .slice ao l.length cap ∧ PRulesAt w ao l
/-- A program's value. -/
abbrev progVal (va vn vr : Value) : Value := .agg #[va, vn, vr]
structure ProgV (w : World) (va vn vr : Value) (p : Sc.Prog) : Prop where
  ar : IntsV w va p.arity
  nm : StrsV w vn p.names
  rl : PRulesV w vr p.rules

theorem intsV_below {w w' : World} {v : Value} {l : List Int} (h : IntsV w v l) (hb : Below w.heap.size w w') : IntsV w' v l := by
  obtain ⟨ao, cap, rfl, h⟩ := h
  refine ⟨ao, cap, rfl, ?_⟩
  rcases h with h | ⟨b, off, rfl, hc⟩
  · exact .inl h
  · exact .inr ⟨b, off, rfl, fun i hi => cell_below hb (hc i hi)⟩
theorem strsV_below {w w' : World} {v : Value} {l : List (List UInt8)} (h : StrsV w v l) (hb : Below w.heap.size w w') : StrsV w' v l := by
  obtain ⟨ao, cap, rfl, h⟩ := h
  refine ⟨ao, cap, rfl, ?_⟩
  rcases h with h | ⟨b, off, rfl, hc⟩
  · exact .inl h
  · exact .inr ⟨b, off, rfl, fun i hi => cell_below hb (hc i hi)⟩
theorem ptermsV_below {w w' : World} {v : Value} {l : List Sc.Term} (h : PTermsV w v l) (hb : Below w.heap.size w w') : PTermsV w' v l := by
  obtain ⟨ao, cap, rfl, hc, h⟩ := h
  refine ⟨ao, cap, rfl, hc, ?_⟩
  rcases h with h | ⟨b, off, rfl, hc⟩
  · exact .inl h
  · exact .inr ⟨b, off, rfl, fun i hi => ⟨cell_below hb (hc i hi).1, cell_below hb (hc i hi).2⟩⟩
theorem plitIn_below {w w' : World} {b off : Nat} {x : Sc.Lit} (h : PLitIn w b off x) (hb : Below w.heap.size w w') : PLitIn w' b off x := by
  obtain ⟨h0, h1, h2, v, h3, h4⟩ := h
  exact ⟨cell_below hb h0, cell_below hb h1, cell_below hb h2, v, cell_below hb h3, ptermsV_below h4 hb⟩
theorem plitsV_below {w w' : World} {v : Value} {l : List Sc.Lit} (h : PLitsV w v l) (hb : Below w.heap.size w w') : PLitsV w' v l := by
  obtain ⟨ao, cap, rfl, h⟩ := h
  refine ⟨ao, cap, rfl, ?_⟩
  rcases h with h | ⟨b, off, rfl, hc⟩
  · exact .inl h
  · exact .inr ⟨b, off, rfl, fun i hi => plitIn_below (hc i hi) hb⟩
theorem pruleIn_below {w w' : World} {b off : Nat} {x : Sc.Rule} (h : PRuleIn w b off x) (hb : Below w.heap.size w w') : PRuleIn w' b off x := by
  obtain ⟨h0, ⟨v, h1, h2⟩, h3, ⟨u, h4, h5⟩, h6⟩ := h
  exact ⟨cell_below hb h0, ⟨v, cell_below hb h1, ptermsV_below h2 hb⟩, cell_below hb h3, ⟨u, cell_below hb h4, plitsV_below h5 hb⟩, cell_below hb h6⟩
theorem prulesV_below {w w' : World} {v : Value} {l : List Sc.Rule} (h : PRulesV w v l) (hb : Below w.heap.size w w') : PRulesV w' v l := by
  obtain ⟨ao, cap, rfl, h⟩ := h
  refine ⟨ao, cap, rfl, ?_⟩
  rcases h with h | ⟨b, off, rfl, hc⟩
  · exact .inl h
  · exact .inr ⟨b, off, rfl, fun i hi => pruleIn_below (hc i hi) hb⟩
theorem ProgV.below {w w' : World} {va vn vr : Value} {p : Sc.Prog} (h : ProgV w va vn vr p) (hb : Below w.heap.size w w') : ProgV w' va vn vr p := ⟨intsV_below h.ar hb, strsV_below h.nm hb, prulesV_below h.rl hb⟩

/-- The values of structs that are handed on. -/
abbrev ptermVal (t : Sc.Term) : Value := .agg #[.int .i64 t.var, .int .i64 t.n]
abbrev plitVal (x : Sc.Lit) (v : Value) : Value := .agg #[.int .i64 x.kind, .int .i64 x.op, .int .i64 x.pred, v]
abbrev pruleVal (r : Sc.Rule) (v u : Value) : Value := .agg #[.int .i64 r.pred, v, .int .i64 r.fold, u, .int .i64 r.vars]

/-- Lengths that are lengths. -/
def LitFit (x : Sc.Lit) : Prop := x.terms.length ≤ 9223372036854775807
def RuleFit (r : Sc.Rule) : Prop := r.terms.length ≤ 9223372036854775807 ∧ r.body.length ≤ 9223372036854775807 ∧ ∀ i, i < r.body.length → LitFit (Sc.litD r.body i)
structure ProgFit (p : Sc.Prog) : Prop where
  ar : p.arity.length ≤ 9223372036854775807
  nm : p.names.length ≤ 9223372036854775807
  rl : p.rules.length ≤ 9223372036854775807
  rs : ∀ i, i < p.rules.length → RuleFit (Sc.ruleD p.rules i)

end Go.Proofs.Ythenjegmigeieaa

/- Facts in memory: what is read behind slices; worlds that are only grown. -/
namespace Go.Proofs.Ythenjegmigeieaa
open Go.RowKit Go.Sort Go.Lib

/-- Blocks were laid, answers were drawn; nothing else. -/
def Gr (w w' : World) : Prop := ∃ q os, w' = grow (w.drewN q) os
theorem Gr.refl (w : World) : Gr w w := ⟨0, #[], by rw [grow_empty]; rfl⟩
theorem Gr.trans {a b c : World} (h : Gr a b) (k : Gr b c) : Gr a c := by
  obtain ⟨q, os, rfl⟩ := h
  obtain ⟨q2, os2, rfl⟩ := k
  refine ⟨q + q2, os ++ os2, ?_⟩
  show ({ a with drawn := a.drawn + q + q2, heap := a.heap ++ os ++ os2 } : World) = { a with drawn := a.drawn + (q + q2), heap := a.heap ++ (os ++ os2) }
  rw [Nat.add_assoc, Array.append_assoc]
theorem Gr.alloc {a b : World} (h : Gr a b) (o : Obj) : Gr a (b.alloc o) := h.trans ⟨0, #[o], by rw [alloc_eq_grow]; rfl⟩
theorem Gr.drew {a b : World} (h : Gr a b) : Gr a b.drew := h.trans ⟨1, #[], by rw [grow_empty]; rfl⟩
theorem Gr.below {a b : World} (h : Gr a b) : Below a.heap.size a b := by
  obtain ⟨q, os, rfl⟩ := h
  refine ⟨rfl, rfl, rfl, ?_, fun k hk => ?_⟩
  · show a.heap.size ≤ (a.heap ++ os).size
    simp
  · show (a.heap ++ os)[k]? = a.heap[k]?
    rw [Array.getElem?_append_left hk]

def Rl.factD (l : List Rl.Fc) (i : Nat) : Rl.Fc := l.getD i ⟨0, []⟩
def FactIn (w : World) (b off : Nat) (f : Rl.Fc) : Prop :=
  w.cell? ⟨b, off, none⟩ = some (.int .i64 f.pred) ∧ ∃ v, w.cell? ⟨b, off + 1, none⟩ = some v ∧ IntsV w v f.args
def FactsAt (w : World) (ao : Option Addr) (l : List Rl.Fc) : Prop :=
  l = [] ∨ ∃ b off, ao = some ⟨b, off, none⟩ ∧ ∀ i, i < l.length → FactIn w b (off + i * 2) (Rl.factD l i)
def FactsV (w : World) (v : Value) (l : List Rl.Fc) : Prop := ∃ ao cap, v = .slice ao l.length cap ∧ (l.length ≤ cap ∧ (ao = none → cap = 0)) ∧ FactsAt w ao l
/-- Lengths that are lengths. -/
def FFit (f : Rl.Fc) : Prop := f.args.length ≤ 9223372036854775807
theorem factIn_below {w w' : World} {b off : Nat} {f : Rl.Fc} (h : FactIn w b off f) (hb : Below w.heap.size w w') : FactIn w' b off f := by
  obtain ⟨h0, v, h1, h2⟩ := h
  exact ⟨cell_below hb h0, v, cell_below hb h1, intsV_below h2 hb⟩
theorem factsV_below {w w' : World} {v : Value} {l : List Rl.Fc} (h : FactsV w v l) (hb : Below w.heap.size w w') : FactsV w' v l := by
  obtain ⟨ao, cap, rfl, hc, h⟩ := h
  refine ⟨ao, cap, rfl, hc, ?_⟩
  rcases h with h | ⟨b, off, rfl, h⟩
  · exact .inl h
  · exact .inr ⟨b, off, rfl, fun i hi => factIn_below (h i hi) hb⟩
theorem facts_at {w : World} {ao : Option Addr} {l : List Rl.Fc} (h : FactsAt w ao l) (i : Nat) (hi : i < l.length) : ∃ b off, ao = some ⟨b, off, none⟩ ∧ FactIn w b (off + i * 2) (Rl.factD l i) := by
  rcases h with h | ⟨b, off, ha, hc⟩
  · rw [h] at hi; exact absurd hi (by simp)
  · exact ⟨b, off, ha, hc i hi⟩
theorem factD_drop (l : List Rl.Fc) (k : Nat) (hk : k < l.length) : l.drop k = Rl.factD l k :: l.drop (k + 1) := by
  rw [List.drop_eq_getElem_cons hk]
  simp [Rl.factD, List.getD_eq_getElem?_getD, hk]
theorem factD_mem (l : List Rl.Fc) (k : Nat) (hk : k < l.length) : Rl.factD l k ∈ l := by simp [Rl.factD, hk]
theorem factD_get (l : List Rl.Fc) (k : Nat) (hk : k < l.length) : l[k]? = some (Rl.factD l k) := by simp [Rl.factD, hk]
theorem ints_at {w : World} {ao : Option Addr} {l : List Int} (h : IntsAt w ao l) (i : Nat) (hi : i < l.length) : ∃ b off, ao = some ⟨b, off, none⟩ ∧ w.cell? ⟨b, off + i, none⟩ = some (.int .i64 (Sc.intD l i)) := by
  rcases h with h | ⟨b, off, ha, hc⟩
  · rw [h] at hi; exact absurd hi (by simp)
  · exact ⟨b, off, ha, hc i hi⟩

end Go.Proofs.Ythenjegmigeieaa

/- Package token: is a token the only one of its text? -/
namespace Go.Proofs.Ythenjegmigeieaa
open Go.RowKit

abbrev tokObjOf (t : Tk.Tok) : Obj := .cells #[.int .i64 t.kind, .int .i64 t.at_, .string ⟨t.text.toArray⟩] 111

theorem boxCell {w w1 : World} {t : Tk.Tok} (hb : Below (w.alloc (tokObjOf t)).heap.size (w.alloc (tokObjOf t)) w1) :
    w1.cell? ⟨w.heap.size, 0, none⟩ = some (.int .i64 t.kind) ∧ w1.cell? ⟨w.heap.size, 1, none⟩ = some (.int .i64 t.at_) ∧ w1.cell? ⟨w.heap.size, 2, none⟩ = some (.string ⟨t.text.toArray⟩) := by
  obtain ⟨hc, hf⟩ := bcell hb
  have h : w.heap.size < (w.alloc (tokObjOf t)).heap.size := by simp
  refine ⟨?_, ?_, ?_⟩
  · rw [hc _ _ h]; simp [go_sem]
  · rw [hc _ _ h]; simp [go_sem]
  · rw [hc _ _ h]; simp [go_sem]

theorem below_box {w w1 : World} {o : Obj} (hb : Below (w.alloc o).heap.size (w.alloc o) w1) : Below w.heap.size w w1 :=
  ((Below.refl _ _).alloc (Nat.le_refl _) _).trans (hb.mono (by simp))

set_option maxRecDepth 100000 in
set_option maxHeartbeats 1000000 in
theorem alone_any (t : Tk.Tok) (w : World) :
    Calls Try.prog 68 #[tokVal t] w fun e w' => e = .returned (.bool (Tk.alone t.kind t.text)) ∧ Below w.heap.size w w' := by
  have HV : Hid (Tk.alone t.kind t.text = (((Tk.scan t.text).2.2 == 0) && (((Tk.scan t.text).1.length : Int) == 1) && ((tokD (Tk.scan t.text).1 0).kind == t.kind) && ((tokD (Tk.scan t.text).1 0).text == t.text))) := rfl
  generalize Tk.alone t.kind t.text = V at *
  have hS := fun w => Scan_any ⟨t.text.toArray⟩ w
  have hd : (⟨t.text.toArray⟩ : ByteArray).data.toList = t.text := List.toList_toArray
  rw [hd] at hS
  unfold ScanTop at hS
  generalize Tk.scan t.text = X at *
  have HS : Hid (_) := hS
  clear hS hd
  go_enter Try.func68, Try.ntmps68
  go_wp2_with fail
  refine (HS.out _).mono ?_
  rintro e w1 ⟨ao, cap, rfl, hown, hb⟩
  obtain ⟨c0, c1, c2⟩ := boxCell hb
  have hT0 : 0 < X.1.length → ∃ b off, ao = some ⟨b, off, none⟩ ∧ TokIn w1 b off (tokD X.1 0) := fun h0 => by
    rcases toksAt_own hown with h | ⟨b, off, rfl, hc⟩
    · rw [h] at h0; exact absurd h0 (by simp)
    · exact ⟨b, off, rfl, by simpa using hc 0 h0⟩
  have hbel := below_box hb
  clear hown hb HS
  generalize tokD X.1 0 = x at *
  cases g1 : (X.2.2 == 0)
  · have HF : Hid (V = false) := by show _ = _; rw [HV.out, g1]; rfl
    clear HV
    go_wp2_with fail
    go_quiet (fail)
    go_wp2
    go_ret
    exact ⟨ret_bool HF.out.symm, below_drewN hbel _⟩
  · cases g2 : ((X.1.length : Int) == 1)
    · have HF : Hid (V = false) := by show _ = _; rw [HV.out, g2]; simp
      clear HV
      go_wp2_with fail
      go_quiet (fail)
      go_wp2
      go_ret
      exact ⟨ret_bool HF.out.symm, below_drewN hbel _⟩
    · have hpos : 0 < X.1.length := by have := beq_iff_eq.1 g2; omega
      obtain ⟨b, off, rfl, d0, d1, d2⟩ := hT0 hpos
      clear hT0
      cases g3 : (x.kind == t.kind)
      · have HF : Hid (V = false) := by show _ = _; rw [HV.out, g3]; simp
        clear HV
        go_wp2_with fail
        go_quiet (fail)
        go_wp2
        go_ret
        exact ⟨ret_bool HF.out.symm, below_drewN hbel _⟩
      · cases g4 : (x.text == t.text)
        · have HF : Hid (V = false) := by show _ = _; rw [HV.out, g4]; simp
          clear HV
          go_wp2_with fail
          go_quiet (fail)
          go_wp2
          go_ret
          exact ⟨ret_bool HF.out.symm, below_drewN hbel _⟩
        · have HF : Hid (V = true) := by show _ = _; rw [HV.out, g1, g2, g3, g4]; rfl
          clear HV
          go_wp2_with fail
          go_quiet (fail)
          go_wp2
          go_ret
          exact ⟨ret_bool HF.out.symm, below_drewN hbel _⟩

end Go.Proofs.Ythenjegmigeieaa

/- The writers of a strings.Builder at this program: what they leave, and that other blocks stand. -/
namespace Go.Proofs.Ythenjegmigeieaa
open Go.RowKit

theorem A_info44 : (Try.prog.info? 116).map (·.size) = some 2 := by kernel_rfl
theorem A_lies44 : liesAt Try.prog Try.prog.depth 116 (2 / Try.prog.cellsOf 116) 0 116 1 = true := by kernel_rfl
theorem A_info5 : (Try.prog.info? 5).map (fun i => (i.zero, i.size, i.bytes)) = some (some (.int .u8 0), 1, 1) := by kernel_rfl

set_option maxRecDepth 100000 in
set_option maxHeartbeats 1000000 in
theorem check_used (b : Nat) (w : World) (h0 : w.cell? ⟨b, 0, none⟩ = some (.pointer (some ⟨b, 0, none⟩))) :
    Calls Try.prog 74 #[.pointer (some ⟨b, 0, none⟩)] w fun e w' => e = .returned (.tuple #[]) ∧ w' = w := by
  obtain ⟨j, hj, _⟩ := Option.map_eq_some_iff.1 A_info44
  go_enter Try.func74, Try.ntmps74
  go_wp2
  rw [Lib.run_neq_ptr_same w _ Try.underlying113 hj]
  go_wp2
  go_end0
  exact ⟨rfl, rfl⟩

set_option maxRecDepth 100000 in
set_option maxHeartbeats 1000000 in
theorem check_fresh (b : Nat) (w : World) (h0 : w.cell? ⟨b, 0, none⟩ = some (.pointer none)) (hsh : w.shape? b = some (116, 2)) (hfz : w.frozen? ⟨b, 0, none⟩ = false) :
    Calls Try.prog 74 #[.pointer (some ⟨b, 0, none⟩)] w fun e w' => e = .returned (.tuple #[]) ∧ w' = w.setCell ⟨b, 0, none⟩ (.pointer (some ⟨b, 0, none⟩)) := by
  obtain ⟨j, hj, hjs⟩ := Option.map_eq_some_iff.1 A_info44
  go_enter Try.func74, Try.ntmps74
  go_wp2
  rw [Lib.run_to_unsafe w ⟨b, 0, none⟩ Try.underlying113 Try.underlying132 hj (by rw [hjs]; decide) hsh (Nat.zero_lt_succ 1)]
  simp only [Result.andThen]
  rw [Oper.upon_value]
  go_wp2
  rw [run_callFunc_extern Try.func76 (by kernel_rfl) (by kernel_rfl) (by kernel_rfl) (e := Extern.AbiNoEscape.same) (by kernel_rfl)]
  rw [Lib.run_noEscape]
  simp only [Result.andThen]
  rw [Oper.upon_value]
  go_wp2
  rw [Lib.run_from_unsafe w ⟨b, 0, none⟩ Try.underlying132 Try.underlying113 hj hsh A_lies44]
  simp only [Result.andThen]
  rw [Oper.upon_value]
  go_wp2
  go_end0
  exact ⟨rfl, rfl⟩

theorem check_any (B b : Nat) (bs : List Value) (w : World) (h : Lib.IsBuilder 116 5 B b bs w) :
    Calls Try.prog 74 #[.pointer (some ⟨b, 0, none⟩)] w fun e w' => e = .returned (.tuple #[]) ∧ (Lib.BuilderAt 116 5 B b (.pointer (some ⟨b, 0, none⟩)) bs w' ∧ Below B w w' ∧ Lib.OthersKept 5 (some b) w w') := by
  rcases h with h | h
  · refine (check_fresh b w h.cell0 h.shape h.frozen0).mono ?_
    rintro e w' ⟨rfl, rfl⟩
    exact ⟨rfl, h.used _, (Below.refl B w).setCell (p := ⟨b, 0, none⟩) h.1 _, (Lib.OthersKept.refl 5 (some b) w).setCell ⟨b, 0, none⟩ rfl _⟩
  · refine (check_used b w h.cell0).mono ?_
    rintro e w' ⟨rfl, rfl⟩
    exact ⟨rfl, h, Below.refl B _, Lib.OthersKept.refl _ _ _⟩

theorem own_kind {w : World} {B : Nat} {v : Value} {n : Nat} {xs : List Value} (h : w.ownsRow B 5 1 v n xs) : ∀ g, v.ownBlock = some g → ∃ c fz, w.heap[g]? = some (.cells c 5 fz) := by
  intro g hg
  rcases h.2 with ⟨rfl, _⟩ | ⟨g', cap, cur, rfl, _, hgg, _⟩
  · simp [Value.ownBlock] at hg
  · simp [Value.ownBlock] at hg
    subst hg
    exact ⟨cur, _, hgg⟩

set_option maxRecDepth 100000 in
set_option maxHeartbeats 1000000 in
theorem writeByte_any (B b : Nat) (bs : List Value) (c : Int) (w : World) (h : Lib.IsBuilder 116 5 B b bs w) (hlen : bs.length + 1 ≤ 140737488355328) (hBw : B ≤ w.heap.size) :
    Calls Try.prog 69 #[.pointer (some ⟨b, 0, none⟩), .int .u8 c] w fun e w' => e = .returned .nilIface ∧ (Lib.BuilderAt 116 5 B b (.pointer (some ⟨b, 0, none⟩)) (bs ++ [.int .u8 c]) w' ∧ Below B w w' ∧ Lib.OthersKept 5 (some b) w w') := by
  obtain ⟨i0, hi, hz0, hz1, hz2⟩ := info_parts A_info5
  go_enter Try.func69, Try.ntmps69
  go_wp2_with (go_at_call 74; refine (check_any B b bs _ h).mono ?_)
  rintro e w1 ⟨rfl, h1, hb1, hk1⟩
  obtain ⟨hB, v, hbk, hown, hne⟩ := h1
  have c0 : w1.cell? ⟨b, 0, none⟩ = some (.pointer (some ⟨b, 0, none⟩)) := by rw [Lib.cell_of_heap hbk]; rfl
  have c1 : w1.cell? ⟨b, 1, none⟩ = some v := by rw [Lib.cell_of_heap hbk]; rfl
  go_wp2_with (at_builtin; refine wpList_append_own _ rfl _ _ 114 rfl B 5 i0 (.int .u8 0) 1 1 Try.underlying114 hi hz0 hz1 hz2 rfl (by decide) _ _ _ rfl (hown.alloc _) ⟨w1.heap.size, 0, none⟩ 1 1 [.int .u8 c] rfl rfl ?c1 ?c2 ?c3 ?c4 ?c5 ?_)
  case c1 =>
    intro j u hj
    match j, hj with
    | 0, hj => simp at hj; subst hj; simp [Addr.add]
  case c2 => intro u hu; simp at hu; subst hu; rfl
  case c3 => unfold maxLen; omega
  case c4 => omega
  case c5 => have := hb1.size; simp; omega
  intro v' w2 hown' hgrow _
  have hlt : b < w1.heap.size := Lib.BuilderAt.lt (T := 116) (e := 5) ⟨hB, v, hbk, hown, hne⟩
  have hb2 : w2.heap[b]? = some (.cells #[.pointer (some ⟨b, 0, none⟩), v] 116 (0, 0)) := by
    rw [hgrow.block b (by simp; omega) (fun e => hne e.symm), Lib.alloc_old w1 _ b hlt]
    exact hbk
  have d0 : w2.cell? ⟨b, 0, none⟩ = some (.pointer (some ⟨b, 0, none⟩)) := by rw [Lib.cell_of_heap hb2]; rfl
  have d1 : w2.cell? ⟨b, 1, none⟩ = some v := by rw [Lib.cell_of_heap hb2]; rfl
  have f1 : w2.frozen? ⟨b, 1, none⟩ = false := Lib.frozen_of_heap hb2 1
  obtain ⟨g, cap, rfl⟩ : ∃ g cap, v' = .slice (some ⟨g, 0, none⟩) (bs.length + 1) cap := by
    rcases hown'.2 with ⟨_, h0⟩ | ⟨g, cap, cur, hv, _⟩
    · omega
    · exact ⟨g, cap, hv⟩
  have hk2 : Lib.OthersKept 5 (some b) w w2 := (hk1.alloc _).grown hgrow (own_kind (hown.alloc _))
  go_wp2
  go_ret
  refine ⟨rfl, ?_, ?_, ?_⟩
  · exact Lib.BuilderAt.put (T := 116) (e := 5) hB hb2 (bs' := bs ++ [.int .u8 c]) (by simpa using hown') (by decide)
  · exact ((hb1.alloc (by have := hb1.size; omega) _).grown hgrow (by have := hb1.size; simp; omega) (fun k hk => (hown.lt k hk).1)).setCell (p := ⟨b, 1, none⟩) hB _
  · exact hk2.setCell ⟨b, 1, none⟩ rfl _

set_option maxRecDepth 100000 in
set_option maxHeartbeats 1000000 in
theorem writeString_any (B b : Nat) (bs : List Value) (s : ByteArray) (w : World) (h : Lib.IsBuilder 116 5 B b bs w) (hlen : bs.length + s.size ≤ 140737488355328) (hBw : B ≤ w.heap.size) :
    Calls Try.prog 70 #[.pointer (some ⟨b, 0, none⟩), .string s] w fun e w' => e = .returned (.tuple #[.int .i64 s.size, .nilIface]) ∧ (Lib.BuilderAt 116 5 B b (.pointer (some ⟨b, 0, none⟩)) (bs ++ Lib.strCells s) w' ∧ Below B w w' ∧ Lib.OthersKept 5 (some b) w w') := by
  obtain ⟨i0, hi, hz0, hz1, hz2⟩ := info_parts A_info5
  go_enter Try.func70, Try.ntmps70
  go_wp2_with (go_at_call 74; refine (check_any B b bs _ h).mono ?_)
  rintro e w1 ⟨rfl, h1, hb1, hk1⟩
  obtain ⟨hB, v, hbk, hown, hne⟩ := h1
  have c0 : w1.cell? ⟨b, 0, none⟩ = some (.pointer (some ⟨b, 0, none⟩)) := by rw [Lib.cell_of_heap hbk]; rfl
  have c1 : w1.cell? ⟨b, 1, none⟩ = some v := by rw [Lib.cell_of_heap hbk]; rfl
  go_wp2_with (at_builtin; refine Lib.wpList_append_own_string _ rfl _ _ 114 9 rfl B 5 i0 Try.underlying114 Try.underlying9 hi hz0 hz1 hz2 _ _ _ rfl hown s rfl ?c3 ?c4 ?c5 ?_)
  case c3 => unfold maxLen; omega
  case c4 => omega
  case c5 => have := hb1.size; omega
  intro v' w2 hown' hgrow _
  have hlt : b < w1.heap.size := Lib.BuilderAt.lt (T := 116) (e := 5) ⟨hB, v, hbk, hown, hne⟩
  have hb2 : w2.heap[b]? = some (.cells #[.pointer (some ⟨b, 0, none⟩), v] 116 (0, 0)) := by
    rw [hgrow.block b hlt (fun e => hne e.symm)]
    exact hbk
  have d0 : w2.cell? ⟨b, 0, none⟩ = some (.pointer (some ⟨b, 0, none⟩)) := by rw [Lib.cell_of_heap hb2]; rfl
  have d1 : w2.cell? ⟨b, 1, none⟩ = some v := by rw [Lib.cell_of_heap hb2]; rfl
  have f1 : w2.frozen? ⟨b, 1, none⟩ = false := Lib.frozen_of_heap hb2 1
  obtain ⟨ao, n', cap, rfl⟩ : ∃ ao n' cap, v' = .slice ao n' cap := by
    rcases hown'.2 with ⟨hv, _⟩ | ⟨g, cap, cur, hv, _⟩
    · exact ⟨_, _, _, hv⟩
    · exact ⟨_, _, _, hv⟩
  have hk2 : Lib.OthersKept 5 (some b) w w2 := hk1.grown hgrow (own_kind hown)
  go_wp2
  go_ret2
  refine ⟨rfl, ?_, ?_, ?_⟩
  · exact Lib.BuilderAt.put (T := 116) (e := 5) hB hb2 (bs' := bs ++ Lib.strCells s) (by simpa [Lib.strCells_length] using hown') (by decide)
  · exact (hb1.grown hgrow (by have := hb1.size; omega) (fun k hk => (hown.lt k hk).1)).setCell (p := ⟨b, 1, none⟩) hB _
  · exact hk2.setCell ⟨b, 1, none⟩ rfl _

end Go.Proofs.Ythenjegmigeieaa

/- Package token: Join answers the texts of tokens with a blank between, or why not. -/
namespace Go.Proofs.Ythenjegmigeieaa
open Go.RowKit

namespace Tk
/-- The texts of the first k tokens, a blank between. -/
def joinTo (l : List Tok) : Nat → List UInt8
  | 0 => []
  | k + 1 => (if k = 0 then [] else joinTo l k ++ [32]) ++ (tokD l k).text
/-- Are the first k tokens each the only one of its text? -/
def allTok (l : List Tok) (k : Nat) : Bool := (l.take k).all fun t => isTok t.kind t.text
/-- What Join answers. -/
def join (l : List Tok) : List UInt8 × Int :=
  if allTok l l.length then (if 5000 < (joinTo l l.length).length then ([], 2) else (joinTo l l.length, 0)) else ([], 1)

theorem allTok_snoc (l : List Tok) (k : Nat) (h : k < l.length) : allTok l (k + 1) = (allTok l k && isTok (tokD l k).kind (tokD l k).text) := by
  unfold allTok
  rw [List.take_succ_eq_append_getElem h, List.all_append]
  have e : tokD l k = l[k] := by rw [tokD, List.getD_eq_getElem?_getD, List.getElem?_eq_getElem h]; rfl
  rw [e]
  simp
theorem allTok_no (l : List Tok) (k : Nat) (h : k < l.length) (hk : isTok (tokD l k).kind (tokD l k).text = false) : allTok l l.length = false := by
  have e : tokD l k = l[k] := by rw [tokD, List.getD_eq_getElem?_getD, List.getElem?_eq_getElem h]; rfl
  rw [e] at hk
  unfold allTok
  rw [List.take_length]
  rw [← Bool.not_eq_true] at hk ⊢
  intro ha
  exact hk (List.all_eq_true.1 ha _ (List.getElem_mem h))
theorem isTok_len (k : Int) (t : List UInt8) (h : isTok k t = true) : t.length ≤ 12 := by
  have h := of_decide_eq_true h
  obtain ⟨h1, h2, h3, h4, h5⟩ := h
  match t, h1 with
  | c :: r, _ =>
    rcases tok_cases c r with ⟨c1, cE⟩ | ⟨c1, cK, c3, cE⟩ | ⟨c1, cK, c3, cE⟩ | ⟨c1, cK, c3, cE⟩ | ⟨c1, cK, c3, c4, c5, cE⟩ | ⟨c1, cK, c3, cE⟩ | ⟨c1, cK, c3, c4, c5, cE⟩ | ⟨c1, cK, cE⟩
    · omega
    · omega
    · omega
    · omega
    · omega
    · omega
    · omega
    · have e2 := lenOf_cons c r
      have e1 := kindOf_cons c r
      rw [cK] at e1
      cases g1 : Tk.small c.toNat
      · cases g2 : Tk.great c.toNat
        · cases g3 : Tk.digit c.toNat
          · rw [g1, g2, g3] at e2
            simp only [Bool.or_self, Bool.false_eq_true, if_false] at e2
            have e3 : Tk.signLen (c :: r) ≤ 2 := by
              unfold Tk.signLen
              split
              · omega
              · dsimp only; split <;> omega
            omega
          · rw [g1, g2, g3] at e1; simp at e1
        · rw [g1, g2] at e1; simp at e1
      · rw [g1] at e1; simp at e1
theorem joinTo_len (l : List Tok) : ∀ k, k ≤ l.length → allTok l k = true → (joinTo l k).length ≤ 13 * k := by
  intro k
  induction k with
  | zero => intro _ _; exact Nat.le_refl 0
  | succ k ih =>
    intro hk ha
    rw [allTok_snoc l k (by omega), Bool.and_eq_true] at ha
    have h1 := ih (by omega) ha.1
    have h2 := isTok_len _ _ ha.2
    rw [joinTo]
    split
    · simp; omega
    · simp; omega
end Tk

theorem builder_below {N : Nat} {bs : List Value} {w w' : World} (h : Lib.IsBuilder 116 5 N N bs w) (hb : Below w.heap.size w w') : Lib.IsBuilder 116 5 N N bs w' := by
  have key : ∀ p, Lib.BuilderAt 116 5 N N p bs w → Lib.BuilderAt 116 5 N N p bs w' := fun p h => by
    have hlt := h.lt
    obtain ⟨h1, v, h2, h3, h4⟩ := h
    exact ⟨h1, v, by rw [hb.block N hlt]; exact h2, ownsRow_below h3 hb, h4⟩
  rcases h with h | h
  · exact .inl (key _ h)
  · exact .inr (key _ h)

theorem builder_lt {N : Nat} {bs : List Value} {w : World} (h : Lib.IsBuilder 116 5 N N bs w) : N < w.heap.size := by
  rcases h with h | h
  · exact h.lt
  · exact h.lt

/-- A block of a token stands where the builder writes. -/
theorem kept_tok {N T : Nat} {t : Tk.Tok} {w w' : World} (hk : Lib.OthersKept 5 (some N) w w') (hne : ¬ T = N) (h : w.heap[T]? = some (tokObjOf t)) : w'.heap[T]? = some (tokObjOf t) := by
  refine hk T _ h (fun e => hne (Option.some.inj e)) ?_
  intro c fz e
  injection e with _ e2 _
  exact absurd e2 (by decide)

set_option maxRecDepth 100000 in
set_option maxHeartbeats 2000000 in
theorem Join_some (l : List Tk.Tok) (w : World) (n b off cap : Nat) (hn : l.length = n) (hmax : n ≤ 4398046511104)
    (hA : ∀ i, i < n → TokIn w b (off + i * 3) (tokD l i)) :
    Calls Try.prog 66 #[.slice (some ⟨b, off, none⟩) n cap] w fun e w' => e = .returned (.tuple #[.string ⟨(Tk.join l).1.toArray⟩, .int .i64 (Tk.join l).2]) ∧ Below w.heap.size w w' := by
  have HN : Hid (l.length = n) := hn
  clear hn
  go_enter Try.func66, Try.ntmps66
  go_wp2_with fail
  go_loopw [9] (fun i wr => ∃ k : Nat, k ≤ n ∧ i = .int .i64 k ∧ Tk.allTok l k = true ∧ Lib.IsBuilder 116 5 w.heap.size w.heap.size (Lib.byteCells (Tk.joinTo l k)) wr ∧ Below w.heap.size w wr) (fun i _ => n - (intOf i).toNat)
  case atStart => exact ⟨0, Nat.zero_le _, rfl, rfl, Lib.fresh_isBuilder 116 5 w, (Below.refl _ _).alloc (Nat.le_refl _) _⟩
  case round =>
    obtain ⟨k, hk, rfl, hall, hbu, hbel⟩ := hrel
    have HA : Hid (Tk.allTok l k = true) := hall
    clear hall
    have hNw := builder_lt hbu
    have hlen := Tk.joinTo_len l k (by rw [HN.out]; exact hk) HA.out
    by_cases hlt : k < n
    · obtain ⟨a0, a1, a2⟩ := hA k hlt
      have hbw : b < w.heap.size := World.block_lt_of_cell? w _ a0
      have a0' : wr.cell? ⟨b, off + k * 3, none⟩ = some (.int .i64 (tokD l k).kind) := (hbel.cell (p := ⟨b, _, none⟩) hbw).trans a0
      have a1' : wr.cell? ⟨b, off + k * 3 + 1, none⟩ = some (.int .i64 (tokD l k).at_) := (hbel.cell (p := ⟨b, _, none⟩) hbw).trans a1
      have a2' : wr.cell? ⟨b, off + k * 3 + 2, none⟩ = some (.string ⟨(tokD l k).text.toArray⟩) := (hbel.cell (p := ⟨b, _, none⟩) hbw).trans a2
      clear a0 a1 a2 hA
      go_wp2_with fail
      refine (alone_any (tokD l k) _).mono ?_
      rintro e w1 ⟨he, hb1⟩
      rw [alone_eq] at he
      subst he
      have hb0 : Below wr.heap.size wr w1 := below_box hb1
      have hbel1 : Below w.heap.size w w1 := hbel.trans (hb0.mono (by omega))
      cases hT : Tk.isTok (tokD l k).kind (tokD l k).text
      · have HF : Hid (Tk.join l = ([], 1)) := by
          show _ = _
          unfold Tk.join
          rw [if_neg (by rw [Tk.allTok_no l k (by rw [HN.out]; exact hlt) hT]; simp)]
        clear hT hb1 a0' a1' a2'
        go_wp2_with fail
        go_ret2
        refine ⟨?_, hbel1⟩
        rw [HF.out]
        rfl
      · have HT : Hid (Tk.allTok l (k + 1) = true) := by
          show _ = _
          rw [Tk.allTok_snoc l k (by rw [HN.out]; exact hlt), HA.out, hT]
          rfl
        have h12 := Tk.isTok_len _ _ hT
        have hbu1 := builder_below hbu hb0
        have hblk : w1.heap[wr.heap.size]? = some (tokObjOf (tokD l k)) := by
          rw [hb1.block wr.heap.size (by simp)]
          exact heap_alloc_new wr _
        obtain ⟨x0, x1, x2⟩ := boxCell hb1
        have hz1 : w.heap.size ≤ w1.heap.size := hbel1.size
        clear hT hb1 a0' a1' a2' hbu hb0
        by_cases hk0 : 0 < k
        · have HJ : Hid (Lib.byteCells (Tk.joinTo l k) ++ [.int .u8 32] ++ Lib.strCells ⟨(tokD l k).text.toArray⟩ = Lib.byteCells (Tk.joinTo l (k + 1))) := by
            show _ = _
            rw [Tk.joinTo, if_neg (by omega), Lib.byteCells_append, Lib.byteCells_append]
            rfl
          go_wp2_with fail
          refine (writeByte_any w.heap.size w.heap.size _ 32 _ hbu1 (by rw [Lib.byteCells_length]; omega) hz1).mono ?_
          rintro e w2 ⟨rfl, hB2, hbel2, hk2⟩
          have hblk2 := kept_tok hk2 (by omega) hblk
          have d2 : w2.cell? ⟨wr.heap.size, 2, none⟩ = some (.string ⟨(tokD l k).text.toArray⟩) := by rw [Lib.cell_of_heap hblk2]; rfl
          have hz2 : w.heap.size ≤ w2.heap.size := by have := hbel2.size; omega
          clear hk2 hblk hblk2 hbu1 x0 x1 x2
          go_wp2_with fail
          refine (writeString_any w.heap.size w.heap.size _ _ _ (.inr hB2) (by show _ + (tokD l k).text.toArray.size ≤ _; simp [Lib.byteCells_length]; omega) hz2).mono ?_
          rintro e w3 ⟨rfl, hB3, hbel3, _⟩
          rw [HJ.out] at hB3
          have hbel4 := (hbel1.trans hbel2).trans hbel3
          clear hB2 d2 HJ
          go_wp2
          go_roundw
          case rel => exact ⟨k + 1, by omega, by go_num, HT.out, .inr hB3, hbel4⟩
          case measure => simp [intOf]; omega
        · have hd : decide ((0 : Int) < (k : Int)) = false := by simp; omega
          have HJ : Hid (Lib.byteCells (Tk.joinTo l k) ++ Lib.strCells ⟨(tokD l k).text.toArray⟩ = Lib.byteCells (Tk.joinTo l (k + 1))) := by
            show _ = _
            have e0 : k = 0 := by omega
            rw [e0, Tk.joinTo, Tk.joinTo, if_pos rfl]
            rfl
          go_wp2_with fail
          refine (writeString_any w.heap.size w.heap.size _ _ _ hbu1 (by show _ + (tokD l k).text.toArray.size ≤ _; simp [Lib.byteCells_length]; omega) hz1).mono ?_
          rintro e w3 ⟨rfl, hB3, hbel3, _⟩
          rw [HJ.out] at hB3
          have hbel4 := hbel1.trans hbel3
          clear hbu1 HJ x0 x1 x2 hblk
          go_wp2
          go_roundw
          case rel => exact ⟨k + 1, by omega, by go_num, HT.out, .inr hB3, hbel4⟩
          case measure => simp [intOf]; omega
    · have hkn : k = n := by omega
      have HL : Hid (k = l.length) := by show _ = _; rw [HN.out]; exact hkn
      clear hkn
      have HA2 : Hid (Tk.allTok l l.length = true) := by have := HA.out; rw [HL.out] at this; exact this
      clear hA
      by_cases h5 : 5000 < (Tk.joinTo l k).length
      · have HF : Hid (Tk.join l = ([], 2)) := by
          show _ = _
          unfold Tk.join
          rw [if_pos HA2.out, if_pos (by rw [← HL.out]; exact h5)]
        go_wp2_with (go_at_call 71; refine (Try.Builder_Len _ _ _ _ hbu).mono ?_; rintro e w' ⟨rfl, rfl⟩; rw [Lib.byteCells_length])
        go_ret2
        refine ⟨?_, hbel⟩
        rw [HF.out]
        rfl
      · have HF : Hid (Tk.join l = (Tk.joinTo l k, 0)) := by
          show _ = _
          unfold Tk.join
          rw [if_pos HA2.out, if_neg (by rw [← HL.out]; exact h5), HL.out]
        go_wp2_with (first | (go_at_call 71; refine (Try.Builder_Len _ _ _ _ hbu).mono ?_; rintro e w' ⟨rfl, rfl⟩; rw [Lib.byteCells_length]) | (go_at_call 72; refine (Try.Builder_String_any _ _ _ _ hbu (by omega)).mono ?_; rintro e w2 ⟨rfl, hbel2⟩))
        go_ret2
        refine ⟨?_, hbel.trans hbel2⟩
        rw [HF.out]
        rfl

end Go.Proofs.Ythenjegmigeieaa

/- Package token: Join, whatever tokens it is handed. -/
namespace Go.Proofs.Ythenjegmigeieaa
open Go.RowKit

set_option maxRecDepth 100000 in
set_option maxHeartbeats 400000 in
theorem Join_none (w : World) (ao : Option Addr) (cap : Nat) :
    Calls Try.prog 66 #[.slice ao 0 cap] w fun e w' => e = .returned (.tuple #[.string ⟨#[]⟩, .int .i64 0]) ∧ Below w.heap.size w w' := by
  have hbu : Lib.IsBuilder 116 5 w.heap.size w.heap.size (Lib.byteCells []) (w.alloc (.cells #[.pointer none, .slice none 0 0] 116)) := Lib.fresh_isBuilder 116 5 w
  have hbel : Below w.heap.size w (w.alloc (.cells #[.pointer none, .slice none 0 0] 116)) := (Below.refl _ _).alloc (Nat.le_refl _) _
  go_enter Try.func66, Try.ntmps66
  go_wp2_with fail
  refine wp_loop_rounds 1 ?_
  rw [rounds_succ]
  go_wp2_with (first | (go_at_call 71; refine (Try.Builder_Len _ _ _ _ hbu).mono ?_; rintro e w' ⟨rfl, rfl⟩; rw [Lib.byteCells_length]) | (go_at_call 72; refine (Try.Builder_String_any _ _ _ _ hbu (by simp)).mono ?_; rintro e w2 ⟨rfl, hbel2⟩))
  go_ret2
  exact ⟨rfl, hbel.trans hbel2⟩

/-- Join, whatever tokens it is handed. -/
theorem Join_any (l : List Tk.Tok) (w : World) (ao : Option Addr) (cap : Nat) (hmax : l.length ≤ 4398046511104) (hA : ToksAt w ao l) :
    Calls Try.prog 66 #[.slice ao l.length cap] w fun e w' => e = .returned (.tuple #[.string ⟨(Tk.join l).1.toArray⟩, .int .i64 (Tk.join l).2]) ∧ Below w.heap.size w w' := by
  rcases hA with rfl | ⟨b, off, rfl, hA⟩
  · exact Join_none w ao cap
  · exact Join_some l w l.length b off cap rfl hmax hA

end Go.Proofs.Ythenjegmigeieaa

/- Package tree: words, names and terms. -/
namespace Go.Proofs.Ythenjegmigeieaa
open Go.RowKit

set_option maxRecDepth 100000 in
set_option maxHeartbeats 400000 in
theorem foldOf_any (s : List UInt8) (w : World) : Calls Try.prog 67 #[.string ⟨s.toArray⟩] w fun e w' => e = .returned (.int .i64 (Tr.foldOf s)) ∧ w' = w := by
  unfold Tr.foldOf
  cases h1 : (s == [99, 111, 117, 110, 116])
  · cases h2 : (s == [115, 117, 109])
    · cases h3 : (s == [108, 101, 97, 115, 116])
      · cases h4 : (s == [109, 111, 115, 116])
        · go_enter Try.func67, Try.ntmps67
          go_wp2
          go_ret
          exact ⟨rfl, rfl⟩
        · go_enter Try.func67, Try.ntmps67
          go_wp2
          go_ret
          exact ⟨rfl, rfl⟩
      · go_enter Try.func67, Try.ntmps67
        go_wp2
        go_ret
        exact ⟨rfl, rfl⟩
    · go_enter Try.func67, Try.ntmps67
      go_wp2
      go_ret
      exact ⟨rfl, rfl⟩
  · go_enter Try.func67, Try.ntmps67
    go_wp2
    go_ret
    exact ⟨rfl, rfl⟩

set_option maxRecDepth 100000 in
set_option maxHeartbeats 400000 in
theorem isWord_any (s : List UInt8) (w : World) : Calls Try.prog 62 #[.string ⟨s.toArray⟩] w fun e w' => e = .returned (.bool (Tr.isWord s)) ∧ w' = w := by
  unfold Tr.isWord
  cases h1 : (s == [110, 111, 116])
  · go_enter Try.func62, Try.ntmps62
    go_wp2_with (go_at_call 67; refine (foldOf_any _ _).mono ?_; rintro e w' ⟨rfl, rfl⟩)
    go_ret
    exact ⟨rfl, rfl⟩
  · go_enter Try.func62, Try.ntmps62
    go_wp2
    go_ret
    exact ⟨rfl, rfl⟩

set_option maxRecDepth 100000 in
set_option maxHeartbeats 400000 in
theorem isTest_any (n : Int) (w : World) : Calls Try.prog 64 #[.int .i64 n] w fun e w' => e = .returned (.bool (Tr.between n 1 4)) ∧ w' = w := by
  unfold Tr.between
  by_cases h : 1 ≤ n
  · go_enter Try.func64, Try.ntmps64
    go_wp2
    go_ret
    exact ⟨by simp [h], rfl⟩
  · have hd : decide (1 ≤ n) = false := by simpa using h
    go_enter Try.func64, Try.ntmps64
    go_wp2
    go_ret
    exact ⟨rfl, rfl⟩

set_option maxRecDepth 100000 in
set_option maxHeartbeats 400000 in
theorem isCalc_any (n : Int) (w : World) : Calls Try.prog 65 #[.int .i64 n] w fun e w' => e = .returned (.bool (Tr.between n 5 7)) ∧ w' = w := by
  unfold Tr.between
  by_cases h : 5 ≤ n
  · go_enter Try.func65, Try.ntmps65
    go_wp2
    go_ret
    exact ⟨by simp [h], rfl⟩
  · have hd : decide (5 ≤ n) = false := by simpa using h
    go_enter Try.func65, Try.ntmps65
    go_wp2
    go_ret
    exact ⟨rfl, rfl⟩

theorem join_one (k : Int) (s : List UInt8) : ((Tk.join [⟨k, 0, s⟩]).2 == 0) = Tk.isTok k s := by
  have e1 : Tk.allTok [⟨k, 0, s⟩] 1 = Tk.isTok k s := by simp [Tk.allTok]
  have e2 : Tk.joinTo [⟨k, 0, s⟩] 1 = s := by simp [Tk.joinTo, tokD]
  unfold Tk.join
  rw [List.length_singleton, e1, e2]
  cases h : Tk.isTok k s
  · rfl
  · have := Tk.isTok_len k s h
    rw [if_pos rfl, if_neg (by omega)]
    rfl

set_option maxRecDepth 100000 in
set_option maxHeartbeats 400000 in
theorem isToken_any (s : List UInt8) (k : Int) (w : World) : Calls Try.prog 61 #[.string ⟨s.toArray⟩, .int .i64 k] w fun e w' => e = .returned (.bool (Tk.isTok k s)) ∧ Below w.heap.size w w' := by
  have HJ := join_one k s
  have hA : ToksAt (w.alloc (.cells #[.int .i64 k, .int .i64 0, .string ⟨s.toArray⟩] 111)) (some ⟨w.heap.size, 0, none⟩) [⟨k, 0, s⟩] := by
    refine .inr ⟨w.heap.size, 0, rfl, fun i hi => ?_⟩
    have : i = 0 := by simpa using hi
    subst this
    exact ⟨by simp [go_sem, tokD], by simp [go_sem, tokD], by simp [go_sem, tokD]⟩
  have HC : Hid (_) := Join_any [⟨k, 0, s⟩] _ _ 1 (by simp) hA
  rw [← HJ]
  generalize Tk.join [⟨k, 0, s⟩] = J at *
  clear hA HJ
  go_enter Try.func61, Try.ntmps61
  go_wp2_with fail
  refine Calls.mono HC.out ?_
  rintro e w1 ⟨rfl, hb⟩
  go_wp2
  go_ret
  exact ⟨rfl, below_box hb⟩

set_option maxRecDepth 100000 in
set_option maxHeartbeats 400000 in
theorem isName_any (s : List UInt8) (w : World) : Calls Try.prog 56 #[.string ⟨s.toArray⟩] w fun e w' => e = .returned (.bool (Tr.isName s)) ∧ Below w.heap.size w w' := by
  unfold Tr.isName
  cases h1 : Tk.isTok 1 s
  · go_enter Try.func56, Try.ntmps56
    go_wp2_with fail
    refine (isToken_any s 1 w).mono ?_
    rintro e w1 ⟨he, hb⟩
    rw [h1] at he
    subst he
    go_wp2
    go_ret
    exact ⟨rfl, hb⟩
  · go_enter Try.func56, Try.ntmps56
    go_wp2_with fail
    refine (isToken_any s 1 w).mono ?_
    rintro e w1 ⟨he, hb⟩
    rw [h1] at he
    subst he
    go_wp2_with (go_at_call 62; refine (isWord_any _ _).mono ?_; rintro e w' ⟨rfl, rfl⟩)
    go_ret
    exact ⟨rfl, hb⟩

end Go.Proofs.Ythenjegmigeieaa

/- Package scope: giving up, and the small steps of Check. -/
namespace Go.Proofs.Ythenjegmigeieaa
open Go.RowKit

abbrev gaveF (a c : Int) : Ending := .panicked [{ v := .iface 60 (.agg #[.int .i64 a, .int .i64 c]), recovered := false }]
abbrev goneOn : Ending := .returned (.tuple #[])
/-- How a check ends: it gives up with what is wrong, or goes on. -/
def finE (x : Int) : Ending := if x = 0 then goneOn else gaveF 0 x
theorem finE_zero : finE 0 = goneOn := rfl
theorem finE_ne {x : Int} (h : ¬ x = 0) : finE x = gaveF 0 x := by unfold finE; rw [if_neg h]

set_option maxRecDepth 100000 in
set_option maxHeartbeats 400000 in
theorem refuseAt_yes (a c : Int) (w : World) : Calls Try.prog 41 #[.int .i64 a, .bool true, .int .i64 c] w fun e w' => e = gaveF a c ∧ Below w.heap.size w w' := by
  go_enter Try.func41, Try.ntmps41
  go_wp2
  exact ⟨rfl, rfl, Below.refl _ _⟩
set_option maxRecDepth 100000 in
set_option maxHeartbeats 400000 in
theorem refuseAt_no (a c : Int) (w : World) : Calls Try.prog 41 #[.int .i64 a, .bool false, .int .i64 c] w fun e w' => e = goneOn ∧ w' = w := by
  go_enter Try.func41, Try.ntmps41
  go_wp2
  exact ⟨rfl, .tuple #[], by simp [results, Try.results41], rfl, rfl⟩
set_option maxRecDepth 100000 in
set_option maxHeartbeats 400000 in
theorem refuse_yes (c : Int) (w : World) : Calls Try.prog 34 #[.bool true, .int .i64 c] w fun e w' => e = gaveF 0 c ∧ Below w.heap.size w w' := by
  go_enter Try.func34, Try.ntmps34
  go_wp2_with fail
  refine (refuseAt_yes _ _ _).mono ?_
  rintro e w1 ⟨rfl, hb⟩
  go_wp2
  exact ⟨rfl, rfl, hb⟩
set_option maxRecDepth 100000 in
set_option maxHeartbeats 400000 in
theorem refuse_no (c : Int) (w : World) : Calls Try.prog 34 #[.bool false, .int .i64 c] w fun e w' => e = goneOn ∧ w' = w := by
  go_enter Try.func34, Try.ntmps34
  go_wp2_with fail
  refine (refuseAt_no _ _ _).mono ?_
  rintro e w1 ⟨rfl, rfl⟩
  go_wp2
  exact ⟨rfl, .tuple #[], by simp [results, Try.results34], rfl, rfl⟩
set_option maxRecDepth 100000 in
set_option maxHeartbeats 400000 in
theorem isNumber_any (n : Int) (w : World) : Calls Try.prog 52 #[.int .i64 n] w fun e w' => e = .returned (.bool (Sc.isNum n)) ∧ w' = w := by
  unfold Sc.isNum Tr.between
  by_cases h : -1000000 ≤ n
  · go_enter Try.func52, Try.ntmps52
    go_wp2
    go_ret
    exact ⟨by simp [h], rfl⟩
  · have hd : decide (-1000000 ≤ n) = false := by simpa using h
    go_enter Try.func52, Try.ntmps52
    go_wp2
    go_ret
    exact ⟨rfl, rfl⟩
set_option maxRecDepth 100000 in
set_option maxHeartbeats 400000 in
theorem isPred_any (ar : List Int) (ao : Option Addr) (cap : Nat) (vn vr : Value) (k : Int) (w : World) : Calls Try.prog 43 #[progVal (.slice ao ar.length cap) vn vr, .int .i64 k] w fun e w' => e = .returned (.bool (Sc.isPred ar k)) ∧ Below w.heap.size w w' := by
  unfold Sc.isPred Tr.between
  by_cases h : 0 ≤ k
  · go_enter Try.func43, Try.ntmps43
    go_wp2
    go_ret
    refine ⟨?_, (Below.refl _ _).alloc (Nat.le_refl _) _⟩
    congr 2
    simp [h]
    omega
  · have hd : decide (0 ≤ k) = false := by simpa using h
    go_enter Try.func43, Try.ntmps43
    go_wp2
    go_ret
    exact ⟨rfl, (Below.refl _ _).alloc (Nat.le_refl _) _⟩

set_option maxRecDepth 100000 in
set_option maxHeartbeats 1000000 in
theorem checkTerms_some (l : List Sc.Term) (vars : Int) (w : World) (n b off cap : Nat) (hn : l.length = n) (hmax : n ≤ 9223372036854775807) (hA : ∀ i, i < n → PTermIn w b (off + i * 2) (Sc.termD l i)) :
    Calls Try.prog 44 #[.slice (some ⟨b, off, none⟩) n cap, .int .i64 vars] w fun e w' => e = finE (Sc.termsErr vars l) ∧ Below w.heap.size w w' := by
  have HN : Hid (l.length = n) := hn
  clear hn
  go_enter Try.func44, Try.ntmps44
  go_wp2_with fail
  go_loopw [8] (fun i wr => ∃ k : Nat, k ≤ n ∧ i = .int .i64 k ∧ Sc.termsErr vars l = Sc.first (Sc.termErr vars) (l.drop k) ∧ Below w.heap.size w wr) (fun i _ => n - (intOf i).toNat)
  case atStart => exact ⟨0, Nat.zero_le _, rfl, rfl, Below.refl _ _⟩
  case round =>
    obtain ⟨k, hk, rfl, hall, hbel⟩ := hrel
    have HA : Hid (Sc.termsErr vars l = Sc.first (Sc.termErr vars) (l.drop k)) := hall
    clear hall
    by_cases hlt : k < n
    · obtain ⟨a0, a1⟩ := hA k hlt
      have hbw : b < w.heap.size := World.block_lt_of_cell? w _ a0
      have a0' := (hbel.cell (p := ⟨b, off + k * 2, none⟩) hbw).trans a0
      have a1' := (hbel.cell (p := ⟨b, off + k * 2 + 1, none⟩) hbw).trans a1
      have HD : Hid (Sc.termsErr vars l = Sc.thn (Sc.termErr vars (Sc.termD l k)) (Sc.first (Sc.termErr vars) (l.drop (k + 1)))) := HA.out.trans (Sc.first_drop _ _ _ k (by rw [HN.out]; exact hlt))
      clear a0 a1 hA HA
      generalize Sc.termD l k = t at *
      by_cases h1 : t.var < -1
      · have HV : Hid (Sc.termsErr vars l = 5) := by
          show _ = _
          rw [HD.out]
          have : ¬ (-1 : Int) ≤ t.var := by omega
          simp [Sc.termErr, Sc.thn, Tr.between, this]
        clear HD
        have g1 : decide (t.var < -1) = true := decide_eq_true h1
        go_wp2_with fail
        refine (refuse_yes 5 _).mono ?_
        rintro e w1 ⟨rfl, hb1⟩
        have hb2 := hbel.trans ((below_box hb1).mono hbel.size)
        go_wp2_with fail
        exact ⟨rfl, by rw [HV.out]; rfl, hb2⟩
      · have g1 : decide (t.var < -1) = false := decide_eq_false h1
        by_cases h2 : vars ≤ t.var
        · have HV : Hid (Sc.termsErr vars l = 5) := by
            show _ = _
            rw [HD.out]
            have : ¬ t.var ≤ vars - 1 := by omega
            simp [Sc.termErr, Sc.thn, Tr.between, this]
          clear HD
          have g2 : decide (vars ≤ t.var) = true := decide_eq_true h2
          go_wp2_with fail
          refine (refuse_yes 5 _).mono ?_
          rintro e w1 ⟨rfl, hb1⟩
          have hb2 := hbel.trans ((below_box hb1).mono hbel.size)
          go_wp2_with fail
          exact ⟨rfl, by rw [HV.out]; rfl, hb2⟩
        · have g2 : decide (vars ≤ t.var) = false := decide_eq_false h2
          have hT : Hid (Sc.termErr vars t = if !Sc.isNum t.n || (decide (0 ≤ t.var) && t.n != 0) then 3 else 0) := by
            show _ = _
            have h3 : (-1 : Int) ≤ t.var := by omega
            have h4 : t.var ≤ vars - 1 := by omega
            simp [Sc.termErr, Tr.between, h3, h4]
          go_wp2_with fail
          refine (refuse_no 5 _).mono ?_
          rintro e w1 ⟨rfl, rfl⟩
          go_wp2_with fail
          refine (isNumber_any t.n _).mono ?_
          rintro e wn ⟨he, rfl⟩
          cases hnum : Sc.isNum t.n
          · rw [hnum] at he
            subst he
            have HV : Hid (Sc.termsErr vars l = 3) := by show _ = _; rw [HD.out, hT.out, hnum]; rfl
            clear HD hT
            go_wp2_with fail
            refine (refuse_yes 3 _).mono ?_
            rintro e w1 ⟨rfl, hb1⟩
            have hb2 := hbel.trans ((below_box hb1).mono hbel.size)
            go_wp2_with fail
            exact ⟨rfl, by rw [HV.out]; rfl, hb2⟩
          · rw [hnum] at he
            subst he
            by_cases h5 : 0 ≤ t.var
            · have g5 : decide (0 ≤ t.var) = true := decide_eq_true h5
              cases g6 : (t.n != 0)
              · have HV : Hid (Sc.termsErr vars l = Sc.first (Sc.termErr vars) (l.drop (k + 1))) := by show _ = _; rw [HD.out, hT.out, hnum, g5, g6]; rfl
                clear HD hT
                go_wp2_with fail
                refine (refuse_no 3 _).mono ?_
                rintro e w1 ⟨rfl, rfl⟩
                go_wp2_with fail
                have hb2 := hbel.alloc hbel.size (.cells #[.int .i64 t.var, .int .i64 t.n] 57)
                go_roundw
                case rel => exact ⟨k + 1, by omega, by go_num, HV.out, hb2⟩
                case measure => simp [intOf]; omega
              · have HV : Hid (Sc.termsErr vars l = 3) := by show _ = _; rw [HD.out, hT.out, hnum, g5, g6]; rfl
                clear HD hT
                go_wp2_with fail
                refine (refuse_yes 3 _).mono ?_
                rintro e w1 ⟨rfl, hb1⟩
                have hb2 := hbel.trans ((below_box hb1).mono hbel.size)
                go_wp2_with fail
                exact ⟨rfl, by rw [HV.out]; rfl, hb2⟩
            · have g5 : decide (0 ≤ t.var) = false := decide_eq_false h5
              have HV : Hid (Sc.termsErr vars l = Sc.first (Sc.termErr vars) (l.drop (k + 1))) := by show _ = _; rw [HD.out, hT.out, hnum, g5]; rfl
              clear HD hT
              go_wp2_with fail
              refine (refuse_no 3 _).mono ?_
              rintro e w1 ⟨rfl, rfl⟩
              go_wp2_with fail
              have hb2 := hbel.alloc hbel.size (.cells #[.int .i64 t.var, .int .i64 t.n] 57)
              go_roundw
              case rel => exact ⟨k + 1, by omega, by go_num, HV.out, hb2⟩
              case measure => simp [intOf]; omega
    · have HV : Hid (Sc.termsErr vars l = 0) := by show _ = _; rw [HA.out, List.drop_of_length_le (by rw [HN.out]; omega)]; rfl
      clear hA
      go_wp2_with fail
      exact ⟨rfl, .tuple #[], by simp [results, Try.results44], by rw [HV.out]; rfl, hbel⟩

set_option maxRecDepth 100000 in
set_option maxHeartbeats 400000 in
theorem checkTerms_none (w : World) (vars : Int) (ao : Option Addr) (cap : Nat) : Calls Try.prog 44 #[.slice ao 0 cap, .int .i64 vars] w fun e w' => e = goneOn ∧ Below w.heap.size w w' := by
  go_enter Try.func44, Try.ntmps44
  go_wp2_with fail
  refine wp_loop_rounds 1 ?_
  rw [rounds_succ]
  go_wp2_with fail
  exact ⟨rfl, .tuple #[], by simp [results, Try.results44], rfl, Below.refl _ _⟩
theorem checkTerms_any (l : List Sc.Term) (vars : Int) (v : Value) (w : World) (hmax : l.length ≤ 9223372036854775807) (hA : PTermsV w v l) :
    Calls Try.prog 44 #[v, .int .i64 vars] w fun e w' => e = finE (Sc.termsErr vars l) ∧ Below w.heap.size w w' := by
  obtain ⟨ao, cap, rfl, _, hA⟩ := hA
  rcases hA with rfl | ⟨b, off, rfl, hA⟩
  · exact checkTerms_none w vars ao cap
  · exact checkTerms_some l vars w l.length b off cap rfl hmax hA

end Go.Proofs.Ythenjegmigeieaa

/- Package scope: a literal but for its terms. -/
namespace Go.Proofs.Ythenjegmigeieaa
open Go.RowKit

theorem nat_of {ar : List Int} {k : Int} (h : Sc.isPred ar k = true) : ∃ n : Nat, k = n ∧ n < ar.length := by
  unfold Sc.isPred Tr.between at h
  simp at h
  exact ⟨k.toNat, by omega, by omega⟩
theorem below_two (w : World) (o1 o2 : Obj) : Below w.heap.size w ((w.alloc o1).alloc o2) := ((Below.refl _ _).alloc (Nat.le_refl _) _).alloc (by simp) _
theorem two_blocks {w w3 : World} {o1 o2 : Obj} (hb : Below ((w.alloc o1).alloc o2).heap.size ((w.alloc o1).alloc o2) w3) : w3.heap[w.heap.size]? = some o1 ∧ w3.heap[w.heap.size + 1]? = some o2 := by
  constructor
  · exact (hb.block _ (by simp; omega)).trans ((((Below.refl _ (w.alloc o1)).alloc (Nat.le_refl _) o2).block _ (by simp)).trans (heap_alloc_new w o1))
  · have := heap_alloc_new (w.alloc o1) o2
    exact (hb.block _ (by simp)).trans (by simpa using this)

set_option maxRecDepth 100000 in
set_option maxHeartbeats 1000000 in
theorem checkLit_pred (ar : List Int) (ao : Option Addr) (cap : Nat) (vn vr : Value) (kind op pred : Int) (ts : List Sc.Term) (at_ : Option Addr) (ct : Nat) (w : World) (hA : IntsAt w ao ar) (hk : kind = 1 ∨ kind = 2) :
    Calls Try.prog 45 #[progVal (.slice ao ar.length cap) vn vr, plitVal ⟨kind, op, pred, ts⟩ (.slice at_ ts.length ct)] w fun e w' => e = finE (Sc.litErr ar ⟨kind, op, pred, ts⟩) ∧ Below w.heap.size w w' := by
  have hb0 : Below w.heap.size w ((w.alloc (.cells #[.slice ao ar.length cap, vn, vr] 26)).alloc (.cells #[.int .i64 kind, .int .i64 op, .int .i64 pred, .slice at_ ts.length ct] 52)) := below_two w _ _
  have HL : Hid (Sc.litErr ar ⟨kind, op, pred, ts⟩ = if op ≠ 0 then 3 else if Sc.isPred ar pred then (if (ts.length : Int) ≠ Sc.intD ar pred.toNat then 1 else 0) else 5) := by
    show _ = _
    simp only [Sc.litErr]
    rw [if_pos hk]
  have hkk : kind = 1 ∨ (kind == 1) = false ∧ kind = 2 := by rcases hk with h | h <;> simp [h]
  clear hk
  cases g1 : (op != 0)
  · have h0 : op = 0 := by simpa using g1
    cases g2 : Sc.isPred ar pred
    · have HV : Hid (Sc.litErr ar ⟨kind, op, pred, ts⟩ = 5) := by show _ = _; rw [HL.out, h0, g2]; rfl
      clear HL hA h0
      rcases hkk with rfl | ⟨gk, rfl⟩
      all_goals
        go_enter Try.func45, Try.ntmps45
        go_wp2_with fail
        refine (refuse_no 3 _).mono ?_
        rintro e w1 ⟨rfl, rfl⟩
        go_wp2_with fail
        refine (isPred_any ar ao cap vn vr pred _).mono ?_
        rintro e w2 ⟨he, hb2⟩
        rw [g2] at he
        subst he
        go_wp2_with fail
        refine (refuse_yes 5 _).mono ?_
        rintro e w3 ⟨rfl, hb3⟩
        go_wp2_with fail
        have hb23 := hb2.trans (hb3.mono hb2.size)
        exact ⟨rfl, by rw [HV.out]; rfl, hb0.trans (hb23.mono hb0.size)⟩
    · obtain ⟨n, rfl, hn⟩ := nat_of g2
      obtain ⟨b, off, rfl, hc⟩ := ints_at hA n hn
      have hbw : b < w.heap.size := World.block_lt_of_cell? w _ hc
      have hcc : ∀ y, Below w.heap.size w y → y.cell? ⟨b, off + n, none⟩ = some (.int .i64 (Sc.intD ar n)) := fun y hy => cell_below hy hc
      have HC : Hid _ := hcc
      clear hcc hc hA
      cases g3 : ((ts.length : Int) != Sc.intD ar n)
      · have HV : Hid (Sc.litErr ar ⟨kind, op, n, ts⟩ = 0) := by
          show _ = _
          rw [HL.out, h0, g2]
          have : (ts.length : Int) = Sc.intD ar n := by simpa using g3
          simp [this]
        clear HL h0
        rcases hkk with rfl | ⟨gk, rfl⟩
        all_goals
          go_enter Try.func45, Try.ntmps45
          go_wp2_with fail
          refine (refuse_no 3 _).mono ?_
          rintro e w1 ⟨rfl, rfl⟩
          go_wp2_with fail
          refine (isPred_any ar _ cap vn vr n _).mono ?_
          rintro e w2 ⟨he, hb2⟩
          rw [g2] at he
          subst he
          go_wp2_with fail
          refine (refuse_no 5 _).mono ?_
          rintro e w3 ⟨rfl, rfl⟩
          have hb02 := hb0.trans (hb2.mono hb0.size)
          have hq := HC.out _ hb02
          obtain ⟨x1, x2⟩ := two_blocks hb2
          have c0 : w3.cell? ⟨w.heap.size, 0, none⟩ = some (.slice (some ⟨b, off, none⟩) ar.length cap) := by rw [Lib.cell_of_heap x1]; rfl
          have c1 : w3.cell? ⟨w.heap.size + 1, 2, none⟩ = some (.int .i64 n) := by rw [Lib.cell_of_heap x2]; rfl
          have c2 : w3.cell? ⟨w.heap.size + 1, 3, none⟩ = some (.slice at_ ts.length ct) := by rw [Lib.cell_of_heap x2]; rfl
          clear x1 x2 hb2 hb0 HC
          go_upto_region 7 with fail
          go_region_held3 (fun y => y.cell? ⟨w.heap.size, 0, none⟩ = some (.slice (some ⟨b, off, none⟩) ar.length cap) ∧ y.cell? ⟨w.heap.size + 1, 2, none⟩ = some (.int .i64 n) ∧ y.cell? ⟨w.heap.size + 1, 3, none⟩ = some (.slice at_ ts.length ct) ∧ y.cell? ⟨b, off + n, none⟩ = some (.int .i64 (Sc.intD ar n))) (go_keep) ((go_at_call 34; refine Calls.mono (refuse_no 1 _) ?_; rintro e y ⟨rfl, rfl⟩))
          all_goals go_wp2_with fail
          all_goals exact ⟨rfl, .tuple #[], by simp [results, Try.results45], by rw [HV.out]; rfl, below_drewN hb02 _⟩
      · have HV : Hid (Sc.litErr ar ⟨kind, op, n, ts⟩ = 1) := by
          show _ = _
          rw [HL.out, h0, g2]
          have : ¬ (ts.length : Int) = Sc.intD ar n := by simpa using g3
          simp [this]
        clear HL h0
        rcases hkk with rfl | ⟨gk, rfl⟩
        all_goals
          go_enter Try.func45, Try.ntmps45
          go_wp2_with fail
          refine (refuse_no 3 _).mono ?_
          rintro e w1 ⟨rfl, rfl⟩
          go_wp2_with fail
          refine (isPred_any ar _ cap vn vr n _).mono ?_
          rintro e w2 ⟨he, hb2⟩
          rw [g2] at he
          subst he
          go_wp2_with fail
          refine (refuse_no 5 _).mono ?_
          rintro e w3 ⟨rfl, rfl⟩
          have hb02 := hb0.trans (hb2.mono hb0.size)
          have hq := HC.out _ hb02
          obtain ⟨x1, x2⟩ := two_blocks hb2
          have c0 : w3.cell? ⟨w.heap.size, 0, none⟩ = some (.slice (some ⟨b, off, none⟩) ar.length cap) := by rw [Lib.cell_of_heap x1]; rfl
          have c1 : w3.cell? ⟨w.heap.size + 1, 2, none⟩ = some (.int .i64 n) := by rw [Lib.cell_of_heap x2]; rfl
          have c2 : w3.cell? ⟨w.heap.size + 1, 3, none⟩ = some (.slice at_ ts.length ct) := by rw [Lib.cell_of_heap x2]; rfl
          clear x1 x2 hb2 hb0 HC
          go_upto_region 7 with fail
          refine wp_region_held_drew (S := (fun y => y.cell? ⟨w.heap.size, 0, none⟩ = some (.slice (some ⟨b, off, none⟩) ar.length cap) ∧ y.cell? ⟨w.heap.size + 1, 2, none⟩ = some (.int .i64 n) ∧ y.cell? ⟨w.heap.size + 1, 3, none⟩ = some (.slice at_ ts.length ct) ∧ y.cell? ⟨b, off + n, none⟩ = some (.int .i64 (Sc.intD ar n)))) (by kernel_rfl) (by go_keep) (fun hHeld => ?_)
          refine wpAnyH_take (i := 0) (v := ?v0x0) rfl (by kernel_rfl) (by kernel_rfl) (by kernel_rfl) (fun _ _ _ h => h) (Or.inl ⟨by rfl, ?hy0x0⟩) (by assumption) ?_
          case hy0x0 =>
            intro w hSw
            (try dsimp only at hSw)
            go_simp
            try with_reducible rfl
          try simp only [Act.put, List.setIfInBounds_toArray]
          refine wpAnyH_take (i := 1) (v := ?v1x1) rfl (by kernel_rfl) (by kernel_rfl) (by kernel_rfl) (fun _ _ _ h => h) (Or.inl ⟨by rfl, ?hy1x1⟩) (by assumption) ?_
          case hy1x1 =>
            intro w hSw
            (try dsimp only at hSw)
            go_simp
            try with_reducible rfl
          try simp only [Act.put]
          refine wpAnyH_take (i := 2) (v := ?v2x2) rfl (by kernel_rfl) (by kernel_rfl) (by kernel_rfl) (fun _ _ _ h => h) (Or.inl ⟨by rfl, ?hy2x2⟩) (by assumption) ?_
          case hy2x2 =>
            intro w hSw
            (try dsimp only at hSw)
            go_simp
            try with_reducible rfl
          try simp only [Act.put]
          refine wpAnyH_take (i := 3) (v := ?v3x3) rfl (by kernel_rfl) (by kernel_rfl) (by kernel_rfl) (fun _ _ _ h => h) (Or.inl ⟨by rfl, ?hy3x3⟩) (by assumption) ?_
          case hy3x3 =>
            intro w hSw
            (try dsimp only at hSw)
            go_simp
            try with_reducible rfl
          try simp only [Act.put]
          refine wpAnyH_take (i := 4) (v := ?v4x4) rfl (by kernel_rfl) (by kernel_rfl) (by kernel_rfl) (fun _ _ _ h => h) (Or.inl ⟨by rfl, ?hy4x4⟩) (by assumption) ?_
          case hy4x4 =>
            intro w hSw
            (try dsimp only at hSw)
            go_simp
            try with_reducible rfl
          try simp only [Act.put]
          refine wpAnyH_take (i := 5) (v := ?v5x5) rfl (by kernel_rfl) (by kernel_rfl) (by kernel_rfl) (fun _ _ _ h => h) (Or.inl ⟨by rfl, ?hy5x5⟩) (by assumption) ?_
          case hy5x5 =>
            intro w hSw
            (try dsimp only at hSw)
            go_simp
            try with_reducible rfl
          try simp only [Act.put]
          refine wpAnyH_take (i := 6) (v := ?v6x6) rfl (by kernel_rfl) (by kernel_rfl) (by kernel_rfl) (fun _ _ _ h => h) (Or.inl ⟨by rfl, ?hy6x6⟩) (by assumption) ?_
          case hy6x6 =>
            intro w hSw
            (try dsimp only at hSw)
            go_simp
            try with_reducible rfl
          try simp only [Act.put]
          refine wpAnyH_take (i := 7) (v := ?v7x7) rfl (by kernel_rfl) (by kernel_rfl) (by kernel_rfl) (fun _ _ _ h => h) (Or.inl ⟨by rfl, ?hy7x7⟩) (by assumption) ?_
          case hy7x7 =>
            intro w hSw
            (try dsimp only at hSw)
            go_simp
            try with_reducible rfl
          try simp only [Act.put]
          refine wpAnyH_take (i := 8) (v := ?v8x8) rfl (by kernel_rfl) (by kernel_rfl) (by kernel_rfl) (fun _ _ _ h => h) (Or.inl ⟨by rfl, ?hy8x8⟩) (by assumption) ?_
          case hy8x8 =>
            intro w hSw
            (try dsimp only at hSw)
            go_simp
            try with_reducible rfl
          try simp only [Act.put]
          refine wpAnyH_take (i := 9) (v := ?v9x9) rfl (by kernel_rfl) (by kernel_rfl) (by kernel_rfl) (fun _ _ _ h => h) (Or.inl ⟨by rfl, ?hy9x9⟩) (by assumption) ?_
          case hy9x9 =>
            intro w hSw
            (try dsimp only at hSw)
            go_simp
            try with_reducible rfl
          try simp only [Act.put]
          refine wpAnyH_ready (rs := [10]) (by kernel_rfl) (by simp) ?_
          refine AllReadyH.cons rfl (fun K hK => ?_) AllReadyH.nil
          go_simp
          go_at_call 34
          refine Calls.mono (refuse_yes 1 _) ?_
          rintro e y2 ⟨rfl, hb4⟩
          exact ⟨rfl, by rw [HV.out]; rfl, hb02.drew.trans (hb4.mono hb02.size)⟩
  · have HV : Hid (Sc.litErr ar ⟨kind, op, pred, ts⟩ = 3) := by show _ = _; rw [HL.out, if_pos (by simpa using g1)]
    clear HL hA
    rcases hkk with rfl | ⟨gk, rfl⟩
    all_goals
      go_enter Try.func45, Try.ntmps45
      go_wp2_with fail
      refine (refuse_yes 3 _).mono ?_
      rintro e w1 ⟨rfl, hb1⟩
      go_wp2_with fail
      exact ⟨rfl, by rw [HV.out]; rfl, hb0.trans (hb1.mono hb0.size)⟩

end Go.Proofs.Ythenjegmigeieaa

/- Package relation: Order; what of the library it calls. -/
namespace Go.Proofs.Ythenjegmigeieaa
open Go.RowKit

theorem cmpL_drop (x y : List Int) (k : Nat) (hx : k < x.length) (hy : k < y.length) : Rl.cmpL (x.drop k) (y.drop k) = if Rl.cmpI (Sc.intD x k) (Sc.intD y k) = 0 then Rl.cmpL (x.drop (k + 1)) (y.drop (k + 1)) else Rl.cmpI (Sc.intD x k) (Sc.intD y k) := by
  have h1 : x.drop k = Sc.intD x k :: x.drop (k + 1) := by rw [List.drop_eq_getElem_cons hx]; simp [Sc.intD, List.getD_eq_getElem?_getD, hx]
  have h2 : y.drop k = Sc.intD y k :: y.drop (k + 1) := by rw [List.drop_eq_getElem_cons hy]; simp [Sc.intD, List.getD_eq_getElem?_getD, hy]
  rw [h1, h2, Rl.cmpL]
theorem cmpL_left (x y : List Int) (k : Nat) (hx : k < x.length) (hy : y.length ≤ k) : Rl.cmpL (x.drop k) (y.drop k) = 1 := by
  rw [List.drop_of_length_le hy, List.drop_eq_getElem_cons hx]
  rfl
theorem cmpL_right (x y : List Int) (k : Nat) (hx : x.length ≤ k) (hy : k < y.length) : Rl.cmpL (x.drop k) (y.drop k) = -1 := by
  rw [List.drop_of_length_le hx, List.drop_eq_getElem_cons hy]
  rfl

/-- A fact's value. -/
abbrev fcVal (p : Int) (v : Value) : Value := .agg #[.int .i64 p, v]

def Rl.orI (x y : Int) : Int := if x = 0 then y else x
end Go.Proofs.Ythenjegmigeieaa

/- The contract of the library sort of facts, laid at this program. -/
namespace Go.Proofs
open Go.Shelf
end Go.Proofs

/- What the parser answers, plain: tokens in, a tree or a place out. -/
namespace Go.Proofs.Ythenjegmigeieaa
namespace Pr

/-- The next token; behind the last one, one of no kind at the text's end. -/
def hd (en : Int) (r : List Tk.Tok) : Tk.Tok := match r with | [] => ⟨0, en, []⟩ | t :: _ => t
/-- The number of digits. -/
def num (s : List UInt8) : Int := (Lib.atoi s).getD 0
def must (t : List UInt8) (en : Int) (r : List Tk.Tok) : Int ⊕ List Tk.Tok := if (hd en r).text == t then .inr r.tail else .inl (hd en r).at_
def name (en : Int) (r : List Tk.Tok) : Int ⊕ (List UInt8 × List Tk.Tok) :=
  if ((hd en r).kind == 1) && !Tr.isWord (hd en r).text then .inr ((hd en r).text, r.tail) else .inl (hd en r).at_
def number (en : Int) (r : List Tk.Tok) : Int ⊕ (Int × List Tk.Tok) := if (hd en r).kind == 3 then .inr (num (hd en r).text, r.tail) else .inl (hd en r).at_
/-- What stands behind a '-'. -/
def neg (en : Int) (r : List Tk.Tok) : Int ⊕ (Tr.Term × List Tk.Tok) :=
  if (hd en r).text == [48] then .inl (hd en r).at_ else match number en r with
    | .inl a => .inl a
    | .inr x => .inr (⟨[], -x.1⟩, x.2)
def term (en : Int) (r : List Tk.Tok) : Int ⊕ (Tr.Term × List Tk.Tok) :=
  if (hd en r).kind == 2 then .inr (⟨(hd en r).text, 0⟩, r.tail)
  else if (hd en r).kind == 3 then .inr (⟨[], num (hd en r).text⟩, r.tail)
  else match must [45] en r with
    | .inl a => .inl a
    | .inr r1 => neg en r1
/-- A fold, if the next token is one. -/
def foldAt (en : Int) (r : List Tk.Tok) : Int × List Tk.Tok := if Tr.foldOf (hd en r).text != 0 then (Tr.foldOf (hd en r).text, r.tail) else (0, r)
def foldMay (may : Bool) (en : Int) (r : List Tk.Tok) : Int × List Tk.Tok := if may then foldAt en r else (0, r)
def isText (en : Int) (r : List Tk.Tok) (t : List UInt8) : Bool := (hd en r).text == t
/-- Terms from here on, a comma between, behind those that came. -/
def more (may : Bool) (en : Int) : Nat → List Tr.Term → List Tk.Tok → Int ⊕ ((List Tr.Term × Int) × List Tk.Tok)
  | 0, _, _ => .inl 0
  | f + 1, acc, r => match term en (foldMay may en r).2 with
    | .inl a => .inl a
    | .inr x => if ((foldMay may en r).1 == 0) && isText en x.2 [44] then more may en f (acc ++ [x.1]) x.2.tail else .inr ((acc ++ [x.1], (foldMay may en r).1), x.2)
/-- What stands behind the bracket. -/
def inside (may : Bool) (en : Int) (r : List Tk.Tok) : Int ⊕ ((List Tr.Term × Int) × List Tk.Tok) :=
  if isText en r [41] then .inr (([], 0), r.tail) else match more may en (r.length + 1) [] r with
    | .inl a => .inl a
    | .inr x => match must [41] en x.2 with
      | .inl a => .inl a
      | .inr r3 => .inr (x.1, r3)
def terms (may : Bool) (en : Int) (r : List Tk.Tok) : Int ⊕ ((List Tr.Term × Int) × List Tk.Tok) := match must [40] en r with
  | .inl a => .inl a
  | .inr r1 => inside may en r1
def opOf (s : List UInt8) : Int :=
  if s == [60] then 1 else if s == [60, 61] then 2 else if s == [61] then 3 else if s == [33, 61] then 4 else if s == [43] then 5 else if s == [45] then 6 else if s == [42] then 7 else 0
def op (en : Int) (r : List Tk.Tok) : Int ⊕ (Int × List Tk.Tok) := if opOf (hd en r).text != 0 then .inr (opOf (hd en r).text, r.tail) else .inl (hd en r).at_
/-- A name and terms. -/
def atom (kind at_ : Int) (en : Int) (r : List Tk.Tok) : Int ⊕ (Tr.Lit × List Tk.Tok) := match name en r with
  | .inl a => .inl a
  | .inr x => match terms false en x.2 with
    | .inl a => .inl a
    | .inr y => .inr (⟨kind, at_, 0, x.1, y.1.1⟩, y.2)
def calcLit (at_ o : Int) (a b : Tr.Term) (en : Int) (r : List Tk.Tok) : Int ⊕ (Tr.Lit × List Tk.Tok) := match must [61] en r with
  | .inl p => .inl p
  | .inr r1 => match term en r1 with
    | .inl p => .inl p
    | .inr z => .inr (⟨4, at_, o, [], [a, b, z.1]⟩, z.2)
def reckon (at_ : Int) (en : Int) (r : List Tk.Tok) : Int ⊕ (Tr.Lit × List Tk.Tok) := match term en r with
  | .inl p => .inl p
  | .inr a => match op en a.2 with
    | .inl p => .inl p
    | .inr o => match term en o.2 with
      | .inl p => .inl p
      | .inr b => if Tr.between o.1 5 7 then calcLit at_ o.1 a.1 b.1 en b.2 else .inr (⟨3, at_, o.1, [], [a.1, b.1]⟩, b.2)
def lit (en : Int) (r : List Tk.Tok) : Int ⊕ (Tr.Lit × List Tk.Tok) :=
  if isText en r [110, 111, 116] then atom 2 (hd en r).at_ en r.tail
  else if (hd en r).kind == 1 then atom 1 (hd en r).at_ en r
  else reckon (hd en r).at_ en r
def lits (en : Int) : Nat → List Tr.Lit → List Tk.Tok → Int ⊕ (List Tr.Lit × List Tk.Tok)
  | 0, _, _ => .inl 0
  | f + 1, acc, r => match lit en r with
    | .inl a => .inl a
    | .inr x => if isText en x.2 [44] then lits en f (acc ++ [x.1]) x.2.tail else .inr (acc ++ [x.1], x.2)
/-- What stands behind a head that is no fact. -/
def tailOf (at_ : Int) (nm : List UInt8) (l : List Tr.Term) (fo : Int) (en : Int) (r : List Tk.Tok) : Int ⊕ (Tr.Rule × List Tk.Tok) := match must [58, 45] en r with
  | .inl p => .inl p
  | .inr r1 => match lits en (r1.length + 1) [] r1 with
    | .inl p => .inl p
    | .inr b => match must [46] en b.2 with
      | .inl p => .inl p
      | .inr r2 => .inr (⟨at_, nm, l, fo, b.1⟩, r2)
def rule (en : Int) (r : List Tk.Tok) : Int ⊕ (Tr.Rule × List Tk.Tok) := match name en r with
  | .inl p => .inl p
  | .inr x => match terms true en x.2 with
    | .inl p => .inl p
    | .inr y => if (y.1.2 == 0) && isText en y.2 [46] then .inr (⟨(hd en r).at_, x.1, y.1.1, y.1.2, []⟩, y.2.tail) else tailOf (hd en r).at_ x.1 y.1.1 y.1.2 en y.2
def rules (en : Int) : Nat → List Tr.Rule → List Tk.Tok → Int ⊕ List Tr.Rule
  | 0, acc, _ => .inr acc
  | f + 1, acc, r => match r with
    | [] => .inr acc
    | _ :: _ => match rule en r with
      | .inl a => .inl a
      | .inr x => rules en f (acc ++ [x.1]) x.2
/-- What Parse answers: a tree, where it is wrong, and why. -/
def parse (L : List UInt8) : List Tr.Rule × Int × Int :=
  if (Tk.scan L).2.2 = 0 then match rules L.length ((Tk.scan L).1.length) [] (Tk.scan L).1 with
    | .inl a => ([], a, 1)
    | .inr t => if Tr.check t = 0 then (t, 0, 0) else ([], 0, Tr.check t)
  else ([], (Tk.scan L).2.1, (Tk.scan L).2.2)
end Pr
end Go.Proofs.Ythenjegmigeieaa

/- Package tree: terms that are right. -/
namespace Go.Proofs.Ythenjegmigeieaa
open Go.RowKit

set_option maxRecDepth 100000 in
set_option maxHeartbeats 400000 in
theorem termIsRight_any (t : Tr.Term) (w : World) : Calls Try.prog 63 #[termVal t] w fun e w' => e = .returned (.bool (Tr.termOk t)) ∧ Below w.heap.size w w' := by
  unfold Tr.termOk
  cases h1 : t.var.isEmpty
  · cases h2 : (t.n == 0)
    · go_enter Try.func63, Try.ntmps63
      go_wp2
      go_ret
      exact ⟨rfl, (Below.refl _ _).alloc (Nat.le_refl _) _⟩
    · go_enter Try.func63, Try.ntmps63
      go_wp2_with fail
      refine (isToken_any t.var 2 _).mono ?_
      rintro e w1 ⟨rfl, hb⟩
      go_wp2
      go_ret
      exact ⟨rfl, below_box hb⟩
  · unfold Tr.between
    by_cases h : -9999999 ≤ t.n
    · go_enter Try.func63, Try.ntmps63
      go_wp2
      go_ret
      exact ⟨by simp, (Below.refl _ _).alloc (Nat.le_refl _) _⟩
    · have hd : decide (-9999999 ≤ t.n) = false := by simpa using h
      go_enter Try.func63, Try.ntmps63
      go_wp2
      go_ret
      exact ⟨rfl, (Below.refl _ _).alloc (Nat.le_refl _) _⟩

set_option maxRecDepth 100000 in
set_option maxHeartbeats 400000 in
theorem termsAreRight_none (w : World) (ao : Option Addr) (cap : Nat) : Calls Try.prog 57 #[.slice ao 0 cap] w fun e w' => e = .returned (.bool true) ∧ Below w.heap.size w w' := by
  go_enter Try.func57, Try.ntmps57
  go_wp2_with fail
  refine wp_loop_rounds 1 ?_
  rw [rounds_succ]
  go_wp2_with fail
  go_ret
  exact ⟨rfl, Below.refl _ _⟩

set_option maxRecDepth 100000 in
set_option maxHeartbeats 400000 in
theorem termsAreRight_some (l : List Tr.Term) (w : World) (n b off cap : Nat) (hn : l.length = n) (hmax : n ≤ 140737488355328) (hA : ∀ i, i < n → TermIn w b (off + i * 2) (Tr.termD l i)) :
    Calls Try.prog 57 #[.slice (some ⟨b, off, none⟩) n cap] w fun e w' => e = .returned (.bool (Tr.termsOk l)) ∧ Below w.heap.size w w' := by
  have HN : Hid (l.length = n) := hn
  clear hn
  go_enter Try.func57, Try.ntmps57
  go_wp2_with fail
  go_loopw [7] (fun i wr => ∃ k : Nat, k ≤ n ∧ i = .int .i64 k ∧ Tr.termsOk l = (l.drop k).all Tr.termOk ∧ Below w.heap.size w wr) (fun i _ => n - (intOf i).toNat)
  case atStart => exact ⟨0, Nat.zero_le _, rfl, rfl, Below.refl _ _⟩
  case round =>
    obtain ⟨k, hk, rfl, hall, hbel⟩ := hrel
    have HA : Hid (Tr.termsOk l = (l.drop k).all Tr.termOk) := hall
    clear hall
    by_cases hlt : k < n
    · obtain ⟨a0, a1⟩ := hA k hlt
      have hbw : b < w.heap.size := World.block_lt_of_cell? w _ a0
      have a0' := (hbel.cell (p := ⟨b, off + k * 2, none⟩) hbw).trans a0
      have a1' := (hbel.cell (p := ⟨b, off + k * 2 + 1, none⟩) hbw).trans a1
      have HD : Hid (Tr.termsOk l = (Tr.termOk (Tr.termD l k) && (l.drop (k + 1)).all Tr.termOk)) := HA.out.trans (all_drop _ _ _ k (by rw [HN.out]; exact hlt))
      clear a0 a1 hA HA
      generalize Tr.termD l k = t at *
      cases hT : Tr.termOk t
      · have HV : Hid (Tr.termsOk l = false) := by show _ = _; rw [HD.out, hT]; rfl
        go_wp2_with fail
        refine (termIsRight_any t _).mono ?_
        rintro e w1 ⟨he, hb1⟩
        rw [hT] at he
        subst he
        have hb2 := hbel.trans ((below_box hb1).mono hbel.size)
        go_wp2_with fail
        go_ret
        exact ⟨ret_bool HV.out.symm, hb2⟩
      · have HV : Hid (Tr.termsOk l = (l.drop (k + 1)).all Tr.termOk) := by show _ = _; rw [HD.out, hT]; rfl
        go_wp2_with fail
        refine (termIsRight_any t _).mono ?_
        rintro e w1 ⟨he, hb1⟩
        rw [hT] at he
        subst he
        have hb2 := hbel.trans ((below_box hb1).mono hbel.size)
        clear hb1 hT HD
        go_wp2_with fail
        go_roundw
        case rel => exact ⟨k + 1, by omega, by go_num, HV.out, hb2⟩
        case measure => simp [intOf]; omega
    · have HV : Hid (Tr.termsOk l = true) := by show _ = _; rw [HA.out, List.drop_of_length_le (by rw [HN.out]; omega)]; rfl
      clear hA
      go_wp2_with fail
      go_ret
      exact ⟨ret_bool HV.out.symm, hbel⟩

theorem termsAreRight_any (l : List Tr.Term) (v : Value) (w : World) (hmax : l.length ≤ 140737488355328) (hA : TermsV w v l) :
    Calls Try.prog 57 #[v] w fun e w' => e = .returned (.bool (Tr.termsOk l)) ∧ Below w.heap.size w w' := by
  obtain ⟨ao, cap, rfl, hA⟩ := hA
  rcases hA with rfl | ⟨b, off, rfl, hA⟩
  · exact termsAreRight_none w ao cap
  · exact termsAreRight_some l w l.length b off cap rfl hmax hA

end Go.Proofs.Ythenjegmigeieaa

/- Package tree: literals and rules that are right. -/
namespace Go.Proofs.Ythenjegmigeieaa
open Go.RowKit

abbrev litObj (x : Tr.Lit) (v : Value) : Obj := .cells #[.int .i64 x.kind, .int .i64 x.at_, .int .i64 x.op, .string ⟨x.name.toArray⟩, v] 100
abbrev ruleObj (r : Tr.Rule) (v u : Value) : Obj := .cells #[.int .i64 r.at_, .string ⟨r.name.toArray⟩, v, .int .i64 r.fold, u] 85

theorem litBox {w w1 : World} {x : Tr.Lit} {v : Value} (hb : Below (w.alloc (litObj x v)).heap.size (w.alloc (litObj x v)) w1) :
    w1.cell? ⟨w.heap.size, 0, none⟩ = some (.int .i64 x.kind) ∧ w1.cell? ⟨w.heap.size, 1, none⟩ = some (.int .i64 x.at_) ∧ w1.cell? ⟨w.heap.size, 2, none⟩ = some (.int .i64 x.op) ∧
    w1.cell? ⟨w.heap.size, 3, none⟩ = some (.string ⟨x.name.toArray⟩) ∧ w1.cell? ⟨w.heap.size, 4, none⟩ = some v := by
  obtain ⟨hc, hf⟩ := bcell hb
  have h : w.heap.size < (w.alloc (litObj x v)).heap.size := by simp
  refine ⟨?_, ?_, ?_, ?_, ?_⟩
  · rw [hc _ _ h]; simp [go_sem]
  · rw [hc _ _ h]; simp [go_sem]
  · rw [hc _ _ h]; simp [go_sem]
  · rw [hc _ _ h]; simp [go_sem]
  · rw [hc _ _ h]; simp [go_sem]
theorem ruleBox {w w1 : World} {r : Tr.Rule} {v u : Value} (hb : Below (w.alloc (ruleObj r v u)).heap.size (w.alloc (ruleObj r v u)) w1) :
    w1.cell? ⟨w.heap.size, 0, none⟩ = some (.int .i64 r.at_) ∧ w1.cell? ⟨w.heap.size, 1, none⟩ = some (.string ⟨r.name.toArray⟩) ∧ w1.cell? ⟨w.heap.size, 2, none⟩ = some v ∧
    w1.cell? ⟨w.heap.size, 3, none⟩ = some (.int .i64 r.fold) ∧ w1.cell? ⟨w.heap.size, 4, none⟩ = some u := by
  obtain ⟨hc, hf⟩ := bcell hb
  have h : w.heap.size < (w.alloc (ruleObj r v u)).heap.size := by simp
  refine ⟨?_, ?_, ?_, ?_, ?_⟩
  · rw [hc _ _ h]; simp [go_sem]
  · rw [hc _ _ h]; simp [go_sem]
  · rw [hc _ _ h]; simp [go_sem]
  · rw [hc _ _ h]; simp [go_sem]
  · rw [hc _ _ h]; simp [go_sem]
theorem below_alloc (w : World) (o : Obj) : Below w.heap.size w (w.alloc o) := (Below.refl _ _).alloc (Nat.le_refl _) _

set_option maxRecDepth 100000 in
set_option maxHeartbeats 1000000 in
theorem litIsRight_any (x : Tr.Lit) (v : Value) (w : World) (hmax : x.terms.length ≤ 140737488355328) (hA : TermsV w v x.terms) :
    Calls Try.prog 59 #[litVal x v] w fun e w' => e = .returned (.bool (Tr.litOk x)) ∧ Below w.heap.size w w' := by
  have HC : Hid (_) := termsAreRight_any x.terms v (w.alloc (litObj x v)) hmax (termsV_below hA (below_alloc _ _))
  obtain ⟨ao, cap, rfl, _⟩ := hA
  have HV : Hid (Tr.litOk x = (Tr.termsOk x.terms && (if x.kind = 1 ∨ x.kind = 2 then (x.op == 0) && Tr.isName x.name
    else if x.kind = 3 then Tr.between x.op 1 4 && x.name.isEmpty && ((x.terms.length : Int) == 2)
    else if x.kind = 4 then Tr.between x.op 5 7 && x.name.isEmpty && ((x.terms.length : Int) == 3) else false))) := rfl
  generalize Tr.litOk x = V at *
  cases hT : Tr.termsOk x.terms
  · have HF : Hid (V = false) := by show _ = _; rw [HV.out, hT]; rfl
    clear HV
    go_enter Try.func59, Try.ntmps59
    go_wp2_with fail
    refine Calls.mono HC.out ?_
    rintro e w1 ⟨he, hb⟩
    rw [hT] at he
    subst he
    go_wp2_with fail
    go_ret
    exact ⟨ret_bool HF.out.symm, below_box hb⟩
  · rw [hT, Bool.true_and] at HV
    by_cases k12 : x.kind = 1 ∨ x.kind = 2
    · rw [if_pos k12] at HV
      cases g0 : (x.op == 0)
      · have HF : Hid (V = false) := by show _ = _; rw [HV.out, g0]; rfl
        clear HV
        rcases k12 with k1 | k2
        · have t1 : (x.kind == 1) = true := beq_iff_eq.2 k1
          clear k1
          go_enter Try.func59, Try.ntmps59
          go_wp2_with fail
          refine Calls.mono HC.out ?_
          rintro e w1 ⟨he, hb⟩
          rw [hT] at he
          subst he
          obtain ⟨c0, c1, c2, c3, c4⟩ := litBox hb
          go_wp2_with fail
          go_ret
          exact ⟨ret_bool HF.out.symm, below_box hb⟩
        · have t1 : (x.kind == 1) = false := beq_eq_false_iff_ne.2 (by omega)
          have t2 : (x.kind == 2) = true := beq_iff_eq.2 k2
          clear k2
          go_enter Try.func59, Try.ntmps59
          go_wp2_with fail
          refine Calls.mono HC.out ?_
          rintro e w1 ⟨he, hb⟩
          rw [hT] at he
          subst he
          obtain ⟨c0, c1, c2, c3, c4⟩ := litBox hb
          go_wp2_with fail
          go_ret
          exact ⟨ret_bool HF.out.symm, below_box hb⟩
      · have HF : Hid (V = Tr.isName x.name) := by show _ = _; rw [HV.out, g0]; rfl
        clear HV
        rcases k12 with k1 | k2
        · have t1 : (x.kind == 1) = true := beq_iff_eq.2 k1
          clear k1
          go_enter Try.func59, Try.ntmps59
          go_wp2_with fail
          refine Calls.mono HC.out ?_
          rintro e w1 ⟨he, hb⟩
          rw [hT] at he
          subst he
          obtain ⟨c0, c1, c2, c3, c4⟩ := litBox hb
          go_wp2_with fail
          refine (isName_any x.name _).mono ?_
          rintro e w2 ⟨rfl, hb2⟩
          go_wp2_with fail
          go_ret
          exact ⟨ret_bool HF.out.symm, (below_box hb).trans (hb2.mono (below_box hb).size)⟩
        · have t1 : (x.kind == 1) = false := beq_eq_false_iff_ne.2 (by omega)
          have t2 : (x.kind == 2) = true := beq_iff_eq.2 k2
          clear k2
          go_enter Try.func59, Try.ntmps59
          go_wp2_with fail
          refine Calls.mono HC.out ?_
          rintro e w1 ⟨he, hb⟩
          rw [hT] at he
          subst he
          obtain ⟨c0, c1, c2, c3, c4⟩ := litBox hb
          go_wp2_with fail
          refine (isName_any x.name _).mono ?_
          rintro e w2 ⟨rfl, hb2⟩
          go_wp2_with fail
          go_ret
          exact ⟨ret_bool HF.out.symm, (below_box hb).trans (hb2.mono (below_box hb).size)⟩
    · rw [if_neg k12] at HV
      have t1 : (x.kind == 1) = false := beq_eq_false_iff_ne.2 (fun h => k12 (.inl h))
      have t2 : (x.kind == 2) = false := beq_eq_false_iff_ne.2 (fun h => k12 (.inr h))
      clear k12
      by_cases k3 : x.kind = 3
      · rw [if_pos k3] at HV
        have t3 : (x.kind == 3) = true := beq_iff_eq.2 k3
        clear k3
        cases g0 : Tr.between x.op 1 4
        · have HF : Hid (V = false) := by show _ = _; rw [HV.out, g0]; rfl
          clear HV
          go_enter Try.func59, Try.ntmps59
          go_wp2_with fail
          refine Calls.mono HC.out ?_
          rintro e w1 ⟨he, hb⟩
          rw [hT] at he
          subst he
          obtain ⟨c0, c1, c2, c3, c4⟩ := litBox hb
          go_wp2_with (go_at_call 64; refine (isTest_any _ _).mono ?_; rintro e w' ⟨rfl, rfl⟩)
          go_ret
          exact ⟨ret_bool HF.out.symm, below_box hb⟩
        · cases g1 : x.name.isEmpty
          · have HF : Hid (V = false) := by show _ = _; rw [HV.out, g1]; simp
            clear HV
            go_enter Try.func59, Try.ntmps59
            go_wp2_with fail
            refine Calls.mono HC.out ?_
            rintro e w1 ⟨he, hb⟩
            rw [hT] at he
            subst he
            obtain ⟨c0, c1, c2, c3, c4⟩ := litBox hb
            go_wp2_with (go_at_call 64; refine (isTest_any _ _).mono ?_; rintro e w' ⟨rfl, rfl⟩)
            go_ret
            exact ⟨ret_bool HF.out.symm, below_box hb⟩
          · have HF : Hid (V = ((x.terms.length : Int) == 2)) := by show _ = _; rw [HV.out, g0, g1]; rfl
            clear HV
            go_enter Try.func59, Try.ntmps59
            go_wp2_with fail
            refine Calls.mono HC.out ?_
            rintro e w1 ⟨he, hb⟩
            rw [hT] at he
            subst he
            obtain ⟨c0, c1, c2, c3, c4⟩ := litBox hb
            go_wp2_with (go_at_call 64; refine (isTest_any _ _).mono ?_; rintro e w' ⟨rfl, rfl⟩)
            go_ret
            exact ⟨ret_bool HF.out.symm, below_box hb⟩
      · rw [if_neg k3] at HV
        have t3 : (x.kind == 3) = false := beq_eq_false_iff_ne.2 k3
        clear k3
        by_cases k4 : x.kind = 4
        · rw [if_pos k4] at HV
          have t4 : (x.kind == 4) = true := beq_iff_eq.2 k4
          clear k4
          cases g0 : Tr.between x.op 5 7
          · have HF : Hid (V = false) := by show _ = _; rw [HV.out, g0]; rfl
            clear HV
            go_enter Try.func59, Try.ntmps59
            go_wp2_with fail
            refine Calls.mono HC.out ?_
            rintro e w1 ⟨he, hb⟩
            rw [hT] at he
            subst he
            obtain ⟨c0, c1, c2, c3, c4⟩ := litBox hb
            go_wp2_with (go_at_call 65; refine (isCalc_any _ _).mono ?_; rintro e w' ⟨rfl, rfl⟩)
            go_ret
            exact ⟨ret_bool HF.out.symm, below_box hb⟩
          · cases g1 : x.name.isEmpty
            · have HF : Hid (V = false) := by show _ = _; rw [HV.out, g1]; simp
              clear HV
              go_enter Try.func59, Try.ntmps59
              go_wp2_with fail
              refine Calls.mono HC.out ?_
              rintro e w1 ⟨he, hb⟩
              rw [hT] at he
              subst he
              obtain ⟨c0, c1, c2, c3, c4⟩ := litBox hb
              go_wp2_with (go_at_call 65; refine (isCalc_any _ _).mono ?_; rintro e w' ⟨rfl, rfl⟩)
              go_ret
              exact ⟨ret_bool HF.out.symm, below_box hb⟩
            · have HF : Hid (V = ((x.terms.length : Int) == 3)) := by show _ = _; rw [HV.out, g0, g1]; rfl
              clear HV
              go_enter Try.func59, Try.ntmps59
              go_wp2_with fail
              refine Calls.mono HC.out ?_
              rintro e w1 ⟨he, hb⟩
              rw [hT] at he
              subst he
              obtain ⟨c0, c1, c2, c3, c4⟩ := litBox hb
              go_wp2_with (go_at_call 65; refine (isCalc_any _ _).mono ?_; rintro e w' ⟨rfl, rfl⟩)
              go_ret
              exact ⟨ret_bool HF.out.symm, below_box hb⟩
        · rw [if_neg k4] at HV
          have t4 : (x.kind == 4) = false := beq_eq_false_iff_ne.2 k4
          have HF : Hid (V = false) := HV.out
          clear k4 HV
          go_enter Try.func59, Try.ntmps59
          go_wp2_with fail
          refine Calls.mono HC.out ?_
          rintro e w1 ⟨he, hb⟩
          rw [hT] at he
          subst he
          obtain ⟨c0, c1, c2, c3, c4⟩ := litBox hb
          go_wp2_with fail
          go_ret
          exact ⟨ret_bool HF.out.symm, below_box hb⟩

set_option maxRecDepth 100000 in
set_option maxHeartbeats 1000000 in
theorem foldIsRight_any (r : Tr.Rule) (ao bo : Option Addr) (ca cb : Nat) (w : World) :
    Calls Try.prog 58 #[ruleVal r (.slice ao r.terms.length ca) (.slice bo r.body.length cb)] w fun e w' => e = .returned (.bool (Tr.foldOk r.fold r.terms.length r.body.length)) ∧ Below w.heap.size w w' := by
  have HV : Hid (Tr.foldOk r.fold r.terms.length r.body.length = ((r.fold == 0) || (decide (1 ≤ r.fold) && decide (r.fold ≤ 4) && decide (0 < r.terms.length) && decide (0 < r.body.length)))) := rfl
  generalize Tr.foldOk r.fold r.terms.length r.body.length = V at *
  cases g0 : (r.fold == 0)
  · cases g1 : decide (1 ≤ r.fold)
    · have HF : Hid (V = false) := by show _ = _; rw [HV.out, g0, g1]; rfl
      clear HV
      go_enter Try.func58, Try.ntmps58
      go_wp2
      go_ret
      exact ⟨ret_bool HF.out.symm, below_alloc _ _⟩
    · cases g2 : decide (r.fold ≤ 4)
      · have HF : Hid (V = false) := by show _ = _; rw [HV.out, g0, g1, g2]; rfl
        clear HV
        go_enter Try.func58, Try.ntmps58
        go_wp2
        go_ret
        exact ⟨ret_bool HF.out.symm, below_alloc _ _⟩
      · cases g3 : decide (0 < r.terms.length)
        · have HF : Hid (V = false) := by show _ = _; rw [HV.out, g0, g1, g2, g3]; rfl
          clear HV
          go_enter Try.func58, Try.ntmps58
          go_wp2
          go_ret
          exact ⟨ret_bool HF.out.symm, below_alloc _ _⟩
        · have HF : Hid (V = decide (0 < r.body.length)) := by show _ = _; rw [HV.out, g0, g1, g2, g3]; rfl
          clear HV
          go_enter Try.func58, Try.ntmps58
          go_wp2
          go_ret
          exact ⟨ret_bool (by rw [HF.out]), below_alloc _ _⟩
  · have HF : Hid (V = true) := by show _ = _; rw [HV.out, g0]; rfl
    clear HV
    go_enter Try.func58, Try.ntmps58
    go_wp2
    go_ret
    exact ⟨ret_bool HF.out.symm, below_alloc _ _⟩

end Go.Proofs.Ythenjegmigeieaa

/- Package tree: rules, and what is too many. -/
namespace Go.Proofs.Ythenjegmigeieaa
open Go.RowKit

/-- Terms of literals are not too many to count. -/
def Fits (l : List Tr.Lit) : Prop := ∀ i, i < l.length → (Tr.litD l i).terms.length ≤ 140737488355328

set_option maxRecDepth 100000 in
set_option maxHeartbeats 2000000 in
theorem ruleIsRight_any (r : Tr.Rule) (v u : Value) (w : World) (hm1 : r.terms.length ≤ 140737488355328) (hm2 : r.body.length ≤ 140737488355328) (hm3 : Fits r.body) (hA : TermsV w v r.terms) (hB : LitsV w u r.body) :
    Calls Try.prog 51 #[ruleVal r v u] w fun e w' => e = .returned (.bool (Tr.ruleOk r)) ∧ Below w.heap.size w w' := by
  have hA0 := termsV_below hA (below_alloc w (ruleObj r v u))
  have hB0 := litsV_below hB (below_alloc w (ruleObj r v u))
  obtain ⟨ao, ca, rfl, _⟩ := hA
  obtain ⟨bo, cb, rfl, _⟩ := hB
  have HV : Hid (Tr.ruleOk r = (Tr.isName r.name && Tr.termsOk r.terms && Tr.foldOk r.fold r.terms.length r.body.length && Tr.litsOk r.body)) := rfl
  generalize Tr.ruleOk r = V at *
  go_enter Try.func51, Try.ntmps51
  go_wp2_with fail
  refine (isName_any r.name _).mono ?_
  rintro e w1 ⟨he, hb1⟩
  have hbel1 : Below w.heap.size w w1 := below_box hb1
  obtain ⟨c0, c1, c2, c3, c4⟩ := ruleBox hb1
  have hA1 := termsV_below hA0 hb1
  have hB1 := litsV_below hB0 hb1
  cases g1 : Tr.isName r.name
  · have HF : Hid (V = false) := by show _ = _; rw [HV.out, g1]; rfl
    rw [g1] at he
    subst he
    clear HV hA0 hB0 hA1 hB1
    go_wp2_with fail
    go_ret
    exact ⟨ret_bool HF.out.symm, hbel1⟩
  · rw [g1] at he
    subst he
    go_wp2_with fail
    refine (termsAreRight_any r.terms _ _ hm1 hA1).mono ?_
    rintro e w2 ⟨he, hb2⟩
    have hbel2 := hbel1.trans (hb2.mono hbel1.size)
    have hB2 := litsV_below hB1 hb2
    have c0 := cell_below hb2 c0
    have c1 := cell_below hb2 c1
    have c2 := cell_below hb2 c2
    have c3 := cell_below hb2 c3
    have c4 := cell_below hb2 c4
    clear hA0 hB0 hA1 hB1
    cases g2 : Tr.termsOk r.terms
    · have HF : Hid (V = false) := by show _ = _; rw [HV.out, g2]; simp
      rw [g2] at he
      subst he
      go_wp2_with fail
      go_ret
      exact ⟨ret_bool HF.out.symm, hbel2⟩
    · rw [g2] at he
      subst he
      go_wp2_with fail
      refine (foldIsRight_any r ao bo ca cb _).mono ?_
      rintro e w3 ⟨he, hb3⟩
      have hbel3 := hbel2.trans (hb3.mono hbel2.size)
      have hB3 := litsV_below hB2 hb3
      have c4 := cell_below hb3 c4
      cases g3 : Tr.foldOk r.fold r.terms.length r.body.length
      · have HF : Hid (V = false) := by show _ = _; rw [HV.out, g3]; simp
        rw [g3] at he
        subst he
        go_wp2_with fail
        go_ret
        exact ⟨ret_bool HF.out.symm, hbel3⟩
      · rw [g3] at he
        subst he
        have HW : Hid (V = Tr.litsOk r.body) := by show _ = _; rw [HV.out, g1, g2, g3]; rfl
        clear HV g1 g2 g3 hb1 hb2 hb3 hB2 hbel1 hbel2
        go_wp2_with fail
        go_loopw [23] (fun i wr => ∃ k : Nat, k ≤ r.body.length ∧ i = .int .i64 k ∧ Tr.litsOk r.body = (r.body.drop k).all Tr.litOk ∧ Below w3.heap.size w3 wr) (fun i _ => r.body.length - (intOf i).toNat)
        case atStart => exact ⟨0, Nat.zero_le _, rfl, rfl, Below.refl _ _⟩
        case round =>
          obtain ⟨k, hk, rfl, hall, hbelr⟩ := hrel
          have HA : Hid (Tr.litsOk r.body = (r.body.drop k).all Tr.litOk) := hall
          clear hall
          by_cases hlt : k < r.body.length
          · obtain ⟨bo', cb', hv, hL⟩ := litsV_below hB3 hbelr
            rcases hL with h | ⟨b, off, rfl, hc⟩
            · rw [h] at hlt; exact absurd hlt (by simp)
            injection hv with e1 _ e3
            subst e1 e3
            obtain ⟨a0, a1, a2, a3, v4, a4, hT⟩ := hc k hlt
            have HD : Hid (Tr.litsOk r.body = (Tr.litOk (Tr.litD r.body k) && (r.body.drop (k + 1)).all Tr.litOk)) := HA.out.trans (all_drop _ _ _ k hlt)
            have hfit := hm3 k hlt
            clear hc HA hB3
            generalize Tr.litD r.body k = x at *
            have HC : Hid (_) := litIsRight_any x v4 (wr.alloc (litObj x v4)) hfit (termsV_below hT (below_alloc _ _))
            obtain ⟨ao4, ca4, rfl, _⟩ := hT
            cases g : Tr.litOk x
            · have HF : Hid (V = false) := by show _ = _; rw [HW.out, HD.out, g]; rfl
              clear HD HW
              go_wp2_with fail
              refine Calls.mono HC.out ?_
              rintro e w4 ⟨he, hb4⟩
              rw [g] at he
              subst he
              have hbel4 := hbel3.trans ((hbelr.trans ((below_box hb4).mono hbelr.size)).mono hbel3.size)
              go_wp2_with fail
              go_ret
              exact ⟨ret_bool HF.out.symm, hbel4⟩
            · have HN : Hid (Tr.litsOk r.body = (r.body.drop (k + 1)).all Tr.litOk) := by show _ = _; rw [HD.out, g]; rfl
              clear HD
              go_wp2_with fail
              refine Calls.mono HC.out ?_
              rintro e w4 ⟨he, hb4⟩
              rw [g] at he
              subst he
              have hbel4 := hbelr.trans ((below_box hb4).mono hbelr.size)
              clear hb4 HC g a0 a1 a2 a3 a4
              go_wp2_with fail
              go_roundw
              case rel => exact ⟨k + 1, by omega, by go_num, HN.out, hbel4⟩
              case measure => simp [intOf]; omega
          · have HF : Hid (V = true) := by show _ = _; rw [HW.out, HA.out, List.drop_of_length_le (by omega)]; rfl
            have hbel4 := hbel3.trans (hbelr.mono hbel3.size)
            clear hB3 HA
            go_wp2_with fail
            go_ret
            exact ⟨ret_bool HF.out.symm, hbel4⟩

end Go.Proofs.Ythenjegmigeieaa

/- Package tree: Check. -/
namespace Go.Proofs.Ythenjegmigeieaa
open Go.RowKit

abbrev treeVal (v : Value) : Value := .agg #[v]

set_option maxRecDepth 100000 in
set_option maxHeartbeats 2000000 in
theorem tooMany_any (l : List Tr.Rule) (v : Value) (w : World) (hA : RulesV w v l) :
    Calls Try.prog 50 #[treeVal v] w fun e w' => e = .returned (.bool (Tr.many l)) ∧ Below w.heap.size w w' := by
  have hA0 := rulesV_below hA (below_alloc w (.cells #[v] 88))
  have hbel0 := below_alloc w (.cells #[v] 88)
  obtain ⟨ao, ca, rfl, _⟩ := hA
  by_cases h12 : 12 < l.length
  · have HF : Hid (Tr.many l = true) := by show _ = _; unfold Tr.many; rw [decide_eq_true h12]; rfl
    go_enter Try.func50, Try.ntmps50
    go_wp2_with fail
    go_ret
    exact ⟨ret_bool HF.out.symm, hbel0⟩
  · have HV : Hid (Tr.many l = l.any Tr.ruleMany) := by show _ = _; unfold Tr.many; rw [decide_eq_false h12]; rfl
    go_enter Try.func50, Try.ntmps50
    go_wp2_with fail
    generalize (w.alloc (.cells #[.slice ao l.length ca] 88)) = w0 at *
    go_loopw [14] (fun i wr => ∃ k : Nat, k ≤ l.length ∧ i = .int .i64 k ∧ Tr.many l = (l.drop k).any Tr.ruleMany ∧ Below w0.heap.size w0 wr) (fun i _ => l.length - (intOf i).toNat)
    case atStart => exact ⟨0, Nat.zero_le _, rfl, HV.out, Below.refl _ _⟩
    case round =>
      obtain ⟨k, hk, rfl, hany, hbelr⟩ := hrel
      have HA : Hid (Tr.many l = (l.drop k).any Tr.ruleMany) := hany
      clear hany HV
      by_cases hlt : k < l.length
      · obtain ⟨ao', ca', hv, hR⟩ := rulesV_below hA0 hbelr
        rcases hR with h | ⟨b, off, rfl, hc⟩
        · rw [h] at hlt; exact absurd hlt (by simp)
        injection hv with e1 _ e3
        subst e1 e3
        obtain ⟨a0, a1, ⟨v2, a2, hT⟩, a3, v4, a4, hL⟩ := hc k hlt
        have HD : Hid (Tr.many l = (Tr.ruleMany (Tr.ruleD l k) || (l.drop (k + 1)).any Tr.ruleMany)) := HA.out.trans (any_drop _ _ _ k hlt)
        clear hc HA
        generalize Tr.ruleD l k = r at *
        have hL0 := litsV_below hL (below_alloc wr (ruleObj r v2 v4))
        have hbel1 : Below w.heap.size w (wr.alloc (ruleObj r v2 v4)) := (hbel0.trans (hbelr.mono hbel0.size)).trans ((below_alloc wr _).mono (hbel0.trans (hbelr.mono hbel0.size)).size)
        have hbelr1 : Below w0.heap.size w0 (wr.alloc (ruleObj r v2 v4)) := hbelr.trans ((below_alloc wr _).mono hbelr.size)
        obtain ⟨ao2, ca2, rfl, _⟩ := hT
        obtain ⟨ao4, ca4, rfl, _⟩ := hL
        by_cases h4 : 4 < r.body.length
        rotate_left
        · have g1 : decide ((4 : Int) < (r.body.length : Int)) = false := decide_eq_false (by omega)
          by_cases h3 : 3 < r.terms.length
          rotate_left
          · have g2 : decide ((3 : Int) < (r.terms.length : Int)) = false := decide_eq_false (by omega)
            have HM : Hid (Tr.ruleMany r = Tr.litsMany r.body) := by show _ = _; unfold Tr.ruleMany; rw [decide_eq_false h4, decide_eq_false h3]; rfl
            go_wp2_with fail
            generalize (wr.alloc (ruleObj r (.slice ao2 r.terms.length ca2) (.slice ao4 r.body.length ca4))) = w1 at *
            go_loopw [31] (fun i wq => ∃ j : Nat, j ≤ r.body.length ∧ i = .int .i64 j ∧ Tr.litsMany r.body = (r.body.drop j).any (fun x => decide (3 < x.terms.length)) ∧ Below w1.heap.size w1 wq) (fun i _ => r.body.length - (intOf i).toNat)
            case atStart => exact ⟨0, Nat.zero_le _, rfl, rfl, Below.refl _ _⟩
            case round =>
              obtain ⟨j, hj, rfl, hany, hbelq⟩ := hrel
              have HB : Hid (Tr.litsMany r.body = (r.body.drop j).any (fun x => decide (3 < x.terms.length))) := hany
              clear hany
              by_cases hltj : j < r.body.length
              · obtain ⟨bo', cb', hv, hL⟩ := litsV_below hL0 hbelq
                rcases hL with h | ⟨b2, off2, rfl, hc⟩
                · rw [h] at hltj; exact absurd hltj (by simp)
                injection hv with e1 _ e3
                subst e1 e3
                obtain ⟨q0, q1, q2, q3, u4, q4, hT⟩ := hc j hltj
                have HE : Hid (Tr.litsMany r.body = (decide (3 < (Tr.litD r.body j).terms.length) || (r.body.drop (j + 1)).any (fun x => decide (3 < x.terms.length)))) := HB.out.trans (any_drop _ _ _ j hltj)
                clear hc HB hL0 hA0
                generalize Tr.litD r.body j = x at *
                obtain ⟨ao5, ca5, rfl, _⟩ := hT
                by_cases hx : 3 < x.terms.length
                rotate_left
                · have g : decide ((3 : Int) < (x.terms.length : Int)) = false := decide_eq_false (by omega)
                  have HN : Hid (Tr.litsMany r.body = (r.body.drop (j + 1)).any (fun x => decide (3 < x.terms.length))) := by show _ = _; rw [HE.out, decide_eq_false hx]; rfl
                  have hbq := hbelq.trans ((below_alloc _ (litObj x (.slice ao5 x.terms.length ca5))).mono hbelq.size)
                  clear HE
                  go_wp2_with fail
                  go_roundw
                  case rel => exact ⟨j + 1, by omega, by go_num, HN.out, hbq⟩
                  case measure => simp [intOf]; omega
                · have g : decide ((3 : Int) < (x.terms.length : Int)) = true := decide_eq_true (by omega)
                  have HF : Hid (Tr.many l = true) := by show _ = _; rw [HD.out, HM.out, HE.out, decide_eq_true hx]; rfl
                  have hbq := hbel1.trans ((hbelq.trans ((below_alloc _ (litObj x (.slice ao5 x.terms.length ca5))).mono hbelq.size)).mono hbel1.size)
                  clear HE HD HM
                  go_wp2_with fail
                  go_ret
                  exact ⟨ret_bool HF.out.symm, hbq⟩
              · have HN : Hid (Tr.many l = (l.drop (k + 1)).any Tr.ruleMany) := by
                  show _ = _
                  rw [HD.out, HM.out, HB.out, List.drop_of_length_le (by omega)]
                  rfl
                have hbq := hbelr1.trans (hbelq.mono hbelr1.size)
                clear HB HD HM hL0 hA0
                go_wp2_with fail
                go_roundw
                case rel => exact ⟨k + 1, by omega, by go_num, HN.out, hbq⟩
                case measure => simp [intOf]; omega
          · have g2 : decide ((3 : Int) < (r.terms.length : Int)) = true := decide_eq_true (by omega)
            have HF : Hid (Tr.many l = true) := by show _ = _; rw [HD.out]; unfold Tr.ruleMany; rw [decide_eq_true h3]; simp
            clear HD hA0 hL0
            go_wp2_with fail
            go_ret
            exact ⟨ret_bool HF.out.symm, hbel1⟩
        · have g1 : decide ((4 : Int) < (r.body.length : Int)) = true := decide_eq_true (by omega)
          have HF : Hid (Tr.many l = true) := by show _ = _; rw [HD.out]; unfold Tr.ruleMany; rw [decide_eq_true h4]; simp
          clear HD hA0 hL0
          go_wp2_with fail
          go_ret
          exact ⟨ret_bool HF.out.symm, hbel1⟩
      · have HF : Hid (Tr.many l = false) := by show _ = _; rw [HA.out, List.drop_of_length_le (by omega)]; rfl
        have hbq := hbel0.trans (hbelr.mono hbel0.size)
        clear hA0 HA
        go_wp2_with fail
        go_ret
        exact ⟨ret_bool HF.out.symm, hbq⟩

theorem ruleMany_no {r : Tr.Rule} (h : Tr.ruleMany r = false) : r.terms.length ≤ 3 ∧ r.body.length ≤ 4 ∧ Fits r.body := by
  unfold Tr.ruleMany at h
  simp only [Bool.or_eq_false_iff, decide_eq_false_iff_not] at h
  refine ⟨by omega, by omega, fun i hi => ?_⟩
  have hx := h.2
  unfold Tr.litsMany at hx
  rw [List.any_eq_false] at hx
  have e : Tr.litD r.body i = r.body[i] := by rw [Tr.litD, List.getD_eq_getElem?_getD, List.getElem?_eq_getElem hi]; rfl
  have := hx _ (List.getElem_mem hi)
  rw [e]
  simp at this
  omega

set_option maxRecDepth 100000 in
set_option maxHeartbeats 2000000 in
theorem Check_any (l : List Tr.Rule) (v : Value) (w : World) (hA : RulesV w v l) :
    Calls Try.prog 42 #[treeVal v] w fun e w' => e = .returned (.int .i64 (Tr.check l)) ∧ Below w.heap.size w w' := by
  have hA0 := rulesV_below hA (below_alloc w (.cells #[v] 88))
  have hbel0 := below_alloc w (.cells #[v] 88)
  have HT : Hid (_) := tooMany_any l v (w.alloc (.cells #[v] 88)) hA0
  obtain ⟨ao, ca, rfl, _⟩ := hA
  go_enter Try.func42, Try.ntmps42
  go_wp2_with fail
  refine Calls.mono HT.out ?_
  rintro e w1 ⟨he, hb1⟩
  have hbel1 := hbel0.trans (hb1.mono hbel0.size)
  have hA1 := rulesV_below hA0 hb1
  have c0 : w1.cell? ⟨w.heap.size, 0, none⟩ = some (.slice ao l.length ca) := cell_below hb1 (by simp [go_sem])
  clear HT hA0 hb1 hbel0
  cases gm : Tr.many l
  · rw [gm] at he
    subst he
    have hl12 : l.length ≤ 12 := by
      unfold Tr.many at gm
      simp only [Bool.or_eq_false_iff, decide_eq_false_iff_not] at gm
      omega
    have hMany : ∀ k, k < l.length → Tr.ruleMany (Tr.ruleD l k) = false := fun k hk => by
      unfold Tr.many at gm
      simp only [Bool.or_eq_false_iff] at gm
      have e : Tr.ruleD l k = l[k] := by rw [Tr.ruleD, List.getD_eq_getElem?_getD, List.getElem?_eq_getElem hk]; rfl
      rw [e]
      have := List.any_eq_false.1 gm.2 _ (List.getElem_mem hk)
      simpa using this
    have HM : Hid (∀ k, k < l.length → Tr.ruleMany (Tr.ruleD l k) = false) := hMany
    have HV : Hid (Tr.check l = if l.all Tr.ruleOk then 0 else 1) := by show _ = _; unfold Tr.check; rw [gm]; rfl
    clear hMany gm
    go_wp2_with fail
    go_loopw [10] (fun i wr => ∃ k : Nat, k ≤ l.length ∧ i = .int .i64 k ∧ l.all Tr.ruleOk = (l.drop k).all Tr.ruleOk ∧ Below w1.heap.size w1 wr) (fun i _ => l.length - (intOf i).toNat)
    case atStart => exact ⟨0, Nat.zero_le _, rfl, rfl, Below.refl _ _⟩
    case round =>
      obtain ⟨k, hk, rfl, hall, hbelr⟩ := hrel
      have HA : Hid (l.all Tr.ruleOk = (l.drop k).all Tr.ruleOk) := hall
      clear hall
      by_cases hlt : k < l.length
      · obtain ⟨ao', ca', hv, hR⟩ := rulesV_below hA1 hbelr
        rcases hR with h | ⟨b, off, rfl, hc⟩
        · rw [h] at hlt; exact absurd hlt (by simp)
        injection hv with e1 _ e3
        subst e1 e3
        obtain ⟨a0, a1, ⟨v2, a2, hT⟩, a3, v4, a4, hL⟩ := hc k hlt
        have HD : Hid (l.all Tr.ruleOk = (Tr.ruleOk (Tr.ruleD l k) && (l.drop (k + 1)).all Tr.ruleOk)) := HA.out.trans (all_drop _ _ _ k hlt)
        obtain ⟨f1, f2, f3⟩ := ruleMany_no (HM.out k hlt)
        clear hc HA hA1
        generalize Tr.ruleD l k = r at *
        have HC : Hid (_) := ruleIsRight_any r v2 v4 (wr.alloc (ruleObj r v2 v4)) (by omega) (by omega) f3 (termsV_below hT (below_alloc _ _)) (litsV_below hL (below_alloc _ _))
        obtain ⟨ao2, ca2, rfl, _⟩ := hT
        obtain ⟨ao4, ca4, rfl, _⟩ := hL
        clear f3
        cases g : Tr.ruleOk r
        · have HF : Hid (Tr.check l = 1) := by show _ = _; rw [HV.out, HD.out, g]; rfl
          clear HD HV
          go_wp2_with fail
          refine Calls.mono HC.out ?_
          rintro e w4 ⟨he, hb4⟩
          rw [g] at he
          subst he
          have hbel4 := hbel1.trans ((hbelr.trans ((below_box hb4).mono hbelr.size)).mono hbel1.size)
          go_wp2_with fail
          go_ret
          exact ⟨ret_int HF.out.symm, hbel4⟩
        · have HN : Hid (l.all Tr.ruleOk = (l.drop (k + 1)).all Tr.ruleOk) := by show _ = _; rw [HD.out, g]; rfl
          clear HD
          go_wp2_with fail
          refine Calls.mono HC.out ?_
          rintro e w4 ⟨he, hb4⟩
          rw [g] at he
          subst he
          have hbel4 := hbelr.trans ((below_box hb4).mono hbelr.size)
          clear hb4 HC g a0 a1 a2 a3 a4
          go_wp2_with fail
          go_roundw
          case rel => exact ⟨k + 1, by omega, by go_num, HN.out, hbel4⟩
          case measure => simp [intOf]; omega
      · have HF : Hid (Tr.check l = 0) := by show _ = _; rw [HV.out, HA.out, List.drop_of_length_le (by omega)]; rfl
        have hbel4 := hbel1.trans (hbelr.mono hbel1.size)
        clear hA1 HA HV
        go_wp2_with fail
        go_ret
        exact ⟨ret_int HF.out.symm, hbel4⟩
  · rw [gm] at he
    subst he
    have HF : Hid (Tr.check l = 2) := by show _ = _; unfold Tr.check; rw [gm]; rfl
    go_wp2_with fail
    go_ret
    exact ⟨ret_int HF.out.symm, hbel1⟩

end Go.Proofs.Ythenjegmigeieaa

/- The parser in memory. -/
namespace Go.Proofs.Ythenjegmigeieaa
open Go.RowKit

/-- Tokens that a scan may answer: not too many, and numbers that are numbers. -/
def Fit (L : List Tk.Tok) : Prop := L.length ≤ 5000 ∧ ∀ t, t ∈ L → t.kind = 3 → t.text.length ≤ 18 ∧ ∃ n, Lib.atoi t.text = some n

/-- How far the parser is. -/
def nxOf (w : World) (P : Nat) : Nat := match w.cell? ⟨P, 1, none⟩ with | some (.int _ n) => n.toNat | _ => 0
theorem grownBy_of_below {w w' : World} (h : Below w.heap.size w w') (row : Option Nat) : w.grownBy w' row :=
  ⟨h.os, h.tape, h.output, h.size, fun k hk _ => h.block k hk⟩
theorem grownBy_trans {a b c : World} {row : Option Nat} (h : a.grownBy b row) (k : b.grownBy c row) : a.grownBy c row :=
  ⟨k.os.trans h.os, k.tape.trans h.tape, k.output.trans h.output, Nat.le_trans h.size k.size, fun i hi hne => (k.block i (Nat.lt_of_lt_of_le hi h.size) hne).trans (h.block i hi hne)⟩
theorem grownBy_set {w : World} {P : Nat} (o : Nat) (v : Value) : w.grownBy (w.setCell ⟨P, o, none⟩ v) (some P) :=
  ⟨rfl, rfl, rfl, by simp [World.setCell], fun k _ hk => Below.heap_setCell _ _ _ _ (fun e => hk (by rw [e]))⟩
/-- What is set in a block that is new. -/
theorem grownBy_new {w w' : World} {row : Option Nat} {b : Nat} (h : w.grownBy w' row) (hb : w.heap.size ≤ b) (o : Nat) (v : Value) : w.grownBy (w'.setCell ⟨b, o, none⟩ v) row :=
  ⟨h.os, h.tape, h.output, by simpa [World.setCell] using h.size, fun k hk hne => (Below.heap_setCell _ _ _ _ (show ¬ k = b by omega)).trans (h.block k hk hne)⟩
theorem grownBy_cell {w w' : World} {P b o : Nat} {v : Value} (h : w.grownBy w' (some P)) (hne : ¬ b = P) (hc : w.cell? ⟨b, o, none⟩ = some v) : w'.cell? ⟨b, o, none⟩ = some v :=
  (World.cell?_of_block (a := ⟨b, o, none⟩) (h.block b (World.block_lt_of_cell? w _ hc) (by simpa using hne))).trans hc
theorem grownBy_frozen {w w' : World} {P b o : Nat} (h : w.grownBy w' (some P)) (hne : ¬ b = P) (hlt : b < w.heap.size) : w'.frozen? ⟨b, o, none⟩ = w.frozen? ⟨b, o, none⟩ := by
  have := h.block b hlt (by simpa using hne)
  simp [World.frozen?, this]
theorem grownBy_drewN {a b : World} {row : Option Nat} (h : a.grownBy b row) (n : Nat) : a.grownBy (b.drewN n) row := ⟨h.os, h.tape, h.output, h.size, h.block⟩

theorem below_drewN {B : Nat} {a w : World} (h : Below B a w) (n : Nat) : Below B a (w.drewN n) := ⟨h.os, h.tape, h.output, h.size, h.block⟩
theorem below_fresh {w : World} (o : Obj) (n : Nat) (a b c : Value) : Below w.heap.size w ((((((w.alloc o).drewN n).setCell ⟨w.heap.size, 0, none⟩ a)).setCell ⟨w.heap.size, 1, none⟩ b).setCell ⟨w.heap.size, 2, none⟩ c) :=
  (((below_drewN ((Below.refl _ _).alloc (Nat.le_refl _) _) n).setCell (p := ⟨w.heap.size, 0, none⟩) (Nat.le_refl _) _).setCell (p := ⟨w.heap.size, 1, none⟩) (Nat.le_refl _) _).setCell (p := ⟨w.heap.size, 2, none⟩) (Nat.le_refl _) _
theorem hd_drop (L : List Tk.Tok) (en : Int) (nx : Nat) : Pr.hd en (L.drop nx) = if nx < L.length then tokD L nx else ⟨0, en, []⟩ := by
  by_cases h : nx < L.length
  · rw [if_pos h, drop_tok L nx h]; rfl
  · rw [if_neg h, List.drop_of_length_le (by omega)]; rfl

end Go.Proofs.Ythenjegmigeieaa

/- The shelf of the parser (strconv.Atoi) lies with the rest. -/


/- The parser's small steps. -/
namespace Go.Proofs.Ythenjegmigeieaa
open Go.RowKit

theorem fld0 (a b c : Value) (w : World) : (Instr.field 111 (.agg #[a, b, c]) 0).run Try.prog w = .ok a w := by kernel_rfl
theorem fld1 (a b c : Value) (w : World) : (Instr.field 111 (.agg #[a, b, c]) 1).run Try.prog w = .ok b w := by kernel_rfl
theorem fld2 (a b c : Value) (w : World) : (Instr.field 111 (.agg #[a, b, c]) 2).run Try.prog w = .ok c w := by kernel_rfl

theorem hd_ne {en : Int} {r : List Tk.Tok} {t : List UInt8} (ht : ¬ t = []) (h : Pr.isText en r t = true) : ¬ r = [] := by
  rintro rfl
  exact ht (eq_of_beq h).symm

theorem ground {w w' w1 : World} {P : Nat} (h : w.grownBy w1 (some P)) (hb : Below w1.heap.size w1 w') : w.grownBy w' (some P) := grownBy_trans h (grownBy_of_below hb _)

theorem foldOf_nil : Tr.foldOf [] = 0 := rfl
theorem opOf_nil : Pr.opOf [] = 0 := rfl

end Go.Proofs.Ythenjegmigeieaa

/- The parser's names, numbers and terms. -/
namespace Go.Proofs.Ythenjegmigeieaa
open Go.RowKit

/-- A token that is laid aside. -/
abbrev putTok (w : World) (x : Tk.Tok) : World := w.alloc (.cells #[.int .i64 x.kind, .int .i64 x.at_, .string ⟨x.text.toArray⟩] 111)
theorem below_put {w w1 : World} (hb : Below w.heap.size w w1) (x : Tk.Tok) : Below w.heap.size w (putTok w1 x) := hb.alloc hb.size _


end Go.Proofs.Ythenjegmigeieaa

/- The parser's terms. -/
namespace Go.Proofs.Ythenjegmigeieaa
open Go.RowKit

abbrev termObj : Obj := .cells #[.string { data := #[] }, .int .i64 0] 106
theorem fresh2 {w w1 : World} (hb : Below (w.alloc termObj).heap.size (w.alloc termObj) w1) :
    w1.cell? ⟨w.heap.size, 0, none⟩ = some (.string { data := #[] }) ∧ w1.cell? ⟨w.heap.size, 1, none⟩ = some (.int .i64 0) ∧ w1.frozen? ⟨w.heap.size, 0, none⟩ = false ∧ w1.frozen? ⟨w.heap.size, 1, none⟩ = false ∧ Below w.heap.size w w1 ∧ w.heap.size < w1.heap.size := by
  obtain ⟨hc, hf⟩ := bcell hb
  have h : w.heap.size < (w.alloc termObj).heap.size := by simp
  refine ⟨?_, ?_, ?_, ?_, ((Below.refl _ _).alloc (Nat.le_refl _) _).trans (hb.mono (by simp)), Nat.lt_of_lt_of_le h hb.size⟩
  · rw [hc _ _ h]; simp [go_sem]
  · rw [hc _ _ h]; simp [go_sem]
  · rw [hf _ _ h]; simp [go_sem]
  · rw [hf _ _ h]; simp [go_sem]


/-- The block of a result, behind calls that went on. -/
theorem kept2 {w w1 w2 : World} {P : Nat} (hP : P < w.heap.size) (hg : w1.grownBy w2 (some P)) (hs : w.heap.size < w1.heap.size) {u v : Value} (c0 : w1.cell? ⟨w.heap.size, 0, none⟩ = some u) (c1 : w1.cell? ⟨w.heap.size, 1, none⟩ = some v)
    (f0 : w1.frozen? ⟨w.heap.size, 0, none⟩ = false) (f1 : w1.frozen? ⟨w.heap.size, 1, none⟩ = false) :
    w2.cell? ⟨w.heap.size, 0, none⟩ = some u ∧ w2.cell? ⟨w.heap.size, 1, none⟩ = some v ∧ w2.frozen? ⟨w.heap.size, 0, none⟩ = false ∧ w2.frozen? ⟨w.heap.size, 1, none⟩ = false ∧ w.heap.size < w2.heap.size := by
  have hne : ¬ w.heap.size = P := by omega
  exact ⟨grownBy_cell hg hne c0, grownBy_cell hg hne c1, (grownBy_frozen hg hne hs).trans f0, (grownBy_frozen hg hne hs).trans f1, Nat.lt_of_lt_of_le hs hg.size⟩
theorem kept2b {w w1 w2 : World} (hb : Below w1.heap.size w1 w2) (hs : w.heap.size < w1.heap.size) {u v : Value} (c0 : w1.cell? ⟨w.heap.size, 0, none⟩ = some u) (c1 : w1.cell? ⟨w.heap.size, 1, none⟩ = some v)
    (f0 : w1.frozen? ⟨w.heap.size, 0, none⟩ = false) (f1 : w1.frozen? ⟨w.heap.size, 1, none⟩ = false) :
    w2.cell? ⟨w.heap.size, 0, none⟩ = some u ∧ w2.cell? ⟨w.heap.size, 1, none⟩ = some v ∧ w2.frozen? ⟨w.heap.size, 0, none⟩ = false ∧ w2.frozen? ⟨w.heap.size, 1, none⟩ = false ∧ w.heap.size < w2.heap.size := by
  obtain ⟨hc, hf⟩ := bcell hb
  exact ⟨(hc _ _ hs).trans c0, (hc _ _ hs).trans c1, (hf _ _ hs).trans f0, (hf _ _ hs).trans f1, Nat.lt_of_lt_of_le hs hb.size⟩

theorem ground' {w w1 w' : World} {P : Nat} (hb : Below w.heap.size w w1) (h : Below w1.heap.size w1 w') : w.grownBy w' (some P) := grownBy_of_below (hb.trans (h.mono hb.size)) _

end Go.Proofs.Ythenjegmigeieaa

