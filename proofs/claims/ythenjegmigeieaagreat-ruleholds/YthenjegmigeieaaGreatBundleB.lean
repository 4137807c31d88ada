/- Own texts, one behind the other (part 2). -/
import Derived.Test.YthenjegmigeieaaGreatBundleA
import Derived.Test.YthenjegmigeieaaGreatRows
import Derived.WalkKit
import Derived.Sort.Grow
/- Programs, plain: what Check says of them; nothing of the program stands here. -/
namespace Go.Proofs.YthenjegmigeieaaGreat
namespace Sc

structure Term where
  var : Int
  n : Int
structure Lit where
  kind : Int
  op : Int
  pred : Int
  terms : List Term
structure Rule where
  pred : Int
  terms : List Term
  fold : Int
  body : List Lit
  vars : Int
structure Prog where
  arity : List Int
  names : List (List UInt8)
  rules : List Rule

def termD (l : List Term) (i : Nat) : Term := l.getD i ⟨0, 0⟩
def litD (l : List Lit) (i : Nat) : Lit := l.getD i ⟨0, 0, 0, []⟩
def ruleD (l : List Rule) (i : Nat) : Rule := l.getD i ⟨0, [], 0, [], 0⟩
def intD (l : List Int) (i : Nat) : Int := l.getD i 0
def strD (l : List (List UInt8)) (i : Nat) : List UInt8 := l.getD i []

/-- What is wrong first. -/
def first {α : Type} (f : α → Int) : List α → Int
  | [] => 0
  | x :: r => if f x = 0 then first f r else f x
/-- One behind the other. -/
def thn (a b : Int) : Int := if a = 0 then b else a
def isNum (n : Int) : Bool := Tr.between n (-1000000) 1000000
def termErr (vars : Int) (t : Term) : Int :=
  if Tr.between t.var (-1) (vars - 1) then (if !isNum t.n || (decide (0 ≤ t.var) && t.n != 0) then 3 else 0) else 5
def termsErr (vars : Int) (l : List Term) : Int := first (termErr vars) l
def isPred (ar : List Int) (k : Int) : Bool := Tr.between k 0 ((ar.length : Int) - 1)
def litErr (ar : List Int) (l : Lit) : Int :=
  if l.kind = 1 ∨ l.kind = 2 then
    (if l.op ≠ 0 then 3 else if isPred ar l.pred then (if (l.terms.length : Int) ≠ intD ar l.pred.toNat then 1 else 0) else 5)
  else if l.kind = 3 then (if Tr.between l.op 1 4 then (if l.pred ≠ 0 ∨ ¬ l.terms.length = 2 then 1 else 0) else 3)
  else if l.kind = 4 then (if Tr.between l.op 5 7 then (if l.pred ≠ 0 ∨ ¬ l.terms.length = 3 then 1 else 0) else 3)
  else 7
def litAll (ar : List Int) (vars : Int) (l : Lit) : Int := thn (litErr ar l) (termsErr vars l.terms)

/-- Which variables are bound, so far. -/
def known (b : List Bool) (t : Term) : Bool := decide (t.var < 0) || b.getD t.var.toNat false
def bind1 (b : List Bool) (t : Term) : List Bool := if 0 ≤ t.var then b.set t.var.toNat true else b
def bindAll (b : List Bool) (l : List Term) : List Bool := l.foldl bind1 b
/-- The terms that a literal binds. -/
def binds (b : List Bool) (l : Lit) : List Term :=
  if l.kind = 1 then l.terms else if l.kind = 4 ∧ known b (termD l.terms 0) = true ∧ known b (termD l.terms 1) = true then l.terms.drop 2 else []
def bindLit (b : List Bool) (l : Lit) : List Bool := bindAll b (binds b l)
def round (body : List Lit) (b : List Bool) : List Bool := body.foldl bindLit b
def rounds (body : List Lit) : Nat → List Bool → List Bool
  | 0, b => b
  | n + 1, b => rounds body n (round body b)
def safe (r : Rule) : Bool := (rounds r.body r.body.length (List.replicate r.vars.toNat false)).all id

def ruleErr (ar : List Int) (r : Rule) : Int :=
  if isPred ar r.pred then
    thn (if (r.terms.length : Int) ≠ intD ar r.pred.toNat then 1 else 0) (
    thn (if Tr.between r.vars 0 8 then 0 else 3) (
    thn (termsErr r.vars r.terms) (
    thn (if Tr.between r.fold 0 4 then 0 else 7) (
    thn (if r.fold ≠ 0 ∧ (r.terms.length = 0 ∨ r.body.length = 0) then 1 else 0) (
    thn (if 4 < r.body.length then 2 else 0) (
    thn (first (litAll ar r.vars) r.body) (if safe r then 0 else 4)))))))
  else 5
/-- Predicate i: its number of terms, its name, and that no name ahead is the same. -/
def predErr (ar : List Int) (names : List (List UInt8)) (i : Nat) : Int :=
  thn (if Tr.between (intD ar i) 0 3 then 0 else 3) (thn (if Tr.isName (strD names i) then 0 else 1) (if (names.take i).contains (strD names i) then 6 else 0))
def check (p : Prog) : Int :=
  if 10 < p.arity.length ∨ 12 < p.rules.length then 2
  else if ¬ p.names.length = p.arity.length then 1
  else thn (first (predErr p.arity p.names) (List.range p.names.length)) (first (ruleErr p.arity) p.rules)
/-- A fact of a program that is right. -/
def factErr (p : Prog) (pred : Int) (args : List Int) : Int :=
  if isPred p.arity pred then thn (if (args.length : Int) ≠ intD p.arity pred.toNat then 1 else 0) (if args.all isNum then 0 else 3) else 5
def fact (p : Prog) (pred : Int) (args : List Int) : Int := thn (check p) (factErr p pred args)

theorem thn_zero (b : Int) : thn 0 b = b := rfl
theorem thn_ne {a : Int} (b : Int) (h : ¬ a = 0) : thn a b = a := by unfold thn; rw [if_neg h]
theorem first_drop {α : Type} (f : α → Int) (d : α) (l : List α) (k : Nat) (h : k < l.length) : first f (l.drop k) = thn (f (l.getD k d)) (first f (l.drop (k + 1))) := by
  rw [List.drop_eq_getElem_cons h, first, thn]
  simp [List.getD_eq_getElem?_getD, List.getElem?_eq_getElem h]
theorem first_end {α : Type} (f : α → Int) (l : List α) : first f (l.drop l.length) = 0 := by rw [List.drop_length]; rfl

/-! ### One round for each literal is enough -/
theorem known_le {b c : List Bool} (h : ∀ i : Nat, b.getD i false = true → c.getD i false = true) (t : Term) (hk : known b t = true) : known c t = true := by
  unfold known at hk ⊢
  rcases Bool.or_eq_true _ _ ▸ hk with h1 | h1
  · simp [h1]
  · rw [h _ h1, Bool.or_true]
def Le (b c : List Bool) : Prop := b.length = c.length ∧ ∀ i : Nat, b.getD i false = true → c.getD i false = true
theorem Le.refl (b : List Bool) : Le b b := ⟨rfl, fun _ h => h⟩
theorem Le.trans {a b c : List Bool} (h : Le a b) (k : Le b c) : Le a c := ⟨h.1.trans k.1, fun i hi => k.2 i (h.2 i hi)⟩
theorem bind1_le (b : List Bool) (t : Term) : Le b (bind1 b t) := by
  unfold bind1
  split
  · refine ⟨by simp, fun i hi => ?_⟩
    rw [List.getD_eq_getElem?_getD] at hi ⊢
    rw [List.getElem?_set]
    split
    · rename_i h
      subst h
      split
      · rfl
      · rename_i h2
        rw [List.getElem?_eq_none (by omega)] at hi
        exact hi
    · exact hi
  · exact Le.refl b
theorem bindAll_le (l : List Term) : ∀ b : List Bool, Le b (bindAll b l) := by
  induction l with
  | nil => exact Le.refl
  | cons t r ih => exact fun b => (bind1_le b t).trans (ih (bind1 b t))
theorem bindLit_le (b : List Bool) (l : Lit) : Le b (bindLit b l) := bindAll_le _ b
theorem round_le (body : List Lit) : ∀ b : List Bool, Le b (round body b) := by
  induction body with
  | nil => exact Le.refl
  | cons t r ih => exact fun b => (bindLit_le b t).trans (ih (bindLit b t))
/-- All that these terms bind is bound. -/
def Has (b : List Bool) (l : List Term) : Prop := ∀ t, t ∈ l → 0 ≤ t.var → t.var.toNat < b.length → b.getD t.var.toNat false = true
theorem Has.le {b c : List Bool} {l : List Term} (h : Has b l) (k : Le b c) : Has c l := fun t ht h0 hl => k.2 _ (h t ht h0 (by rw [k.1]; exact hl))
theorem bind1_has {b : List Bool} {t : Term} (h : 0 ≤ t.var → t.var.toNat < b.length → b.getD t.var.toNat false = true) : bind1 b t = b := by
  unfold bind1
  split
  · rename_i h0
    apply List.ext_getElem?
    intro i
    rw [List.getElem?_set]
    split
    · rename_i hi
      subst hi
      split
      · rename_i hl
        have := h h0 hl
        rw [List.getD_eq_getElem?_getD, List.getElem?_eq_getElem hl] at this
        rw [List.getElem?_eq_getElem hl]
        simp at this
        rw [this]
      · rename_i hl
        rw [List.getElem?_eq_none (by omega)]
    · rfl
  · rfl
theorem bindAll_has (l : List Term) : ∀ {b : List Bool}, Has b l → bindAll b l = b := by
  induction l with
  | nil => exact fun _ => rfl
  | cons t r ih =>
    intro b h
    show bindAll (bind1 b t) r = b
    rw [bind1_has (h t List.mem_cons_self)]
    exact ih fun x hx => h x (List.mem_cons_of_mem _ hx)
theorem has_bind1 (b : List Bool) (t : Term) (h0 : 0 ≤ t.var) (hl : t.var.toNat < b.length) : (bind1 b t).getD t.var.toNat false = true := by
  unfold bind1
  rw [if_pos h0, List.getD_eq_getElem?_getD, List.getElem?_set_self hl]
  rfl
theorem has_bindAll (l : List Term) : ∀ b : List Bool, Has (bindAll b l) l := by
  induction l with
  | nil => exact fun _ t ht => absurd ht (by simp)
  | cons t r ih =>
    intro b x hx h0 hl
    have hle : Le (bind1 b t) (bindAll (bind1 b t) r) := bindAll_le r _
    rcases List.mem_cons.mp hx with rfl | hx
    · refine hle.2 _ (has_bind1 b x h0 ?_)
      have h1 := (bind1_le b x).1
      have h2 := hle.1
      show x.var.toNat < b.length
      rw [h1, h2]
      exact hl
    · exact ih (bind1 b t) x hx h0 hl
/-- A literal that is ready binds all its terms of that kind. -/
def ready (b : List Bool) (l : Lit) : Bool := (l.kind == 1) || ((l.kind == 4) && known b (termD l.terms 0) && known b (termD l.terms 1))
def out (l : Lit) : List Term := if l.kind = 1 then l.terms else l.terms.drop 2
theorem binds_ready (b : List Bool) (l : Lit) : binds b l = if ready b l then out l else [] := by
  unfold binds ready out
  by_cases h1 : l.kind = 1
  · simp [h1]
  · by_cases h4 : l.kind = 4
    · cases hk0 : known b (termD l.terms 0) <;> cases hk1 : known b (termD l.terms 1) <;> simp [h4]
    · simp [h1, h4]
theorem ready_le {b c : List Bool} (h : Le b c) {l : Lit} (hr : ready b l = true) : ready c l = true := by
  unfold ready at hr ⊢
  rcases Bool.or_eq_true _ _ ▸ hr with h1 | h1
  · simp [h1]
  · simp only [Bool.and_eq_true] at h1
    simp [h1.1.1, known_le h.2 _ h1.1.2, known_le h.2 _ h1.2]
/-- What was ready ahead of a round is bound behind it. -/
theorem round_has (body : List Lit) : ∀ (b : List Bool) (l : Lit), l ∈ body → ready b l = true → Has (round body b) (out l) := by
  induction body with
  | nil => exact fun _ l hl => absurd hl (by simp)
  | cons x r ih =>
    intro b l hl hr
    rcases List.mem_cons.mp hl with rfl | hl
    · refine Has.le ?_ (round_le r (bindLit b l))
      unfold bindLit
      rw [binds_ready, if_pos hr]
      exact has_bindAll _ _
    · exact ih (bindLit b x) l hl (ready_le (bindLit_le b x) hr)
/-- Where all that is ready is bound, a round binds nothing. -/
theorem round_fix (body : List Lit) : ∀ (b : List Bool), (∀ l, l ∈ body → ready b l = true → Has b (out l)) → round body b = b := by
  induction body with
  | nil => exact fun _ _ => rfl
  | cons x r ih =>
    intro b h
    have hx : bindLit b x = b := by
      unfold bindLit
      rw [binds_ready]
      split
      · rename_i hr
        exact bindAll_has _ (h x List.mem_cons_self hr)
      · rfl
    show round r (bindLit b x) = b
    rw [hx]
    exact ih b fun l hl => h l (List.mem_cons_of_mem _ hl)
def many (body : List Lit) (b : List Bool) : Nat := body.countP (ready b)
theorem many_le {body : List Lit} {b c : List Bool} (h : Le b c) : many body b ≤ many body c := List.countP_mono_left fun _ _ => ready_le h
theorem many_eq {b c : List Bool} (h : Le b c) : ∀ {body : List Lit}, many body c ≤ many body b → ∀ l, l ∈ body → ready c l = true → ready b l = true := by
  intro body
  induction body with
  | nil => exact fun _ l hl => absurd hl (by simp)
  | cons x r ih =>
    intro hm l hl hr
    have h1 : many r b ≤ many r c := many_le h
    simp only [many, List.countP_cons] at hm h1
    have h2 : ready b x = true → ready c x = true := ready_le h
    rcases List.mem_cons.mp hl with rfl | hl
    · cases hb : ready b l with
      | true => rfl
      | false => rw [hb, hr] at hm; simp at hm; omega
    · refine ih ?_ l hl hr
      show List.countP (ready c) r ≤ List.countP (ready b) r
      cases hb : ready b x with
      | true => rw [hb, h2 hb] at hm; simpa using hm
      | false =>
        cases hc : ready c x with
        | true => rw [hb, hc] at hm; simp at hm; omega
        | false => rw [hb, hc] at hm; simpa using hm
/-- Where a round makes nothing ready, the next one binds nothing. -/
theorem round_still (body : List Lit) (b : List Bool) (h : many body (round body b) ≤ many body b) : round body (round body b) = round body b :=
  round_fix body _ fun l hl hr => round_has body b l hl (many_eq (round_le body b) h l hl hr)
theorem rounds_fix (body : List Lit) : ∀ (n : Nat) (b : List Bool), round body b = b → rounds body n b = b := by
  intro n
  induction n with
  | zero => exact fun _ _ => rfl
  | succ n ih => intro b h; rw [rounds, h]; exact ih b h
theorem rounds_more (body : List Lit) : ∀ (n : Nat) (b : List Bool), body.length ≤ n + many body b → rounds body (n + 2) b = rounds body (n + 1) b := by
  intro n
  induction n with
  | zero =>
    intro b h
    have hc : many body (round body b) ≤ many body b := Nat.le_trans List.countP_le_length (by simpa using h)
    exact round_still body b hc
  | succ n ih =>
    intro b h
    by_cases hm : many body (round body b) ≤ many body b
    · have hf := round_still body b hm
      show rounds body (n + 2) (round body b) = rounds body (n + 1) (round body b)
      rw [rounds_fix body _ _ hf, rounds_fix body _ _ hf]
    · exact ih (round body b) (by omega)
theorem rounds_enough (body : List Lit) (b : List Bool) : rounds body (body.length + 1) b = rounds body body.length b := by
  by_cases h0 : many body b = 0
  · have hf : round body b = b := round_fix body b fun l hl hr => by
      have := List.countP_eq_zero.mp h0 l hl
      exact absurd hr this
    rw [rounds_fix body _ _ hf, rounds_fix body _ _ hf]
  · have hl : many body b ≤ body.length := List.countP_le_length
    obtain ⟨n, hn⟩ : ∃ n, body.length = n + 1 := ⟨body.length - 1, by omega⟩
    rw [hn]
    exact rounds_more body n b (by omega)
end Sc

end Go.Proofs.YthenjegmigeieaaGreat

/- Facts, plain: their order, sets; nothing of the program stands here. -/
namespace Go.Proofs.YthenjegmigeieaaGreat
namespace Rl

structure Fc where
  pred : Int
  args : List Int
def cmpI (a b : Int) : Int := if a < b then -1 else if b < a then 1 else 0
def cmpL : List Int → List Int → Int
  | [], [] => 0
  | [], _ :: _ => -1
  | _ :: _, [] => 1
  | a :: x, b :: y => if cmpI a b = 0 then cmpL x y else cmpI a b
def ord (f g : Fc) : Int := if cmpI f.pred g.pred = 0 then cmpL f.args g.args else cmpI f.pred g.pred

theorem cmpI_zero {a b : Int} : cmpI a b = 0 ↔ a = b := by
  unfold cmpI
  split
  · constructor
    · intro h; exact absurd h (by decide)
    · intro h; omega
  · split
    · constructor
      · intro h; exact absurd h (by decide)
      · intro h; omega
    · constructor
      · intro _; omega
      · intro _; rfl
theorem cmpI_lt {a b : Int} : cmpI a b < 0 ↔ a < b := by
  unfold cmpI
  split
  · constructor
    · intro _; assumption
    · intro _; decide
  · split
    · constructor
      · intro h; exact absurd h (by decide)
      · intro h; omega
    · constructor
      · intro h; exact absurd h (by decide)
      · intro h; omega
theorem cmpI_flip (a b : Int) : cmpI b a = - cmpI a b := by
  unfold cmpI
  by_cases h1 : a < b
  · rw [if_pos h1, if_neg (by omega), if_pos h1]
    rfl
  · by_cases h2 : b < a
    · rw [if_pos h2, if_neg h1, if_pos h2]
    · rw [if_neg h2, if_neg h1, if_neg h1, if_neg h2]
      rfl
theorem cmpI_self (a : Int) : cmpI a a = 0 := cmpI_zero.mpr rfl
theorem cmpL_zero : ∀ {x y : List Int}, cmpL x y = 0 ↔ x = y := by
  intro x
  induction x with
  | nil =>
    intro y
    cases y with
    | nil => simp [cmpL]
    | cons b y => simp [cmpL]
  | cons a x ih =>
    intro y
    cases y with
    | nil => simp [cmpL]
    | cons b y =>
      simp only [cmpL]
      split
      · rename_i h
        rw [cmpI_zero] at h
        rw [ih, h]
        simp
      · rename_i h
        constructor
        · intro h2; exact absurd h2 h
        · intro h2
          injection h2 with h2 _
          exact absurd (cmpI_zero.mpr h2) h
theorem cmpL_flip : ∀ (x y : List Int), cmpL y x = - cmpL x y := by
  intro x
  induction x with
  | nil =>
    intro y
    cases y with
    | nil => rfl
    | cons b y => rfl
  | cons a x ih =>
    intro y
    cases y with
    | nil => rfl
    | cons b y =>
      simp only [cmpL]
      by_cases h : cmpI a b = 0
      · rw [if_pos h, if_pos (by rw [cmpI_flip, h]; rfl)]
        exact ih y
      · rw [if_neg h, if_neg (by rw [cmpI_flip]; omega)]
        exact cmpI_flip a b
theorem cmpL_trans : ∀ {x y z : List Int}, cmpL x y < 0 → cmpL y z < 0 → cmpL x z < 0 := by
  intro x
  induction x with
  | nil =>
    intro y z h1 h2
    cases y with
    | nil => exact absurd h1 (by decide)
    | cons b y =>
      cases z with
      | nil => exact absurd (show (1 : Int) < 0 from h2) (by decide)
      | cons c z => show (-1 : Int) < 0; decide
  | cons a x ih =>
    intro y z h1 h2
    cases y with
    | nil => exact absurd (show (1 : Int) < 0 from h1) (by decide)
    | cons b y =>
      cases z with
      | nil => exact absurd (show (1 : Int) < 0 from h2) (by decide)
      | cons c z =>
        simp only [cmpL] at h1 h2 ⊢
        by_cases e1 : cmpI a b = 0
        · rw [if_pos e1] at h1
          rw [cmpI_zero] at e1
          subst e1
          by_cases e2 : cmpI a c = 0
          · rw [if_pos e2] at h2 ⊢
            exact ih h1 h2
          · rw [if_neg e2] at h2 ⊢
            exact h2
        · rw [if_neg e1, cmpI_lt] at h1
          by_cases e2 : cmpI b c = 0
          · rw [cmpI_zero] at e2
            subst e2
            rw [if_neg e1, cmpI_lt]
            exact h1
          · rw [if_neg e2, cmpI_lt] at h2
            rw [if_neg (by rw [cmpI_zero]; omega), cmpI_lt]
            omega
theorem ord_zero {f g : Fc} : ord f g = 0 ↔ f = g := by
  obtain ⟨p, x⟩ := f
  obtain ⟨q, y⟩ := g
  unfold ord
  simp only
  by_cases h : cmpI p q = 0
  · rw [if_pos h, cmpL_zero]
    rw [cmpI_zero] at h
    subst h
    simp
  · rw [if_neg h]
    constructor
    · intro h2; exact absurd h2 h
    · intro h2
      injection h2 with h2 _
      exact absurd (cmpI_zero.mpr h2) h
theorem ord_self (f : Fc) : ord f f = 0 := ord_zero.mpr rfl
theorem ord_flip (f g : Fc) : ord g f = - ord f g := by
  unfold ord
  by_cases h : cmpI f.pred g.pred = 0
  · rw [if_pos h, if_pos (by rw [cmpI_flip, h]; rfl)]
    exact cmpL_flip _ _
  · rw [if_neg h, if_neg (by rw [cmpI_flip]; omega)]
    exact cmpI_flip _ _
theorem ord_trans {f g h : Fc} (h1 : ord f g < 0) (h2 : ord g h < 0) : ord f h < 0 := by
  obtain ⟨p, x⟩ := f
  obtain ⟨q, y⟩ := g
  obtain ⟨r, z⟩ := h
  unfold ord at h1 h2 ⊢
  simp only at h1 h2 ⊢
  by_cases e1 : cmpI p q = 0
  · rw [if_pos e1] at h1
    rw [cmpI_zero] at e1
    subst e1
    by_cases e2 : cmpI p r = 0
    · rw [if_pos e2] at h2 ⊢
      exact cmpL_trans h1 h2
    · rw [if_neg e2] at h2 ⊢
      exact h2
  · rw [if_neg e1, cmpI_lt] at h1
    by_cases e2 : cmpI q r = 0
    · rw [cmpI_zero] at e2
      subst e2
      rw [if_neg e1, cmpI_lt]
      exact h1
    · rw [if_neg e2, cmpI_lt] at h2
      rw [if_neg (by rw [cmpI_zero]; omega), cmpI_lt]
      omega
theorem cmpI_vals (a b : Int) : cmpI a b = -1 ∨ cmpI a b = 0 ∨ cmpI a b = 1 := by
  unfold cmpI
  split
  · exact .inl rfl
  · split
    · exact .inr (.inr rfl)
    · exact .inr (.inl rfl)
theorem cmpL_vals : ∀ (x y : List Int), cmpL x y = -1 ∨ cmpL x y = 0 ∨ cmpL x y = 1 := by
  intro x
  induction x with
  | nil =>
    intro y
    cases y with
    | nil => exact .inr (.inl rfl)
    | cons b y => exact .inl rfl
  | cons a x ih =>
    intro y
    cases y with
    | nil => exact .inr (.inr rfl)
    | cons b y =>
      simp only [cmpL]
      split
      · exact ih y
      · exact cmpI_vals a b
theorem ord_vals (f g : Fc) : ord f g = -1 ∨ ord f g = 0 ∨ ord f g = 1 := by
  unfold ord
  split
  · exact cmpL_vals _ _
  · exact cmpI_vals _ _

def Lt (f g : Fc) : Prop := ord f g < 0
theorem Lt.trans {f g h : Fc} (h1 : Lt f g) (h2 : Lt g h) : Lt f h := ord_trans h1 h2
theorem Lt.irrefl (f : Fc) : ¬ Lt f f := by unfold Lt; rw [ord_self]; decide
theorem lt_or (f g : Fc) : Lt f g ∨ f = g ∨ Lt g f := by
  unfold Lt
  rw [ord_flip f g, ← ord_zero]
  omega
/-- In order, each once. -/
def Up (l : List Fc) : Prop := l.Pairwise Lt
def IsSet (s l : List Fc) : Prop := Up s ∧ ∀ x, x ∈ s ↔ x ∈ l
theorem up_ext : ∀ {s t : List Fc}, Up s → Up t → (∀ x, x ∈ s ↔ x ∈ t) → s = t := by
  intro s
  induction s with
  | nil =>
    intro t _ _ h
    cases t with
    | nil => rfl
    | cons b t => exact absurd ((h b).mpr (by simp)) (by simp)
  | cons a s ih =>
    intro t hs ht h
    cases t with
    | nil => exact absurd ((h a).mp (by simp)) (by simp)
    | cons b t =>
      have hs' := List.pairwise_cons.mp hs
      have ht' := List.pairwise_cons.mp ht
      have hab : a = b := by
        rcases List.mem_cons.mp ((h a).mp (by simp)) with h1 | h1
        · exact h1
        · rcases List.mem_cons.mp ((h b).mpr (by simp)) with h2 | h2
          · exact h2.symm
          · exact absurd ((ht'.1 a h1).trans (hs'.1 b h2)) (Lt.irrefl b)
      subst hab
      rw [ih hs'.2 ht'.2 (fun x => ?_)]
      constructor
      · intro hx
        rcases List.mem_cons.mp ((h x).mp (by simp [hx])) with h1 | h1
        · subst h1; exact absurd (hs'.1 x hx) (Lt.irrefl x)
        · exact h1
      · intro hx
        rcases List.mem_cons.mp ((h x).mpr (by simp [hx])) with h1 | h1
        · subst h1; exact absurd (ht'.1 x hx) (Lt.irrefl x)
        · exact h1
def ins (f : Fc) : List Fc → List Fc
  | [] => [f]
  | a :: r => if ord f a < 0 then f :: a :: r else if ord f a = 0 then a :: r else a :: ins f r
theorem mem_ins (f x : Fc) : ∀ (l : List Fc), x ∈ ins f l ↔ x = f ∨ x ∈ l := by
  intro l
  induction l with
  | nil => simp [ins]
  | cons a r ih =>
    simp only [ins]
    split
    · simp
    · split
      · rename_i h
        rw [ord_zero] at h
        subst h
        constructor
        · intro h; exact .inr h
        · rintro (h | h)
          · simp [h]
          · exact h
      · rw [List.mem_cons, ih, List.mem_cons]
        constructor
        · rintro (h | h | h)
          · exact .inr (.inl h)
          · exact .inl h
          · exact .inr (.inr h)
        · rintro (h | h | h)
          · exact .inr (.inl h)
          · exact .inl h
          · exact .inr (.inr h)
theorem up_ins (f : Fc) : ∀ {l : List Fc}, Up l → Up (ins f l) := by
  intro l
  induction l with
  | nil => intro _; exact List.pairwise_singleton _ _
  | cons a r ih =>
    intro h
    have h' := List.pairwise_cons.mp h
    simp only [ins]
    split
    · rename_i h1
      refine List.pairwise_cons.mpr ⟨fun x hx => ?_, h⟩
      rcases List.mem_cons.mp hx with rfl | hx
      · exact h1
      · exact Lt.trans h1 (h'.1 x hx)
    · split
      · exact h
      · rename_i h1 h2
        refine List.pairwise_cons.mpr ⟨fun x hx => ?_, ih h'.2⟩
        rcases (mem_ins f x r).mp hx with rfl | hx
        · rcases lt_or a x with h3 | h3 | h3
          · exact h3
          · subst h3; exact absurd (ord_self a) h2
          · exact absurd h3 h1
        · exact h'.1 x hx
/-- The set of some facts. -/
def set : List Fc → List Fc
  | [] => []
  | a :: r => ins a (set r)
theorem set_isSet : ∀ (l : List Fc), IsSet (set l) l := by
  intro l
  induction l with
  | nil => exact ⟨List.Pairwise.nil, fun x => Iff.rfl⟩
  | cons a r ih =>
    refine ⟨up_ins a ih.1, fun x => ?_⟩
    show x ∈ ins a (set r) ↔ _
    rw [mem_ins, ih.2, List.mem_cons]
theorem isSet_eq {s l : List Fc} (h : IsSet s l) : s = set l := up_ext h.1 (set_isSet l).1 fun x => (h.2 x).trans ((set_isSet l).2 x).symm
theorem mem_set {l : List Fc} {x : Fc} : x ∈ set l ↔ x ∈ l := (set_isSet l).2 x
theorem set_same {l m : List Fc} (h : ∀ x, x ∈ l ↔ x ∈ m) : set l = set m := isSet_eq ⟨(set_isSet l).1, fun x => mem_set.trans (h x)⟩

def has (l : List Fc) (f : Fc) : Bool := l.any fun x => ord x f == 0
theorem has_iff {l : List Fc} {f : Fc} : has l f = true ↔ f ∈ l := by
  unfold has
  rw [List.any_eq_true]
  constructor
  · rintro ⟨x, hx, h⟩
    have h2 : x = f := ord_zero.mp (by simpa using h)
    rw [← h2]
    exact hx
  · intro h
    exact ⟨f, h, by simp [ord_self]⟩
def minus (l m : List Fc) : List Fc := set (l.filter fun x => !has m x)
def union (l m : List Fc) : List Fc := set (l ++ m)
/-- Are numbers the same wherever they are bound to be? -/
def agree : List Int → List Int → List Bool → Bool
  | a :: x, b :: y, c :: z => (!c || a == b) && agree x y z
  | _, _, _ => true
def fits (pred : Int) (args : List Int) (bound : List Bool) (f : Fc) : Bool := f.pred == pred && (f.args.length == args.length) && agree f.args args bound
def matchL (l : List Fc) (pred : Int) (args : List Int) (bound : List Bool) : List Fc := set (l.filter (fits pred args bound))

/-- One more fact, put where it belongs. -/
theorem up_put {acc : List Fc} {f : Fc} {k : Nat} (h : Up acc) (hf : f ∉ acc) (hk : k ≤ acc.length) (hd : ∀ x, x ∈ acc.drop k → ord x f > 0) (ht : k = 0 ∨ ∃ x, acc[k - 1]? = some x ∧ ¬ ord x f > 0) : Up (acc.take k ++ f :: acc.drop k) := by
  have hsplit : acc.take k ++ acc.drop k = acc := List.take_append_drop k acc
  have h0 := h
  rw [← hsplit] at h0
  obtain ⟨u1, u2, u3⟩ := List.pairwise_append.mp h0
  refine List.pairwise_append.mpr ⟨u1, List.pairwise_cons.mpr ⟨fun x hx => ?_, u2⟩, fun x hx y hy => ?_⟩
  · have := hd x hx
    show ord f x < 0
    rw [ord_flip x f]
    omega
  · have hxf : Lt x f := by
      rcases ht with h1 | ⟨z, hz, hzf⟩
      · subst h1; simp at hx
      · have hzl : Lt z f := by
          rcases lt_or z f with h2 | h2 | h2
          · exact h2
          · subst h2; exact absurd (List.mem_of_getElem? hz) hf
          · have h3 : ord f z < 0 := h2
            rw [ord_flip z f] at h3
            omega
        by_cases hxz : x = z
        · rw [hxz]; exact hzl
        · obtain ⟨i, hi, hix⟩ := List.getElem_of_mem hx
          have hi1 : i < k := by rw [List.length_take] at hi; omega
          have hi2 : i < acc.length := by omega
          have hk1 : k - 1 < acc.length := by omega
          have hxi : acc[i] = x := by rw [← hix, List.getElem_take]
          have hzi : acc[k - 1] = z := by rw [List.getElem?_eq_getElem hk1] at hz; exact Option.some.inj hz
          have hne : ¬ i = k - 1 := fun e => hxz (by rw [← hxi, ← hzi]; simp only [e])
          have := List.pairwise_iff_getElem.mp h i (k - 1) hi2 hk1 (by omega)
          rw [hxi, hzi] at this
          exact this.trans hzl
    rcases List.mem_cons.mp hy with rfl | hy
    · exact hxf
    · exact u3 x hx y hy
theorem mem_put {acc : List Fc} {f x : Fc} {k : Nat} : x ∈ acc.take k ++ f :: acc.drop k ↔ x = f ∨ x ∈ acc := by
  have hsplit : acc.take k ++ acc.drop k = acc := List.take_append_drop k acc
  conv => rhs; rw [← hsplit]
  simp only [List.mem_append, List.mem_cons]
  constructor
  · rintro (h | h | h)
    · exact .inr (.inl h)
    · exact .inl h
    · exact .inr (.inr h)
  · rintro (h | h | h)
    · exact .inr (.inl h)
    · exact .inl h
    · exact .inr (.inr h)
end Rl

end Go.Proofs.YthenjegmigeieaaGreat

/- What a rule says, plain: ways so far, which literal comes next, all ways. -/
namespace Go.Proofs.YthenjegmigeieaaGreat
namespace Ru
open Sc (Term)

/-- A way so far: numbers, and which variables have one. -/
structure Way where
  nums : List Int
  known : List Bool

def num (x : List Int) (t : Term) : Int := if t.var < 0 then t.n else x.getD t.var.toNat 0
def fill (ts : List Term) (x : List Int) : List Int := ts.map (num x)
def with1 (w : Way) (t : Term) (n : Int) : Option Way :=
  if Sc.known w.known t = true then (if num w.nums t = n then some w else none)
  else some ⟨w.nums.set t.var.toNat n, w.known.set t.var.toNat true⟩
def withW : Way → List Term → List Int → Option Way
  | w, [], _ => some w
  | w, t :: ts, ns => match with1 w t (ns.headD 0) with
    | none => none
    | some w' => withW w' ts ns.tail
/-- Numbers that go on from a way. -/
def Ext (w : Way) (x : List Int) : Prop := ∀ i : Nat, w.known.getD i false = true → w.nums.getD i 0 = x.getD i 0
/-- A way of m variables. -/
structure Wf (m : Nat) (w : Way) : Prop where
  n : w.nums.length = m
  k : w.known.length = m
def TermIn (m : Nat) (t : Term) : Prop := t.var < 0 ∨ t.var.toNat < m
def TermsIn (m : Nat) (l : List Term) : Prop := ∀ t, t ∈ l → TermIn m t

theorem getD_set_eq {α : Type} (l : List α) (i : Nat) (v d : α) (h : i < l.length) : (l.set i v).getD i d = v := by
  rw [List.getD_eq_getElem?_getD, List.getElem?_set_self h]; rfl
theorem getD_set_ne {α : Type} (l : List α) (i j : Nat) (v d : α) (h : ¬ i = j) : (l.set i v).getD j d = l.getD j d := by
  rw [List.getD_eq_getElem?_getD, List.getElem?_set_ne h, List.getD_eq_getElem?_getD]
theorem num_known {w : Way} {x : List Int} (h : Ext w x) {t : Term} (hk : Sc.known w.known t = true) : num w.nums t = num x t := by
  unfold num
  split
  · rfl
  · rename_i h0
    refine h _ ?_
    unfold Sc.known at hk
    simpa [h0] using hk
theorem known_in {w : Way} {t : Term} (hk : ¬ Sc.known w.known t = true) : 0 ≤ t.var ∧ w.known.getD t.var.toNat false = false := by
  unfold Sc.known at hk
  simp only [Bool.or_eq_true, not_or, decide_eq_true_eq, Bool.not_eq_true] at hk
  exact ⟨by omega, hk.2⟩
theorem with1_wf {m : Nat} {w w' : Way} {t : Term} {n : Int} (hw : Wf m w) (h : with1 w t n = some w') : Wf m w' := by
  unfold with1 at h
  split at h
  · split at h
    · injection h with h; subst h; exact hw
    · cases h
  · injection h with h; subst h
    exact ⟨by simpa using hw.n, by simpa using hw.k⟩
theorem with1_known {w w' : Way} {t : Term} {n : Int} (h : with1 w t n = some w') : w'.known = Sc.bind1 w.known t := by
  unfold with1 at h
  split at h
  · rename_i hk
    split at h
    · injection h with h; subst h
      symm
      refine Sc.bind1_has fun h0 _ => ?_
      unfold Sc.known at hk
      simpa [show ¬ t.var < 0 by omega] using hk
    · cases h
  · rename_i hk
    injection h with h; subst h
    unfold Sc.bind1
    rw [if_pos (known_in hk).1]
theorem with1_ext {m : Nat} {w : Way} {t : Term} {n : Int} {x : List Int} (hw : Wf m w) (ht : TermIn m t) : (∃ w', with1 w t n = some w' ∧ Ext w' x) ↔ Ext w x ∧ num x t = n := by
  unfold with1
  by_cases hk : Sc.known w.known t = true
  · rw [if_pos hk]
    constructor
    · rintro ⟨w', h, he⟩
      split at h
      · rename_i hn
        injection h with h; subst h
        exact ⟨he, by rw [← num_known he hk]; exact hn⟩
      · cases h
    · rintro ⟨he, hn⟩
      refine ⟨w, ?_, he⟩
      rw [if_pos ((num_known he hk).trans hn)]
  · rw [if_neg hk]
    obtain ⟨h0, hf⟩ := known_in hk
    have hv : t.var.toNat < m := by rcases ht with h | h; omega; exact h
    have hx : num x t = x.getD t.var.toNat 0 := by unfold num; rw [if_neg (by omega)]
    rw [hx]
    constructor
    · rintro ⟨w', h, he⟩
      injection h with h; subst h
      refine ⟨fun i hi => ?_, ?_⟩
      · by_cases hvi : t.var.toNat = i
        · subst hvi; rw [hf] at hi; cases hi
        · have := he i (by show (w.known.set _ true).getD i false = true; rw [getD_set_ne _ _ _ _ _ hvi]; exact hi)
          rw [← this]
          show _ = (w.nums.set _ n).getD i 0
          rw [getD_set_ne _ _ _ _ _ hvi]
      · have := he t.var.toNat (by show (w.known.set _ true).getD _ false = true; rw [getD_set_eq _ _ _ _ (by rw [hw.k]; exact hv)])
        rw [← this]
        show (w.nums.set _ n).getD _ 0 = n
        rw [getD_set_eq _ _ _ _ (by rw [hw.n]; exact hv)]
    · rintro ⟨he, hn⟩
      refine ⟨_, rfl, fun i hi => ?_⟩
      by_cases hvi : t.var.toNat = i
      · subst hvi
        show (w.nums.set _ n).getD _ 0 = _
        rw [getD_set_eq _ _ _ _ (by rw [hw.n]; exact hv), hn]
      · show (w.nums.set _ n).getD i 0 = _
        rw [getD_set_ne _ _ _ _ _ hvi]
        refine he i ?_
        have : (w.known.set t.var.toNat true).getD i false = true := hi
        rwa [getD_set_ne _ _ _ _ _ hvi] at this
theorem withW_wf {m : Nat} : ∀ {ts : List Term} {ns : List Int} {w w' : Way}, Wf m w → withW w ts ns = some w' → Wf m w'
  | [], _, _, _, hw, h => by unfold withW at h; injection h with h; subst h; exact hw
  | t :: ts, ns, w, w', hw, h => by
    unfold withW at h
    cases h1 : with1 w t (ns.headD 0) with
    | none => rw [h1] at h; cases h
    | some w1 => rw [h1] at h; exact withW_wf (with1_wf hw h1) h
theorem withW_known : ∀ {ts : List Term} {ns : List Int} {w w' : Way}, withW w ts ns = some w' → w'.known = Sc.bindAll w.known ts
  | [], _, _, _, h => by unfold withW at h; injection h with h; subst h; rfl
  | t :: ts, ns, w, w', h => by
    unfold withW at h
    cases h1 : with1 w t (ns.headD 0) with
    | none => rw [h1] at h; cases h
    | some w1 =>
      rw [h1] at h
      rw [withW_known h, with1_known h1]
      rfl
theorem withW_ext {m : Nat} {x : List Int} : ∀ {ts : List Term} {ns : List Int} {w : Way}, Wf m w → TermsIn m ts → ts.length = ns.length → ((∃ w', withW w ts ns = some w' ∧ Ext w' x) ↔ Ext w x ∧ fill ts x = ns)
  | [], ns, w, _, _, hl => by
    have : ns = [] := List.length_eq_zero_iff.mp hl.symm
    subst this
    constructor
    · rintro ⟨w', h, he⟩; unfold withW at h; injection h with h; subst h; exact ⟨he, rfl⟩
    · rintro ⟨he, _⟩; exact ⟨w, rfl, he⟩
  | t :: ts, [], _, _, _, hl => by cases hl
  | t :: ts, n :: ns, w, hw, hT, hl => by
    have h1 := with1_ext (n := n) (x := x) hw (hT t List.mem_cons_self)
    have hTs : TermsIn m ts := fun t ht => hT t (List.mem_cons_of_mem _ ht)
    have hls : ts.length = ns.length := by simpa using hl
    show (∃ w', (match with1 w t n with | none => none | some w1 => withW w1 ts ns) = some w' ∧ Ext w' x) ↔ _
    constructor
    · rintro ⟨w', h, he⟩
      cases hw1 : with1 w t n with
      | none => rw [hw1] at h; cases h
      | some w1 =>
        rw [hw1] at h
        obtain ⟨he1, hf⟩ := (withW_ext (with1_wf hw hw1) hTs hls).mp ⟨w', h, he⟩
        obtain ⟨he0, hn⟩ := h1.mp ⟨w1, hw1, he1⟩
        exact ⟨he0, by show num x t :: fill ts x = _; rw [hn, hf]⟩
    · rintro ⟨he, hf⟩
      have hf' : num x t :: fill ts x = n :: ns := hf
      injection hf' with hn hf'
      obtain ⟨w1, hw1, he1⟩ := h1.mpr ⟨he, hn⟩
      obtain ⟨w', h, he'⟩ := (withW_ext (with1_wf hw hw1) hTs hls).mpr ⟨he1, hf'⟩
      refine ⟨w', ?_, he'⟩
      rw [hw1]
      exact h

/-! ### Literals -/
def isSo (op a b : Int) : Bool := if op = 1 then decide (a < b) else if op = 2 then decide (a ≤ b) else if op = 3 then decide (a = b) else decide (a ≠ b)
def reck (op a b : Int) : Int := if op = 5 then a + b else if op = 6 then a - b else a * b
def calc3 (l : Sc.Lit) (x : List Int) : Int := reck l.op (num x (Sc.termD l.terms 0)) (num x (Sc.termD l.terms 1))
def holds (facts : List Rl.Fc) (l : Sc.Lit) (x : List Int) : Bool :=
  if l.kind = 1 then Rl.has facts ⟨l.pred, fill l.terms x⟩
  else if l.kind = 2 then !Rl.has facts ⟨l.pred, fill l.terms x⟩
  else if l.kind = 3 then isSo l.op (num x (Sc.termD l.terms 0)) (num x (Sc.termD l.terms 1))
  else Sc.isNum (calc3 l x) && decide (calc3 l x = num x (Sc.termD l.terms 2))
def on (facts : List Rl.Fc) (l : Sc.Lit) (w : Way) : List Way :=
  if l.kind = 1 then facts.filterMap (fun f => if f.pred = l.pred then withW w l.terms f.args else none)
  else if l.kind = 2 then (if Rl.has facts ⟨l.pred, fill l.terms w.nums⟩ = true then [] else [w])
  else if l.kind = 3 then (if isSo l.op (num w.nums (Sc.termD l.terms 0)) (num w.nums (Sc.termD l.terms 1)) = true then [w] else [])
  else match withW w (l.terms.drop 2) [calc3 l w.nums] with
    | none => []
    | some w' => if Sc.isNum (calc3 l w.nums) = true then [w'] else []
def ready (w : Way) (l : Sc.Lit) : Bool :=
  if l.kind = 1 then true
  else if l.kind = 4 then Sc.known w.known (Sc.termD l.terms 0) && Sc.known w.known (Sc.termD l.terms 1)
  else l.terms.all (Sc.known w.known)
/-- Literals that are right, with facts that are. -/
structure LitIn (m : Nat) (facts : List Rl.Fc) (l : Sc.Lit) : Prop where
  t : TermsIn m l.terms
  k : l.kind = 1 ∨ l.kind = 2 ∨ l.kind = 3 ∨ l.kind = 4
  k3 : l.kind = 3 → l.terms.length = 2
  k4 : l.kind = 4 → l.terms.length = 3
  a : l.kind = 1 → ∀ f, f ∈ facts → f.pred = l.pred → l.terms.length = f.args.length

theorem fill_known {w : Way} {x : List Int} (he : Ext w x) {ts : List Term} (h : ts.all (Sc.known w.known) = true) : fill ts w.nums = fill ts x := by
  unfold fill
  refine List.map_congr_left fun t ht => num_known he ?_
  exact List.all_eq_true.mp h t ht
theorem termD_mem {l : List Term} {i : Nat} (h : i < l.length) : Sc.termD l i ∈ l := by unfold Sc.termD; rw [List.getD_eq_getElem?_getD, List.getElem?_eq_getElem h]; exact List.getElem_mem h
theorem drop2_three {l : List Term} (h : l.length = 3) : l.drop 2 = [Sc.termD l 2] := by
  match l, h with
  | [a, b, c], _ => rfl

theorem on_ext {m : Nat} {facts : List Rl.Fc} {l : Sc.Lit} {w : Way} {x : List Int} (hw : Wf m w) (hl : LitIn m facts l) (hr : ready w l = true) : (∃ w', w' ∈ on facts l w ∧ Ext w' x) ↔ Ext w x ∧ holds facts l x = true := by
  unfold on holds
  by_cases h1 : l.kind = 1
  · rw [if_pos h1, if_pos h1, Rl.has_iff]
    constructor
    · rintro ⟨w', hm, he⟩
      obtain ⟨f, hf, hfw⟩ := List.mem_filterMap.mp hm
      split at hfw
      · rename_i hp
        obtain ⟨he0, hfi⟩ := (withW_ext hw hl.t (hl.a h1 f hf hp)).mp ⟨w', hfw, he⟩
        refine ⟨he0, ?_⟩
        rw [hfi, ← hp]
        exact hf
      · cases hfw
    · rintro ⟨he, hf⟩
      obtain ⟨w', hw', he'⟩ := (withW_ext (ns := fill l.terms x) (x := x) hw hl.t (by unfold fill; simp)).mpr ⟨he, rfl⟩
      refine ⟨w', List.mem_filterMap.mpr ⟨_, hf, ?_⟩, he'⟩
      rw [if_pos rfl]
      exact hw'
  · rw [if_neg h1, if_neg h1]
    unfold ready at hr
    rw [if_neg h1] at hr
    by_cases h2 : l.kind = 2
    · rw [if_pos h2, if_pos h2]
      rw [if_neg (by omega)] at hr
      constructor
      · rintro ⟨w', hm, he⟩
        split at hm
        · cases hm
        · rename_i hh
          rcases List.mem_singleton.mp hm with rfl
          refine ⟨he, ?_⟩
          rw [← fill_known he hr]
          simpa using hh
      · rintro ⟨he, hh⟩
        refine ⟨w, ?_, he⟩
        rw [← fill_known he hr] at hh
        rw [if_neg (by simpa using hh)]
        exact List.mem_singleton.mpr rfl
    · rw [if_neg h2, if_neg h2]
      by_cases h3 : l.kind = 3
      · rw [if_pos h3, if_pos h3]
        rw [if_neg (by omega)] at hr
        have hk := List.all_eq_true.mp hr
        have h20 := termD_mem (l := l.terms) (i := 0) (by rw [hl.k3 h3]; omega)
        have h21 := termD_mem (l := l.terms) (i := 1) (by rw [hl.k3 h3]; omega)
        constructor
        · rintro ⟨w', hm, he⟩
          split at hm
          · rename_i hh
            rcases List.mem_singleton.mp hm with rfl
            refine ⟨he, ?_⟩
            rw [← num_known he (hk _ h20), ← num_known he (hk _ h21)]
            exact hh
          · cases hm
        · rintro ⟨he, hh⟩
          refine ⟨w, ?_, he⟩
          rw [← num_known he (hk _ h20), ← num_known he (hk _ h21)] at hh
          rw [if_pos hh]
          exact List.mem_singleton.mpr rfl
      · rw [if_neg h3, if_neg h3]
        have h4 : l.kind = 4 := by rcases hl.k with h | h | h | h <;> first | exact h | contradiction
        rw [if_pos h4, Bool.and_eq_true] at hr
        have hcal : Ext w x → calc3 l w.nums = calc3 l x := fun he => by unfold calc3; rw [num_known he hr.1, num_known he hr.2]
        have hd := drop2_three (hl.k4 h4)
        have hT : TermsIn m (l.terms.drop 2) := fun t ht => hl.t t (List.mem_of_mem_drop ht)
        have hE := withW_ext (ns := [calc3 l w.nums]) (x := x) hw hT (by rw [hd]; rfl)
        have hfd : fill (l.terms.drop 2) x = [num x (Sc.termD l.terms 2)] := by rw [hd]; rfl
        rw [hfd] at hE
        constructor
        · rintro ⟨w', hm, he⟩
          split at hm
          · cases hm
          · rename_i w1 hw1
            split at hm
            · rename_i hn
              rcases List.mem_singleton.mp hm with rfl
              obtain ⟨he0, hf⟩ := hE.mp ⟨_, hw1, he⟩
              injection hf with hf _
              refine ⟨he0, ?_⟩
              rw [hcal he0] at hn hf
              rw [hn, hf]
              simp
            · cases hm
        · rintro ⟨he, hh⟩
          rw [Bool.and_eq_true, decide_eq_true_eq] at hh
          obtain ⟨w', hw', he'⟩ := hE.mpr ⟨he, by rw [hcal he, hh.2]⟩
          refine ⟨w', ?_, he'⟩
          rw [hw']
          show w' ∈ if Sc.isNum (calc3 l w.nums) = true then [w'] else []
          rw [if_pos (by rw [hcal he]; exact hh.1)]
          exact List.mem_singleton.mpr rfl
theorem on_wf {m : Nat} {facts : List Rl.Fc} {l : Sc.Lit} {w w' : Way} (hw : Wf m w) (h : w' ∈ on facts l w) : Wf m w' := by
  unfold on at h
  split at h
  · obtain ⟨f, _, hf⟩ := List.mem_filterMap.mp h
    split at hf
    · exact withW_wf hw hf
    · cases hf
  · split at h
    · split at h
      · cases h
      · rcases List.mem_singleton.mp h with rfl; exact hw
    · split at h
      · split at h
        · rcases List.mem_singleton.mp h with rfl; exact hw
        · cases h
      · split at h
        · cases h
        · rename_i w1 hw1
          split at h
          · rcases List.mem_singleton.mp h with rfl; exact withW_wf hw hw1
          · cases h
theorem on_known {m : Nat} {facts : List Rl.Fc} {l : Sc.Lit} {w w' : Way} (hl : LitIn m facts l) (hr : ready w l = true) (h : w' ∈ on facts l w) : w'.known = Sc.bindLit w.known l := by
  unfold on at h
  unfold Sc.bindLit Sc.binds
  split at h
  · rename_i h1
    rw [if_pos h1]
    obtain ⟨f, _, hf⟩ := List.mem_filterMap.mp h
    split at hf
    · exact withW_known hf
    · cases hf
  · rename_i h1
    rw [if_neg h1]
    split at h
    · rename_i h2
      rw [if_neg (by omega)]
      split at h
      · cases h
      · rcases List.mem_singleton.mp h with rfl; rfl
    · rename_i h2
      split at h
      · rename_i h3
        rw [if_neg (by omega)]
        split at h
        · rcases List.mem_singleton.mp h with rfl; rfl
        · cases h
      · rename_i h3
        have h4 : l.kind = 4 := by rcases hl.k with h | h | h | h <;> first | exact h | contradiction
        unfold ready at hr
        rw [if_neg h1, if_pos h4, Bool.and_eq_true] at hr
        rw [if_pos ⟨h4, hr.1, hr.2⟩]
        split at h
        · cases h
        · rename_i w1 hw1
          split at h
          · rcases List.mem_singleton.mp h with rfl; exact withW_known hw1
          · cases h
/-- Two ways that no numbers go on from both. -/
def Apart (a b : Way) : Prop := ∀ x : List Int, Ext a x → Ext b x → False
theorem on_apart {m : Nat} {facts : List Rl.Fc} {l : Sc.Lit} {w : Way} (hw : Wf m w) (hl : LitIn m facts l) (hn : facts.Nodup) : (on facts l w).Pairwise Apart := by
  unfold on
  split
  · rename_i h1
    rw [List.pairwise_filterMap]
    refine List.Pairwise.imp_of_mem ?_ hn
    intro f g hf hg hfg a ha b hb x hea heb
    split at ha
    · rename_i hp
      split at hb
      · rename_i hq
        have e1 := ((withW_ext hw hl.t (hl.a h1 f hf hp)).mp ⟨a, ha, hea⟩).2
        have e2 := ((withW_ext hw hl.t (hl.a h1 g hg hq)).mp ⟨b, hb, heb⟩).2
        apply hfg
        obtain ⟨fp, fa⟩ := f
        obtain ⟨gp, ga⟩ := g
        dsimp only at *
        rw [hp, hq, ← e1, ← e2]
      · cases hb
    · cases ha
  · split
    · split
      · exact List.Pairwise.nil
      · exact List.pairwise_singleton _ _
    · split
      · split
        · exact List.pairwise_singleton _ _
        · exact List.Pairwise.nil
      · split
        · exact List.Pairwise.nil
        · split
          · exact List.pairwise_singleton _ _
          · exact List.Pairwise.nil
end Ru
end Go.Proofs.YthenjegmigeieaaGreat

/- All ways of a rule, as they are come to: each that is, and each once. -/
namespace Go.Proofs.YthenjegmigeieaaGreat
namespace Ru

def nextStep (facts : List Rl.Fc) (w : Way) (l : Sc.Lit) (i : Nat) (a : Nat × Int) : Nat × Int :=
  if ready w l = true then (if a.2 < 0 ∨ ((on facts l w).length : Int) < a.2 then (i, ((on facts l w).length : Int)) else a) else a
def nextAux (facts : List Rl.Fc) (w : Way) : List Sc.Lit → Nat → Nat × Int → Nat × Int
  | [], _, a => a
  | l :: r, i, a => nextAux facts w r (i + 1) (nextStep facts w l i a)
def next (facts : List Rl.Fc) (body : List Sc.Lit) (w : Way) : Nat := (nextAux facts w body 0 (0, -1)).1
def eachN (facts : List Rl.Fc) : Nat → List Sc.Lit → Way → List Way
  | 0, _, w => [w]
  | n + 1, body, w => (on facts (Sc.litD body (next facts body w)) w).flatMap (eachN facts n (body.eraseIdx (next facts body w)))
def each (facts : List Rl.Fc) (body : List Sc.Lit) (w : Way) : List Way := eachN facts body.length body w

/-- The one that was picked is ready. -/
def Picked (w : Way) (body : List Sc.Lit) (a : Nat × Int) : Prop := 0 ≤ a.2 ∧ a.1 < body.length ∧ ready w (Sc.litD body a.1) = true
theorem litD_append {a b : List Sc.Lit} {i : Nat} (h : i < a.length) : Sc.litD (a ++ b) i = Sc.litD a i := by
  unfold Sc.litD
  rw [List.getD_eq_getElem?_getD, List.getD_eq_getElem?_getD, List.getElem?_append_left h]
theorem litD_snoc (a : List Sc.Lit) (x : Sc.Lit) : Sc.litD (a ++ [x]) a.length = x := by
  unfold Sc.litD
  rw [List.getD_eq_getElem?_getD, List.getElem?_append_right (Nat.le_refl _)]
  simp
theorem nextAux_ok (facts : List Rl.Fc) (w : Way) : ∀ (r pre : List Sc.Lit) (a : Nat × Int), (Picked w pre a ∨ (a.2 < 0 ∧ a.1 = 0 ∧ ∀ l, l ∈ pre → ready w l = false)) →
    Picked w (pre ++ r) (nextAux facts w r pre.length a) ∨ ((nextAux facts w r pre.length a).2 < 0 ∧ (nextAux facts w r pre.length a).1 = 0 ∧ ∀ l, l ∈ pre ++ r → ready w l = false)
  | [], pre, a, h => by rw [List.append_nil]; exact h
  | l :: r, pre, a, h => by
    have e1 : pre ++ l :: r = (pre ++ [l]) ++ r := by simp
    have e2 : pre.length + 1 = (pre ++ [l]).length := by simp
    show Picked w (pre ++ l :: r) (nextAux facts w r (pre.length + 1) (nextStep facts w l pre.length a)) ∨ _
    rw [e1]
    show _ ∨ ((nextAux facts w r (pre.length + 1) (nextStep facts w l pre.length a)).2 < 0 ∧ (nextAux facts w r (pre.length + 1) (nextStep facts w l pre.length a)).1 = 0 ∧ _)
    rw [e2]
    refine nextAux_ok facts w r (pre ++ [l]) _ ?_
    unfold nextStep
    by_cases hr : ready w l = true
    · rw [if_pos hr]
      left
      split
      · exact ⟨by simp, by simp, by show ready w (Sc.litD (pre ++ [l]) pre.length) = true; rw [litD_snoc]; exact hr⟩
      · rename_i hn
        rcases h with h | h
        · exact ⟨h.1, by have := h.2.1; simp; omega, by rw [litD_append h.2.1]; exact h.2.2⟩
        · exact absurd (Or.inl h.1) hn
    · rw [if_neg hr]
      rcases h with h | h
      · exact .inl ⟨h.1, by have := h.2.1; simp; omega, by rw [litD_append h.2.1]; exact h.2.2⟩
      · refine .inr ⟨h.1, h.2.1, fun x hx => ?_⟩
        rcases List.mem_append.mp hx with hx | hx
        · exact h.2.2 x hx
        · rcases List.mem_singleton.mp hx with rfl; simpa using hr
theorem next_ok (facts : List Rl.Fc) (body : List Sc.Lit) (w : Way) (h : ∃ l, l ∈ body ∧ ready w l = true) : next facts body w < body.length ∧ ready w (Sc.litD body (next facts body w)) = true := by
  have h1 := nextAux_ok facts w body [] (0, -1) (.inr ⟨by decide, rfl, fun l hl => absurd hl (by simp)⟩)
  rw [List.nil_append] at h1
  rcases h1 with h1 | h1
  · exact h1.2
  · obtain ⟨l, hl, hr⟩ := h
    rw [h1.2.2 l hl] at hr
    cases hr
theorem next_zero_or (facts : List Rl.Fc) (body : List Sc.Lit) (w : Way) (hb : 0 < body.length) : next facts body w < body.length := by
  have h1 := nextAux_ok facts w body [] (0, -1) (.inr ⟨by decide, rfl, fun l hl => absurd hl (by simp)⟩)
  rw [List.nil_append] at h1
  rcases h1 with h1 | h1
  · exact h1.2.1
  · show (nextAux facts w body 0 (0, -1)).1 < _
    have e : (nextAux facts w body 0 (0, -1)).1 = 0 := h1.2.1
    rw [e]; exact hb

/-! ### In a safe rule there is one that is ready -/
/-- No less is bound; lists of other lengths. -/
def Lo (b c : List Bool) : Prop := ∀ i : Nat, b.getD i false = true → c.getD i false = true
theorem bind1_lo {b c : List Bool} (h : Lo b c) (t : Sc.Term) (hl : b.length ≤ c.length) : Lo (Sc.bind1 b t) (Sc.bind1 c t) := by
  unfold Sc.bind1
  split
  · intro i hi
    by_cases hv : t.var.toNat = i
    · subst hv
      by_cases hb : t.var.toNat < b.length
      · exact getD_set_eq _ _ _ _ (by omega)
      · rw [List.set_eq_of_length_le (by omega)] at hi
        rw [List.getD_eq_getElem?_getD, List.getElem?_eq_none (by omega)] at hi
        simp at hi
    · rw [getD_set_ne _ _ _ _ _ hv] at hi ⊢
      exact h i hi
  · exact h
theorem bindAll_lo : ∀ (l : List Sc.Term) {b c : List Bool}, Lo b c → b.length ≤ c.length → Lo (Sc.bindAll b l) (Sc.bindAll c l)
  | [], _, _, h, _ => h
  | t :: l, b, c, h, hl => by
    show Lo (Sc.bindAll (Sc.bind1 b t) l) (Sc.bindAll (Sc.bind1 c t) l)
    refine bindAll_lo l (bind1_lo h t hl) ?_
    rw [← (Sc.bind1_le b t).1, ← (Sc.bind1_le c t).1]
    exact hl
theorem known_lo {b c : List Bool} (h : Lo b c) {t : Sc.Term} (hk : Sc.known b t = true) : Sc.known c t = true := Sc.known_le h t hk
theorem sready_lo {b c : List Bool} (h : Lo b c) {l : Sc.Lit} (hr : Sc.ready b l = true) : Sc.ready c l = true := by
  unfold Sc.ready at hr ⊢
  rcases Bool.or_eq_true _ _ ▸ hr with h1 | h1
  · simp [h1]
  · simp only [Bool.and_eq_true] at h1
    simp [h1.1.1, known_lo h h1.1.2, known_lo h h1.2]
theorem bindLit_lo {b c : List Bool} (h : Lo b c) (hl : b.length ≤ c.length) (l : Sc.Lit) : Lo (Sc.bindLit b l) (Sc.bindLit c l) := by
  unfold Sc.bindLit
  rw [Sc.binds_ready, Sc.binds_ready]
  by_cases hr : Sc.ready b l = true
  · rw [if_pos hr, if_pos (sready_lo h hr)]
    exact bindAll_lo _ h hl
  · rw [if_neg hr]
    intro i hi
    exact (Sc.bindAll_le _ c).2 i (h i hi)
theorem bindLit_length (b : List Bool) (l : Sc.Lit) : (Sc.bindLit b l).length = b.length := (Sc.bindLit_le b l).1.symm
theorem round_lo : ∀ (body : List Sc.Lit) {b c : List Bool}, Lo b c → b.length ≤ c.length → Lo (Sc.round body b) (Sc.round body c)
  | [], _, _, h, _ => h
  | l :: body, b, c, h, hl => by
    show Lo (Sc.round body (Sc.bindLit b l)) (Sc.round body (Sc.bindLit c l))
    exact round_lo body (bindLit_lo h hl l) (by rw [bindLit_length, bindLit_length]; exact hl)
theorem round_length (body : List Sc.Lit) (b : List Bool) : (Sc.round body b).length = b.length := (Sc.round_le body b).1.symm
theorem rounds_lo (body : List Sc.Lit) : ∀ (n : Nat) {b c : List Bool}, Lo b c → b.length ≤ c.length → Lo (Sc.rounds body n b) (Sc.rounds body n c)
  | 0, _, _, h, _ => h
  | n + 1, b, c, h, hl => rounds_lo body n (round_lo body h hl) (by rw [round_length, round_length]; exact hl)
theorem rounds_length (body : List Sc.Lit) : ∀ (n : Nat) (b : List Bool), (Sc.rounds body n b).length = b.length
  | 0, _ => rfl
  | n + 1, b => by show (Sc.rounds body n (Sc.round body b)).length = _; rw [rounds_length body n, round_length]
/-- What is settled, is all of a safe rule. -/
theorem safe_all {r : Sc.Rule} (hs : Sc.safe r = true) {K : List Bool} (hl : r.vars.toNat ≤ K.length) (hf : Sc.round r.body K = K) (i : Nat) (hi : i < r.vars.toNat) : K.getD i false = true := by
  have h0 : Lo (List.replicate r.vars.toNat false) K := fun j hj => by
    rw [List.getD_eq_getElem?_getD, List.getElem?_replicate] at hj
    split at hj <;> simp at hj
  have h1 := rounds_lo r.body r.body.length h0 (by simpa using hl)
  rw [Sc.rounds_fix _ _ _ hf] at h1
  refine h1 i ?_
  unfold Sc.safe at hs
  have h2 := List.all_eq_true.mp hs
  have h3 : i < (Sc.rounds r.body r.body.length (List.replicate r.vars.toNat false)).length := by rw [rounds_length]; simpa using hi
  rw [List.getD_eq_getElem?_getD, List.getElem?_eq_getElem h3]
  exact h2 _ (List.getElem_mem h3)
/-- What is left of a body: all the others are bound. -/
structure Left (r : Sc.Rule) (K : List Bool) (R : List Sc.Lit) : Prop where
  sub : ∀ l, l ∈ R → l ∈ r.body
  done : ∀ l, l ∈ r.body → l ∈ R ∨ ((l.kind = 1 ∨ l.kind = 4) → Sc.Has K (Sc.out l))
/-- A rule that is right, with facts that are. -/
structure RuleIn (facts : List Rl.Fc) (r : Sc.Rule) : Prop where
  safe : Sc.safe r = true
  v8 : r.vars.toNat ≤ 8
  lit : ∀ l, l ∈ r.body → LitIn r.vars.toNat facts l
theorem termsIn_mono {m n : Nat} {l : List Sc.Term} (h : TermsIn m l) (hmn : m ≤ n) : TermsIn n l := fun t ht => by
  rcases h t ht with h | h
  · exact .inl h
  · exact .inr (Nat.lt_of_lt_of_le h hmn)
theorem LitIn.mono {m n : Nat} {facts : List Rl.Fc} {l : Sc.Lit} (h : LitIn m facts l) (hmn : m ≤ n) : LitIn n facts l := ⟨termsIn_mono h.t hmn, h.k, h.k3, h.k4, h.a⟩
theorem all_known {m : Nat} {K : List Bool} {l : List Sc.Term} (h : TermsIn m l) (hK : ∀ i, i < m → K.getD i false = true) : ∀ t, t ∈ l → Sc.known K t = true := fun t ht => by
  unfold Sc.known
  rcases h t ht with h | h
  · simp [h]
  · simp only [hK _ h, Bool.or_true]
theorem left_ready {facts : List Rl.Fc} {r : Sc.Rule} {w : Way} {R : List Sc.Lit} (hR : RuleIn facts r) (hw : Wf 8 w) (hL : Left r w.known R) (hne : R ≠ []) : ∃ l, l ∈ R ∧ ready w l = true := by
  refine Classical.byContradiction fun hn => ?_
  have hno : ∀ l, l ∈ R → ¬ ready w l = true := fun l hl hr => hn ⟨l, hl, hr⟩
  have hfix : Sc.round r.body w.known = w.known := Sc.round_fix _ _ fun l hl hr => by
    rcases hL.done l hl with h | h
    · refine absurd ?_ (hno l h)
      unfold Sc.ready at hr
      unfold ready
      by_cases h1 : l.kind = 1
      · rw [if_pos h1]
      · rw [if_neg h1]
        simp only [Bool.or_eq_true, Bool.and_eq_true, beq_iff_eq, h1, false_or] at hr
        rw [if_pos hr.1.1, hr.1.2, hr.2]
        rfl
    · refine h ?_
      unfold Sc.ready at hr
      simp only [Bool.or_eq_true, Bool.and_eq_true, beq_iff_eq] at hr
      rcases hr with hr | hr
      · exact .inl hr
      · exact .inr hr.1.1
  have hall := safe_all hR.safe (by rw [hw.k]; exact hR.v8) hfix
  obtain ⟨l, hl⟩ : ∃ l, l ∈ R := by
    cases R with
    | nil => exact absurd rfl hne
    | cons a _ => exact ⟨a, List.mem_cons_self⟩
  have hLi := hR.lit l (hL.sub l hl)
  have hk := all_known hLi.t hall
  refine hno l hl ?_
  unfold ready
  split
  · rfl
  · split
    · rename_i h4
      have h3 := hLi.k4 h4
      rw [hk _ (termD_mem (by omega)), hk _ (termD_mem (by omega))]
      rfl
    · exact List.all_eq_true.mpr hk
theorem left_next {facts : List Rl.Fc} {r : Sc.Rule} {w w' : Way} {R : List Sc.Lit} {i : Nat} (hL : Left r w.known R) (hi : i < R.length) (hr : ready w (Sc.litD R i) = true) (hw' : w' ∈ on facts (Sc.litD R i) w) (hLi : LitIn r.vars.toNat facts (Sc.litD R i)) : Left r w'.known (R.eraseIdx i) := by
  have hk := on_known hLi hr hw'
  refine ⟨fun l hl => hL.sub l (List.mem_of_mem_eraseIdx hl), fun l hl => ?_⟩
  have hle : Sc.Le w.known w'.known := by rw [hk]; exact Sc.bindLit_le _ _
  rcases hL.done l hl with h | h
  · by_cases he : l = Sc.litD R i
    · right
      intro hkd
      rw [he] at hkd ⊢
      rw [hk]
      unfold Sc.bindLit
      rw [Sc.binds_ready, if_pos ?_]
      · exact Sc.has_bindAll _ _
      · unfold Sc.ready
        unfold ready at hr
        rcases hkd with h1 | h4
        · simp [h1]
        · rw [if_neg (by omega), if_pos h4] at hr
          simp only [h4]
          rw [Bool.and_eq_true] at hr
          simp [hr.1, hr.2]
    · left
      obtain ⟨j, hj, hje⟩ := List.mem_iff_getElem.mp h
      rw [List.mem_eraseIdx_iff_getElem]
      refine ⟨j, hj, fun e => he ?_, hje⟩
      subst e
      unfold Sc.litD
      rw [List.getD_eq_getElem?_getD, List.getElem?_eq_getElem hj, hje]
      rfl
  · exact .inr fun hkd => (h hkd).le hle
theorem litD_mem' {R : List Sc.Lit} {i : Nat} (h : i < R.length) : Sc.litD R i ∈ R := by unfold Sc.litD; rw [List.getD_eq_getElem?_getD, List.getElem?_eq_getElem h]; exact List.getElem_mem h
theorem mem_erase {R : List Sc.Lit} {i : Nat} (hi : i < R.length) (P : Sc.Lit → Prop) : (∀ l, l ∈ R → P l) ↔ P (Sc.litD R i) ∧ ∀ l, l ∈ R.eraseIdx i → P l := by
  constructor
  · exact fun h => ⟨h _ (litD_mem' hi), fun l hl => h l (List.mem_of_mem_eraseIdx hl)⟩
  · rintro ⟨h1, h2⟩ l hl
    obtain ⟨j, hj, hje⟩ := List.mem_iff_getElem.mp hl
    by_cases e : j = i
    · subst e
      have : l = Sc.litD R j := by unfold Sc.litD; rw [List.getD_eq_getElem?_getD, List.getElem?_eq_getElem hj, hje]; rfl
      rw [this]; exact h1
    · exact h2 l (by rw [List.mem_eraseIdx_iff_getElem]; exact ⟨j, hj, e, hje⟩)
theorem erase_len {R : List Sc.Lit} {i n : Nat} (hi : i < R.length) (h : R.length = n + 1) : (R.eraseIdx i).length = n := by rw [List.length_eraseIdx, if_pos hi]; omega

section
variable {facts : List Rl.Fc} {r : Sc.Rule}
theorem each_step (hR : RuleIn facts r) {n : Nat} {R : List Sc.Lit} {w : Way} (hl : R.length = n + 1) (hw : Wf 8 w) (hL : Left r w.known R) :
    next facts R w < R.length ∧ ready w (Sc.litD R (next facts R w)) = true ∧ LitIn r.vars.toNat facts (Sc.litD R (next facts R w)) := by
  obtain ⟨h1, h2⟩ := next_ok facts R w (left_ready hR hw hL (fun e => by rw [e] at hl; cases hl))
  exact ⟨h1, h2, hR.lit _ (hL.sub _ (litD_mem' h1))⟩
theorem eachN_ext (hR : RuleIn facts r) (x : List Int) : ∀ (n : Nat) (R : List Sc.Lit) (w : Way), R.length = n → Wf 8 w → Left r w.known R → ((∃ w', w' ∈ eachN facts n R w ∧ Ext w' x) ↔ Ext w x ∧ ∀ l, l ∈ R → holds facts l x = true)
  | 0, R, w, hl, _, _ => by
    have : R = [] := List.length_eq_zero_iff.mp hl
    subst this
    constructor
    · rintro ⟨w', h, he⟩
      rcases List.mem_singleton.mp h with rfl
      exact ⟨he, fun l hl => absurd hl (by simp)⟩
    · rintro ⟨he, _⟩
      exact ⟨w, List.mem_singleton.mpr rfl, he⟩
  | n + 1, R, w, hl, hw, hL => by
    obtain ⟨hi, hr, hLi⟩ := each_step hR hl hw hL
    have hon := on_ext (x := x) hw (hLi.mono hR.v8) hr
    rw [mem_erase hi]
    show (∃ w', w' ∈ (on facts (Sc.litD R (next facts R w)) w).flatMap (eachN facts n (R.eraseIdx (next facts R w))) ∧ Ext w' x) ↔ _
    constructor
    · rintro ⟨w', h, he⟩
      obtain ⟨w1, h1, h2⟩ := List.mem_flatMap.mp h
      obtain ⟨e1, e2⟩ := (eachN_ext hR x n _ w1 (erase_len hi hl) (on_wf hw h1) (left_next hL hi hr h1 hLi)).mp ⟨w', h2, he⟩
      obtain ⟨e3, e4⟩ := hon.mp ⟨w1, h1, e1⟩
      exact ⟨e3, e4, e2⟩
    · rintro ⟨he, e1, e2⟩
      obtain ⟨w1, h1, he1⟩ := hon.mpr ⟨he, e1⟩
      obtain ⟨w', h, he'⟩ := (eachN_ext hR x n _ w1 (erase_len hi hl) (on_wf hw h1) (left_next hL hi hr h1 hLi)).mpr ⟨he1, e2⟩
      exact ⟨w', List.mem_flatMap.mpr ⟨w1, h1, h⟩, he'⟩
theorem eachN_apart (hR : RuleIn facts r) (hn : facts.Nodup) : ∀ (n : Nat) (R : List Sc.Lit) (w : Way), R.length = n → Wf 8 w → Left r w.known R → (eachN facts n R w).Pairwise Apart
  | 0, _, _, _, _, _ => List.pairwise_singleton _ _
  | n + 1, R, w, hl, hw, hL => by
    obtain ⟨hi, hr, hLi⟩ := each_step hR hl hw hL
    show ((on facts (Sc.litD R (next facts R w)) w).flatMap (eachN facts n (R.eraseIdx (next facts R w)))).Pairwise Apart
    rw [List.pairwise_flatMap]
    refine ⟨fun w1 h1 => eachN_apart hR hn n _ w1 (erase_len hi hl) (on_wf hw h1) (left_next hL hi hr h1 hLi), ?_⟩
    refine List.Pairwise.imp_of_mem ?_ (on_apart hw (hLi.mono hR.v8) hn)
    intro a b ha hb hab x hx y hy z hz1 hz2
    have e1 := ((eachN_ext hR z n _ a (erase_len hi hl) (on_wf hw ha) (left_next hL hi hr ha hLi)).mp ⟨x, hx, hz1⟩).1
    have e2 := ((eachN_ext hR z n _ b (erase_len hi hl) (on_wf hw hb) (left_next hL hi hr hb hLi)).mp ⟨y, hy, hz2⟩).1
    exact hab z e1 e2
/-- What stays: lengths; what is known are variables, and numbers. -/
structure Good (m : Nat) (w : Way) : Prop where
  wf : Wf 8 w
  lo : ∀ i, w.known.getD i false = true → i < m
  nm : ∀ i, w.known.getD i false = true → Sc.isNum (w.nums.getD i 0) = true
theorem with1_good {m : Nat} {w w' : Way} {t : Sc.Term} {n : Int} (hg : Good m w) (ht : TermIn m t) (hm : m ≤ 8) (hn : Sc.isNum n = true) (h : with1 w t n = some w') : Good m w' := by
  refine ⟨with1_wf hg.wf h, fun i hi => ?_, fun i hi => ?_⟩ <;> unfold with1 at h <;> split at h
  · split at h
    · injection h with h; subst h; exact hg.lo i hi
    · cases h
  · rename_i hk
    injection h with h; subst h
    by_cases hv : t.var.toNat = i
    · have h0 := (known_in hk).1
      rcases ht with h | h <;> omega
    · refine hg.lo i ?_
      have : (w.known.set t.var.toNat true).getD i false = true := hi
      rwa [getD_set_ne _ _ _ _ _ hv] at this
  · split at h
    · injection h with h; subst h; exact hg.nm i hi
    · cases h
  · rename_i hk
    injection h with h; subst h
    show Sc.isNum ((w.nums.set t.var.toNat n).getD i 0) = true
    by_cases hv : t.var.toNat = i
    · have h0 := (known_in hk).1
      have hlt : t.var.toNat < w.nums.length := by rw [hg.wf.n]; rcases ht with h | h <;> omega
      rw [← hv, getD_set_eq _ _ _ _ hlt]
      exact hn
    · rw [getD_set_ne _ _ _ _ _ hv]
      refine hg.nm i ?_
      have : (w.known.set t.var.toNat true).getD i false = true := hi
      rwa [getD_set_ne _ _ _ _ _ hv] at this
theorem withW_good {m : Nat} (hm : m ≤ 8) : ∀ {ts : List Sc.Term} {ns : List Int} {w w' : Way}, Good m w → TermsIn m ts → (∀ n, n ∈ ns → Sc.isNum n = true) → ts.length = ns.length → withW w ts ns = some w' → Good m w'
  | [], _, _, _, hg, _, _, _, h => by unfold withW at h; injection h with h; subst h; exact hg
  | t :: ts, [], _, _, _, _, _, hl, _ => by cases hl
  | t :: ts, n :: ns, w, w', hg, hT, hN, hl, h => by
    have h' : (match with1 w t n with | none => none | some w1 => withW w1 ts ns) = some w' := h
    cases h1 : with1 w t n with
    | none => rw [h1] at h'; cases h'
    | some w1 =>
      rw [h1] at h'
      exact withW_good hm (with1_good hg (hT t List.mem_cons_self) hm (hN n List.mem_cons_self) h1) (fun t ht => hT t (List.mem_cons_of_mem _ ht)) (fun n hn => hN n (List.mem_cons_of_mem _ hn)) (by simpa using hl) h'
theorem on_good {m : Nat} {l : Sc.Lit} {w w' : Way} (hm : m ≤ 8) (hg : Good m w) (hl : LitIn m facts l) (hN : ∀ f, f ∈ facts → ∀ n, n ∈ f.args → Sc.isNum n = true) (h : w' ∈ on facts l w) : Good m w' := by
  unfold on at h
  split at h
  · rename_i h1
    obtain ⟨f, hf, hfw⟩ := List.mem_filterMap.mp h
    split at hfw
    · rename_i hp
      exact withW_good hm hg hl.t (hN f hf) (hl.a h1 f hf hp) hfw
    · cases hfw
  · split at h
    · split at h
      · cases h
      · rcases List.mem_singleton.mp h with rfl; exact hg
    · split at h
      · split at h
        · rcases List.mem_singleton.mp h with rfl; exact hg
        · cases h
      · split at h
        · cases h
        · rename_i h1 h2 h3 _ w1 hw1
          have h4 : l.kind = 4 := by rcases hl.k with h | h | h | h <;> first | exact h | contradiction
          have hd := drop2_three (hl.k4 h4)
          split at h
          · rename_i hn
            rcases List.mem_singleton.mp h with rfl
            exact withW_good hm hg (fun t ht => hl.t t (List.mem_of_mem_drop ht)) (fun n hn' => by rcases List.mem_singleton.mp hn' with rfl; exact hn) (by rw [hd]; rfl) hw1
          · cases h
theorem eachN_good (hR : RuleIn facts r) (hN : ∀ f, f ∈ facts → ∀ n, n ∈ f.args → Sc.isNum n = true) : ∀ (n : Nat) (R : List Sc.Lit) (w w' : Way), R.length = n → Good r.vars.toNat w → Left r w.known R → w' ∈ eachN facts n R w → Good r.vars.toNat w' ∧ Left r w'.known []
  | 0, R, w, w', hl, hg, hL, h => by
    have : R = [] := List.length_eq_zero_iff.mp hl
    subst this
    rcases List.mem_singleton.mp h with rfl
    exact ⟨hg, hL⟩
  | n + 1, R, w, w', hl, hg, hL, h => by
    obtain ⟨hi, hr, hLi⟩ := each_step hR hl hg.wf hL
    have h' : w' ∈ (on facts (Sc.litD R (next facts R w)) w).flatMap (eachN facts n (R.eraseIdx (next facts R w))) := h
    obtain ⟨w1, h1, h2⟩ := List.mem_flatMap.mp h'
    exact eachN_good hR hN n _ w1 w' (erase_len hi hl) (on_good hR.v8 hg hLi hN h1) (left_next hL hi hr h1 hLi) h2
theorem left_all (hR : RuleIn facts r) {w : Way} (hg : Good r.vars.toNat w) (hL : Left r w.known []) (i : Nat) (hi : i < r.vars.toNat) : w.known.getD i false = true := by
  refine safe_all hR.safe (by rw [hg.wf.k]; exact hR.v8) (Sc.round_fix _ _ fun l hl hr => ?_) i hi
  rcases hL.done l hl with h | h
  · exact absurd h (by simp)
  · refine h ?_
    unfold Sc.ready at hr
    simp only [Bool.or_eq_true, Bool.and_eq_true, beq_iff_eq] at hr
    rcases hr with hr | hr
    · exact .inl hr
    · exact .inr hr.1.1
end

/-! ### The ways -/
def way0 : Way := ⟨List.replicate 8 0, List.replicate 8 false⟩
def ways (facts : List Rl.Fc) (r : Sc.Rule) : List (List Int) := (each facts r.body way0).map fun w => w.nums.take r.vars.toNat
/-- Numbers with which all holds. -/
def Sol (facts : List Rl.Fc) (r : Sc.Rule) (x : List Int) : Prop := x.length = r.vars.toNat ∧ ∀ l, l ∈ r.body → holds facts l x = true
theorem way0_known (i : Nat) : way0.known.getD i false = false := by
  show (List.replicate 8 false).getD i false = false
  rw [List.getD_eq_getElem?_getD, List.getElem?_replicate]
  split <;> rfl
theorem way0_good (m : Nat) : Good m way0 := ⟨⟨rfl, rfl⟩, fun i hi => (by rw [way0_known] at hi; cases hi), fun i hi => (by rw [way0_known] at hi; cases hi)⟩
theorem way0_ext (x : List Int) : Ext way0 x := fun i hi => by rw [way0_known] at hi; cases hi
theorem way0_left (r : Sc.Rule) : Left r way0.known r.body := ⟨fun _ h => h, fun _ h => .inl h⟩
theorem getD_take {x : List Int} {m i : Nat} (h : i < m) : (x.take m).getD i 0 = x.getD i 0 := by
  rw [List.getD_eq_getElem?_getD, List.getElem?_take_of_lt h, List.getD_eq_getElem?_getD]
theorem ext_take {m : Nat} {w : Way} (hg : Good m w) : Ext w (w.nums.take m) := fun i hi => by rw [getD_take (hg.lo i hi)]
theorem take_ext {m : Nat} {w : Way} {x : List Int} (hg : Good m w) (hm : m ≤ 8) (hk : ∀ i, i < m → w.known.getD i false = true) (hx : x.length = m) (he : Ext w x) : w.nums.take m = x := by
  have hl : (w.nums.take m).length = m := by rw [List.length_take, hg.wf.n]; omega
  refine List.ext_getElem (by rw [hl, hx]) fun i h1 h2 => ?_
  have h3 : i < m := by rw [← hx]; exact h2
  have h4 := he i (hk i h3)
  rw [← getD_take (m := m) h3] at h4
  rw [List.getD_eq_getElem?_getD, List.getElem?_eq_getElem h1, List.getD_eq_getElem?_getD, List.getElem?_eq_getElem h2] at h4
  exact h4
theorem num_take {m : Nat} {x : List Int} {t : Sc.Term} (h : TermIn m t) : num (x.take m) t = num x t := by
  unfold num
  split
  · rfl
  · rename_i h0
    rcases h with h | h
    · exact absurd h h0
    · exact getD_take h
section
variable {facts : List Rl.Fc} {r : Sc.Rule}
theorem mem_ways (hR : RuleIn facts r) (hN : ∀ f, f ∈ facts → ∀ n, n ∈ f.args → Sc.isNum n = true) (x : List Int) : x ∈ ways facts r ↔ Sol facts r x := by
  unfold ways
  rw [List.mem_map]
  constructor
  · rintro ⟨w, hw, rfl⟩
    obtain ⟨hg, hL⟩ := eachN_good hR hN _ _ _ w rfl (way0_good _) (way0_left r) hw
    obtain ⟨_, h⟩ := (eachN_ext hR (w.nums.take r.vars.toNat) _ _ _ rfl (way0_good 8).wf (way0_left r)).mp ⟨w, hw, ext_take hg⟩
    refine ⟨?_, h⟩
    rw [List.length_take, hg.wf.n]
    have := hR.v8
    omega
  · rintro ⟨hx, h⟩
    obtain ⟨w, hw, he⟩ := (eachN_ext hR x _ _ _ rfl (way0_good 8).wf (way0_left r)).mpr ⟨way0_ext x, h⟩
    obtain ⟨hg, hL⟩ := eachN_good hR hN _ _ _ w rfl (way0_good _) (way0_left r) hw
    exact ⟨w, hw, take_ext hg hR.v8 (left_all hR hg hL) hx he⟩
theorem ways_nodup (hR : RuleIn facts r) (hN : ∀ f, f ∈ facts → ∀ n, n ∈ f.args → Sc.isNum n = true) (hn : facts.Nodup) : (ways facts r).Nodup := by
  unfold ways List.Nodup
  rw [List.pairwise_map]
  refine List.Pairwise.imp_of_mem ?_ (eachN_apart hR hn _ _ _ rfl (way0_good 8).wf (way0_left r))
  intro a b ha hb hab e
  obtain ⟨hga, _⟩ := eachN_good hR hN _ _ _ a rfl (way0_good _) (way0_left r) ha
  obtain ⟨hgb, _⟩ := eachN_good hR hN _ _ _ b rfl (way0_good _) (way0_left r) hb
  exact hab (a.nums.take r.vars.toNat) (ext_take hga) (by rw [e]; exact ext_take hgb)
theorem sol_nums (hR : RuleIn facts r) (hN : ∀ f, f ∈ facts → ∀ n, n ∈ f.args → Sc.isNum n = true) {x : List Int} (h : Sol facts r x) : ∀ n, n ∈ x → Sc.isNum n = true := by
  obtain ⟨w, hw, rfl⟩ := List.mem_map.mp ((mem_ways hR hN x).mpr h)
  obtain ⟨hg, hL⟩ := eachN_good hR hN _ _ _ w rfl (way0_good _) (way0_left r) hw
  intro n hn
  obtain ⟨i, hi, rfl⟩ := List.mem_iff_getElem.mp hn
  have hi' : i < r.vars.toNat := by rw [List.length_take] at hi; omega
  have := hg.nm i (left_all hR hg hL i hi')
  rw [← getD_take hi', List.getD_eq_getElem?_getD, List.getElem?_eq_getElem hi] at this
  exact this
end
end Ru
end Go.Proofs.YthenjegmigeieaaGreat

/- The document's way to all ways: it reckons what can be, looks what is wrong, and goes through facts; the same ways, each once. -/
namespace Go.Proofs.YthenjegmigeieaaGreat
namespace Ru

def reck1 (w : Way) (l : Sc.Lit) : Option Way :=
  if l.kind = 4 ∧ (l.terms.take 2).all (Sc.known w.known) = true ∧ ¬ (l.terms.drop 2).all (Sc.known w.known) = true then
    (if Sc.isNum (calc3 l w.nums) = true then some ⟨w.nums.set (Sc.termD l.terms 2).var.toNat (calc3 l w.nums), w.known.set (Sc.termD l.terms 2).var.toNat true⟩ else none)
  else some w
def reckR : List Sc.Lit → Way → Option Way
  | [], w => some w
  | l :: r, w => match reck1 w l with
    | none => none
    | some w' => reckR r w'
def reckN (body : List Sc.Lit) : Nat → Way → Option Way
  | 0, w => some w
  | n + 1, w => match reckR body w with
    | none => none
    | some w' => reckN body n w'
def wrong (facts : List Rl.Fc) (body : List Sc.Lit) (w : Way) : Bool := body.any fun l => l.terms.all (Sc.known w.known) && !holds facts l w.nums
/-- The next literal of facts. -/
def skip : List Sc.Lit → Nat → Nat
  | [], i => i
  | l :: r, i => if l.kind = 1 then i else skip r (i + 1)
def skipTo (body : List Sc.Lit) (i : Nat) : Nat := skip (body.drop i) i
def fromN (facts : List Rl.Fc) (body : List Sc.Lit) : Nat → Nat → Way → List (List Int)
  | 0, _, _ => []
  | k + 1, i, w => match reckN body (body.length + 1) w with
    | none => []
    | some w1 => if wrong facts body w1 = true then [] else
      if skipTo body i < body.length then
        facts.flatMap fun f => if f.pred = (Sc.litD body (skipTo body i)).pred then
          (match withW w1 (Sc.litD body (skipTo body i)).terms f.args with
            | none => []
            | some w2 => fromN facts body k (skipTo body i + 1) w2) else []
      else [w1.nums]

theorem take2_all {l : List Sc.Term} {K : List Bool} (h : l.length = 3) : (l.take 2).all (Sc.known K) = (Sc.known K (Sc.termD l 0) && Sc.known K (Sc.termD l 1)) := by
  match l, h with
  | [a, b, c], _ => simp [Sc.termD]
theorem drop2_all {l : List Sc.Term} {K : List Bool} (h : l.length = 3) : (l.drop 2).all (Sc.known K) = Sc.known K (Sc.termD l 2) := by
  match l, h with
  | [a, b, c], _ => simp [Sc.termD]
section
variable {m : Nat} {facts : List Rl.Fc}
theorem reck1_wf {w w' : Way} {l : Sc.Lit} (hw : Wf m w) (h : reck1 w l = some w') : Wf m w' := by
  unfold reck1 at h
  split at h
  · split at h
    · injection h with h; subst h
      exact ⟨by simpa using hw.n, by simpa using hw.k⟩
    · cases h
  · injection h with h; subst h; exact hw
theorem reck1_known {w w' : Way} {l : Sc.Lit} (hl : LitIn m facts l) (h : reck1 w l = some w') : w'.known = if l.kind = 4 then Sc.bindLit w.known l else w.known := by
  unfold reck1 at h
  by_cases h4 : l.kind = 4
  · rw [take2_all (hl.k4 h4), drop2_all (hl.k4 h4)] at h
    simp only [Bool.and_eq_true] at h
    rw [if_pos h4]
    unfold Sc.bindLit Sc.binds
    rw [if_neg (by omega)]
    by_cases hr : Sc.known w.known (Sc.termD l.terms 0) = true ∧ Sc.known w.known (Sc.termD l.terms 1) = true
    · rw [if_pos ⟨h4, hr.1, hr.2⟩, drop2_three (hl.k4 h4)]
      show _ = Sc.bind1 w.known _
      by_cases hk : Sc.known w.known (Sc.termD l.terms 2) = true
      · rw [if_neg (fun hc => hc.2.2 hk)] at h
        injection h with h; subst h
        symm
        refine Sc.bind1_has fun h0 _ => ?_
        unfold Sc.known at hk
        simpa [show ¬ (Sc.termD l.terms 2).var < 0 by omega] using hk
      · rw [if_pos ⟨h4, hr, hk⟩] at h
        split at h
        · injection h with h; subst h
          unfold Sc.bind1
          rw [if_pos (known_in hk).1]
        · cases h
    · rw [if_neg (fun hc => hr hc.2)]
      rw [if_neg (fun hc => hr hc.2.1)] at h
      injection h with h; subst h
      rfl
  · rw [if_neg (fun hc => h4 hc.1)] at h
    injection h with h; subst h
    rw [if_neg h4]
theorem reck1_back {w w' : Way} {l : Sc.Lit} {x : List Int} (hl : LitIn m facts l) (h : reck1 w l = some w') (he : Ext w' x) : Ext w x := by
  unfold reck1 at h
  split at h
  · rename_i hc
    rw [drop2_all (hl.k4 hc.1)] at hc
    split at h
    · injection h with h; subst h
      obtain ⟨h0, hf⟩ := known_in hc.2.2
      intro i hi
      by_cases hv : (Sc.termD l.terms 2).var.toNat = i
      · subst hv; rw [hf] at hi; cases hi
      · have := he i (by show (w.known.set _ true).getD i false = true; rw [getD_set_ne _ _ _ _ _ hv]; exact hi)
        rw [← this]
        show _ = (w.nums.set _ _).getD i 0
        rw [getD_set_ne _ _ _ _ _ hv]
    · cases h
  · injection h with h; subst h; exact he
theorem reck1_on {w : Way} {l : Sc.Lit} {x : List Int} (hw : Wf m w) (hl : LitIn m facts l) (he : Ext w x) (hh : holds facts l x = true) : ∃ w', reck1 w l = some w' ∧ Ext w' x := by
  unfold reck1
  split
  · rename_i hc
    have h4 := hc.1
    rw [take2_all (hl.k4 h4), drop2_all (hl.k4 h4), Bool.and_eq_true] at hc
    unfold holds at hh
    rw [if_neg (by omega), if_neg (by omega), if_neg (by omega), Bool.and_eq_true, decide_eq_true_eq] at hh
    have hcal : calc3 l w.nums = calc3 l x := by unfold calc3; rw [num_known he hc.2.1.1, num_known he hc.2.1.2]
    rw [if_pos (by rw [hcal]; exact hh.1)]
    refine ⟨_, rfl, fun i hi => ?_⟩
    obtain ⟨h0, hf⟩ := known_in hc.2.2
    have hv3 : (Sc.termD l.terms 2).var.toNat < m := by
      rcases hl.t _ (termD_mem (i := 2) (by rw [hl.k4 h4]; omega)) with h | h
      · omega
      · exact h
    by_cases hv : (Sc.termD l.terms 2).var.toNat = i
    · subst hv
      show (w.nums.set _ _).getD _ 0 = _
      rw [getD_set_eq _ _ _ _ (by rw [hw.n]; exact hv3), hcal, hh.2]
      unfold num
      rw [if_neg (by omega)]
    · show (w.nums.set _ _).getD i 0 = _
      rw [getD_set_ne _ _ _ _ _ hv]
      refine he i ?_
      have : (w.known.set _ true).getD i false = true := hi
      rwa [getD_set_ne _ _ _ _ _ hv] at this
  · exact ⟨w, rfl, he⟩
theorem reckR_wf : ∀ {body : List Sc.Lit} {w w' : Way}, Wf m w → reckR body w = some w' → Wf m w'
  | [], _, _, hw, h => by unfold reckR at h; injection h with h; subst h; exact hw
  | l :: r, w, w', hw, h => by
    unfold reckR at h
    cases h1 : reck1 w l with
    | none => rw [h1] at h; cases h
    | some w1 => rw [h1] at h; exact reckR_wf (reck1_wf hw h1) h
def calcs (body : List Sc.Lit) : List Sc.Lit := body.filter fun l => decide (l.kind = 4)
theorem reckR_known : ∀ {body : List Sc.Lit} {w w' : Way}, (∀ l, l ∈ body → LitIn m facts l) → reckR body w = some w' → w'.known = Sc.round (calcs body) w.known
  | [], _, _, _, h => by unfold reckR at h; injection h with h; subst h; rfl
  | l :: r, w, w', hB, h => by
    unfold reckR at h
    cases h1 : reck1 w l with
    | none => rw [h1] at h; cases h
    | some w1 =>
      rw [h1] at h
      rw [reckR_known (fun l hl => hB l (List.mem_cons_of_mem _ hl)) h, reck1_known (hB l List.mem_cons_self) h1]
      unfold calcs
      rw [List.filter_cons]
      by_cases h4 : l.kind = 4
      · rw [if_pos h4, if_pos (decide_eq_true h4)]
        rfl
      · rw [if_neg h4, if_neg (by simpa using h4)]
theorem reckR_back {x : List Int} : ∀ {body : List Sc.Lit} {w w' : Way}, (∀ l, l ∈ body → LitIn m facts l) → reckR body w = some w' → Ext w' x → Ext w x
  | [], _, _, _, h, he => by unfold reckR at h; injection h with h; subst h; exact he
  | l :: r, w, w', hB, h, he => by
    unfold reckR at h
    cases h1 : reck1 w l with
    | none => rw [h1] at h; cases h
    | some w1 =>
      rw [h1] at h
      exact reck1_back (hB l List.mem_cons_self) h1 (reckR_back (fun l hl => hB l (List.mem_cons_of_mem _ hl)) h he)
theorem reckR_on {x : List Int} : ∀ {body : List Sc.Lit} {w : Way}, Wf m w → (∀ l, l ∈ body → LitIn m facts l) → Ext w x → (∀ l, l ∈ body → holds facts l x = true) → ∃ w', reckR body w = some w' ∧ Ext w' x
  | [], w, _, _, he, _ => ⟨w, rfl, he⟩
  | l :: r, w, hw, hB, he, hh => by
    obtain ⟨w1, h1, he1⟩ := reck1_on hw (hB l List.mem_cons_self) he (hh l List.mem_cons_self)
    obtain ⟨w2, h2, he2⟩ := reckR_on (reck1_wf hw h1) (fun l hl => hB l (List.mem_cons_of_mem _ hl)) he1 (fun l hl => hh l (List.mem_cons_of_mem _ hl))
    refine ⟨w2, ?_, he2⟩
    unfold reckR
    rw [h1]
    exact h2
theorem reckN_wf {body : List Sc.Lit} : ∀ {n : Nat} {w w' : Way}, Wf m w → reckN body n w = some w' → Wf m w'
  | 0, _, _, hw, h => by unfold reckN at h; injection h with h; subst h; exact hw
  | n + 1, w, w', hw, h => by
    unfold reckN at h
    cases h1 : reckR body w with
    | none => rw [h1] at h; cases h
    | some w1 => rw [h1] at h; exact reckN_wf (reckR_wf hw h1) h
theorem reckN_known {body : List Sc.Lit} (hB : ∀ l, l ∈ body → LitIn m facts l) : ∀ {n : Nat} {w w' : Way}, reckN body n w = some w' → w'.known = Sc.rounds (calcs body) n w.known
  | 0, _, _, h => by unfold reckN at h; injection h with h; subst h; rfl
  | n + 1, w, w', h => by
    unfold reckN at h
    cases h1 : reckR body w with
    | none => rw [h1] at h; cases h
    | some w1 => rw [h1] at h; rw [reckN_known hB h, reckR_known hB h1]; rfl
theorem reckN_back {x : List Int} {body : List Sc.Lit} (hB : ∀ l, l ∈ body → LitIn m facts l) : ∀ {n : Nat} {w w' : Way}, reckN body n w = some w' → Ext w' x → Ext w x
  | 0, _, _, h, he => by unfold reckN at h; injection h with h; subst h; exact he
  | n + 1, w, w', h, he => by
    unfold reckN at h
    cases h1 : reckR body w with
    | none => rw [h1] at h; cases h
    | some w1 => rw [h1] at h; exact reckR_back hB h1 (reckN_back hB h he)
theorem reckN_on {x : List Int} {body : List Sc.Lit} (hB : ∀ l, l ∈ body → LitIn m facts l) (hh : ∀ l, l ∈ body → holds facts l x = true) : ∀ {n : Nat} {w : Way}, Wf m w → Ext w x → ∃ w', reckN body n w = some w' ∧ Ext w' x
  | 0, w, _, he => ⟨w, rfl, he⟩
  | n + 1, w, hw, he => by
    obtain ⟨w1, h1, he1⟩ := reckR_on hw hB he hh
    obtain ⟨w2, h2, he2⟩ := reckN_on hB hh (n := n) (reckR_wf hw h1) he1
    refine ⟨w2, ?_, he2⟩
    unfold reckN
    rw [h1]
    exact h2
end
theorem rounds_succ (body : List Sc.Lit) : ∀ (n : Nat) (b : List Bool), Sc.rounds body (n + 1) b = Sc.round body (Sc.rounds body n b)
  | 0, _ => rfl
  | n + 1, b => by show Sc.rounds body (n + 1) (Sc.round body b) = _; rw [rounds_succ body n]; rfl
theorem rounds_settled (body : List Sc.Lit) (b : List Bool) {n : Nat} (h : body.length ≤ n) : Sc.round body (Sc.rounds body n b) = Sc.rounds body n b := by
  have h1 : Sc.round body (Sc.rounds body body.length b) = Sc.rounds body body.length b := by rw [← rounds_succ]; exact Sc.rounds_enough body b
  obtain ⟨k, rfl⟩ : ∃ k, n = body.length + k := ⟨n - body.length, by omega⟩
  clear h
  induction k with
  | zero => exact h1
  | succ k ih =>
    rw [← Nat.add_assoc, rounds_succ, ih]
    exact ih
theorem reck_closed {m : Nat} {facts : List Rl.Fc} {body : List Sc.Lit} (hB : ∀ l, l ∈ body → LitIn m facts l) {w w' : Way} (h : reckN body (body.length + 1) w = some w') (l : Sc.Lit) (hl : l ∈ body) (h4 : l.kind = 4) (hr : Sc.ready w'.known l = true) : Sc.Has w'.known (Sc.out l) := by
  have hk := reckN_known hB h
  have hs : Sc.round (calcs body) w'.known = w'.known := by
    rw [hk]
    exact rounds_settled _ _ (Nat.le_trans (List.length_filter_le _ _) (Nat.le_succ _))
  rw [← hs]
  exact Sc.round_has _ _ l (List.mem_filter.mpr ⟨hl, by simpa using h4⟩) hr
/-! ### skip -/
theorem skip_ge : ∀ (l : List Sc.Lit) (i : Nat), i ≤ skip l i ∧ skip l i ≤ i + l.length
  | [], i => ⟨Nat.le_refl _, Nat.le_refl _⟩
  | x :: l, i => by
    unfold skip
    split
    · exact ⟨Nat.le_refl _, by simp⟩
    · have := skip_ge l (i + 1)
      simp only [List.length_cons]
      omega
theorem skip_between : ∀ (l : List Sc.Lit) (i j : Nat), i ≤ j → j < skip l i → ¬ (Sc.litD l (j - i)).kind = 1
  | [], i, j, h1, h2 => by unfold skip at h2; omega
  | x :: l, i, j, h1, h2 => by
    unfold skip at h2
    split at h2
    · omega
    · rename_i hx
      by_cases e : j = i
      · subst e; rw [Nat.sub_self]; exact hx
      · have := skip_between l (i + 1) j (by omega) h2
        rw [show j - i = (j - (i + 1)) + 1 by omega]
        exact this
theorem skip_at : ∀ (l : List Sc.Lit) (i : Nat), skip l i < i + l.length → (Sc.litD l (skip l i - i)).kind = 1
  | [], i, h => by unfold skip at h; simp at h
  | x :: l, i, h => by
    unfold skip at h ⊢
    split
    · rename_i hx; rw [Nat.sub_self]; exact hx
    · rename_i hx
      rw [if_neg hx] at h
      have := skip_at l (i + 1) (by simp only [List.length_cons] at h; omega)
      have hg := (skip_ge l (i + 1)).1
      rw [show skip l (i + 1) - i = (skip l (i + 1) - (i + 1)) + 1 by omega]
      exact this
theorem litD_drop (l : List Sc.Lit) (i j : Nat) : Sc.litD (l.drop i) j = Sc.litD l (i + j) := by
  unfold Sc.litD
  rw [List.getD_eq_getElem?_getD, List.getElem?_drop, List.getD_eq_getElem?_getD]
theorem skipTo_ge (body : List Sc.Lit) (i : Nat) (h : i ≤ body.length) : i ≤ skipTo body i ∧ skipTo body i ≤ body.length := by
  have := skip_ge (body.drop i) i
  rw [List.length_drop] at this
  unfold skipTo
  omega
theorem skipTo_between (body : List Sc.Lit) {i j : Nat} (h1 : i ≤ j) (h2 : j < skipTo body i) : ¬ (Sc.litD body j).kind = 1 := by
  have := skip_between (body.drop i) i j h1 h2
  rw [litD_drop, show i + (j - i) = j by omega] at this
  exact this
theorem skipTo_at (body : List Sc.Lit) {i : Nat} (hi : i ≤ body.length) (h : skipTo body i < body.length) : (Sc.litD body (skipTo body i)).kind = 1 := by
  have hg := (skipTo_ge body i hi).1
  have := skip_at (body.drop i) i (by rw [List.length_drop]; unfold skipTo at h; omega)
  rw [litD_drop] at this
  unfold skipTo at hg ⊢
  rwa [show i + (skip (body.drop i) i - i) = skip (body.drop i) i by omega] at this

/-! ### The same ways -/
section
variable {facts : List Rl.Fc} {r : Sc.Rule}
/-- Literals of facts ahead of i are bound. -/
def Done (body : List Sc.Lit) (i : Nat) (K : List Bool) : Prop := ∀ j, j < i → (Sc.litD body j).kind = 1 → Sc.Has K (Sc.litD body j).terms
theorem wrong_no {body : List Sc.Lit} {w : Way} {x : List Int} (hB : ∀ l, l ∈ body → LitIn r.vars.toNat facts l) (he : Ext w x) (hh : ∀ l, l ∈ body → holds facts l x = true) : wrong facts body w = false := by
  unfold wrong
  rw [List.any_eq_false]
  intro l hl
  rw [Bool.and_eq_true, not_and]
  intro ha
  have hk := List.all_eq_true.mp ha
  have hLi := hB l hl
  have h1 := hh l hl
  have : holds facts l w.nums = holds facts l x := by
    unfold holds
    rw [fill_known he ha]
    by_cases h3 : l.kind = 3
    · have e0 := num_known he (hk _ (termD_mem (i := 0) (by rw [hLi.k3 h3]; omega)))
      have e1 := num_known he (hk _ (termD_mem (i := 1) (by rw [hLi.k3 h3]; omega)))
      rw [e0, e1]
      simp [h3]
    · by_cases h4 : l.kind = 4
      · have e0 := num_known he (hk _ (termD_mem (i := 0) (by rw [hLi.k4 h4]; omega)))
        have e1 := num_known he (hk _ (termD_mem (i := 1) (by rw [hLi.k4 h4]; omega)))
        have e2 := num_known he (hk _ (termD_mem (i := 2) (by rw [hLi.k4 h4]; omega)))
        unfold calc3
        rw [e0, e1, e2]
      · rcases hLi.k with h | h | h | h
        · simp [h]
        · simp [h]
        · exact absurd h h3
        · exact absurd h h4
  rw [this, h1]
  simp
theorem leaf_known (hR : RuleIn facts r) {w w1 : Way} {i : Nat} (hw : Wf r.vars.toNat w) (hD : Done r.body i w.known) (h : reckN r.body (r.body.length + 1) w = some w1) (hs : ¬ skipTo r.body i < r.body.length) (j : Nat) (hj : j < r.vars.toNat) : w1.known.getD j false = true := by
  have hw1 := reckN_wf hw h
  have hle : Sc.Le w.known w1.known := by
    rw [reckN_known hR.lit h]
    clear h hs
    generalize r.body.length + 1 = n
    generalize w.known = K
    induction n generalizing K with
    | zero => exact Sc.Le.refl K
    | succ n ih => exact (Sc.round_le _ K).trans (ih _)
  refine safe_all hR.safe (by rw [hw1.k]; exact Nat.le_refl _) (Sc.round_fix _ _ fun l hl hr => ?_) j hj
  by_cases h4 : l.kind = 4
  · exact reck_closed hR.lit h l hl h4 hr
  · have h1 : l.kind = 1 := by
      unfold Sc.ready at hr
      simp only [Bool.or_eq_true, Bool.and_eq_true, beq_iff_eq] at hr
      rcases hr with hr | hr
      · exact hr
      · exact absurd hr.1.1 h4
    obtain ⟨q, hq, hqe⟩ := List.mem_iff_getElem.mp hl
    have hq2 : Sc.litD r.body q = l := by unfold Sc.litD; rw [List.getD_eq_getElem?_getD, List.getElem?_eq_getElem hq, hqe]; rfl
    unfold Sc.out
    rw [if_pos h1, ← hq2]
    refine (hD q ?_ (by rw [hq2]; exact h1)).le hle
    rcases Nat.lt_or_ge q i with hqi | hqi
    · exact hqi
    · refine absurd h1 ?_
      rw [← hq2]
      exact skipTo_between r.body hqi (by omega)
theorem done_next {w2 : Way} {w1 : Way} {i : Nat} {ns : List Int} (hD : Done r.body i w1.known) (hw2 : withW w1 (Sc.litD r.body (skipTo r.body i)).terms ns = some w2) : Done r.body (skipTo r.body i + 1) w2.known := by
  have hk := withW_known hw2
  intro j hj h1
  by_cases e : j = skipTo r.body i
  · rw [hk, e]
    exact Sc.has_bindAll _ _
  · rcases Nat.lt_or_ge j i with hji | hji
    · exact (hD j hji h1).le (by rw [hk]; exact Sc.bindAll_le _ _)
    · exact absurd h1 (skipTo_between r.body hji (by omega))
theorem fromN_mem (hR : RuleIn facts r) (x : List Int) : ∀ (k i : Nat) (w : Way), i ≤ r.body.length → r.body.length < i + k → Wf r.vars.toNat w → Done r.body i w.known → (x ∈ fromN facts r.body k i w ↔ Ext w x ∧ Sol facts r x)
  | 0, i, w, h1, h2, _, _ => by omega
  | k + 1, i, w, hi, hk, hw, hD => by
    unfold fromN
    cases h1 : reckN r.body (r.body.length + 1) w with
    | none =>
      constructor
      · intro h; cases h
      · rintro ⟨he, hs⟩
        obtain ⟨w1, h, _⟩ := reckN_on hR.lit hs.2 hw he
        rw [h1] at h; cases h
    | some w1 =>
      have hw1 := reckN_wf hw h1
      have hback : Ext w1 x → Ext w x := reckN_back hR.lit h1
      have hon : Ext w x → Sol facts r x → Ext w1 x := fun he hs => by
        obtain ⟨w1', h, he'⟩ := reckN_on (n := r.body.length + 1) hR.lit hs.2 hw he
        rw [h1] at h; injection h with h; subst h; exact he'
      have hD1 : Done r.body i w1.known := fun j hj hk1 => (hD j hj hk1).le (by
        rw [reckN_known hR.lit h1]
        generalize r.body.length + 1 = n
        generalize w.known = K
        induction n generalizing K with
        | zero => exact Sc.Le.refl K
        | succ n ih => exact (Sc.round_le _ K).trans (ih _))
      show x ∈ (if wrong facts r.body w1 = true then [] else _) ↔ _
      by_cases hwr : wrong facts r.body w1 = true
      · rw [if_pos hwr]
        constructor
        · intro h; cases h
        · rintro ⟨he, hs⟩
          rw [wrong_no hR.lit (hon he hs) hs.2] at hwr
          cases hwr
      · rw [if_neg hwr]
        obtain ⟨hg1, hg2⟩ := skipTo_ge r.body i hi
        by_cases hsk : skipTo r.body i < r.body.length
        · rw [if_pos hsk]
          have hk1 := skipTo_at r.body hi hsk
          have hLi := hR.lit _ (litD_mem' hsk)
          rw [List.mem_flatMap]
          constructor
          · rintro ⟨f, hf, hx⟩
            split at hx
            · rename_i hp
              split at hx
              · cases hx
              · rename_i w2 hw2
                obtain ⟨he2, hs⟩ := (fromN_mem hR x k (skipTo r.body i + 1) w2 (by omega) (by omega) (withW_wf hw1 hw2) (done_next hD1 hw2)).mp hx
                exact ⟨hback ((withW_ext hw1 hLi.t (hLi.a hk1 f hf hp)).mp ⟨w2, hw2, he2⟩).1, hs⟩
            · cases hx
          · rintro ⟨he, hs⟩
            have hh := hs.2 _ (litD_mem' hsk)
            unfold holds at hh
            rw [if_pos hk1, Rl.has_iff] at hh
            obtain ⟨w2, hw2, he2⟩ := (withW_ext (ns := fill (Sc.litD r.body (skipTo r.body i)).terms x) (x := x) hw1 hLi.t (by unfold fill; simp)).mpr ⟨hon he hs, rfl⟩
            refine ⟨_, hh, ?_⟩
            rw [if_pos rfl]
            show x ∈ match withW w1 (Sc.litD r.body (skipTo r.body i)).terms (fill (Sc.litD r.body (skipTo r.body i)).terms x) with | none => [] | some w2 => fromN facts r.body k (skipTo r.body i + 1) w2
            rw [hw2]
            exact (fromN_mem hR x k (skipTo r.body i + 1) w2 (by omega) (by omega) (withW_wf hw1 hw2) (done_next hD1 hw2)).mpr ⟨he2, hs⟩
        · rw [if_neg hsk, List.mem_singleton]
          have hall := leaf_known hR hw hD h1 hsk
          constructor
          · rintro rfl
            have he1 : Ext w1 w1.nums := fun _ _ => rfl
            refine ⟨hback he1, hw1.n, fun l hl => ?_⟩
            refine Classical.byContradiction fun hn => hwr ?_
            unfold wrong
            rw [List.any_eq_true]
            refine ⟨l, hl, ?_⟩
            rw [Bool.and_eq_true]
            exact ⟨List.all_eq_true.mpr (all_known (hR.lit l hl).t hall), by simpa using hn⟩
          · rintro ⟨he, hs⟩
            have he1 := hon he hs
            refine List.ext_getElem (by rw [hs.1, hw1.n]) fun j h3 h4 => ?_
            have := he1 j (hall j (by rw [← hs.1]; exact h3))
            rw [List.getD_eq_getElem?_getD, List.getElem?_eq_getElem h4, List.getD_eq_getElem?_getD, List.getElem?_eq_getElem h3] at this
            exact this.symm
theorem fromN_nodup (hR : RuleIn facts r) (hn : facts.Nodup) : ∀ (k i : Nat) (w : Way), i ≤ r.body.length → r.body.length < i + k → Wf r.vars.toNat w → Done r.body i w.known → (fromN facts r.body k i w).Nodup
  | 0, i, w, h1, h2, _, _ => by omega
  | k + 1, i, w, hi, hk, hw, hD => by
    unfold fromN
    cases h1 : reckN r.body (r.body.length + 1) w with
    | none => exact List.Pairwise.nil
    | some w1 =>
      have hw1 := reckN_wf hw h1
      have hD1 : Done r.body i w1.known := fun j hj hk1 => (hD j hj hk1).le (by
        rw [reckN_known hR.lit h1]
        generalize r.body.length + 1 = n
        generalize w.known = K
        induction n generalizing K with
        | zero => exact Sc.Le.refl K
        | succ n ih => exact (Sc.round_le _ K).trans (ih _))
      show (if wrong facts r.body w1 = true then [] else _ : List (List Int)).Nodup
      split
      · exact List.Pairwise.nil
      · obtain ⟨hg1, hg2⟩ := skipTo_ge r.body i hi
        split
        · rename_i hsk
          have hk1 := skipTo_at r.body hi hsk
          have hLi := hR.lit _ (litD_mem' hsk)
          unfold List.Nodup
          rw [List.pairwise_flatMap]
          refine ⟨fun f hf => ?_, List.Pairwise.imp_of_mem ?_ hn⟩
          · split
            · split
              · exact List.Pairwise.nil
              · rename_i w2 hw2
                exact fromN_nodup hR hn k _ w2 (by omega) (by omega) (withW_wf hw1 hw2) (done_next hD1 hw2)
            · exact List.Pairwise.nil
          · intro f g hf hg hfg a ha b hb e
            subst e
            split at ha
            · rename_i hp
              split at ha
              · cases ha
              · rename_i w2 hw2
                split at hb
                · rename_i hq
                  split at hb
                  · cases hb
                  · rename_i w3 hw3
                    have e1 := ((fromN_mem hR a k (skipTo r.body i + 1) w2 (by omega) (by omega) (withW_wf hw1 hw2) (done_next hD1 hw2)).mp ha).1
                    have e2 := ((fromN_mem hR a k (skipTo r.body i + 1) w3 (by omega) (by omega) (withW_wf hw1 hw3) (done_next hD1 hw3)).mp hb).1
                    have f1 := ((withW_ext hw1 hLi.t (hLi.a hk1 f hf hp)).mp ⟨w2, hw2, e1⟩).2
                    have f2 := ((withW_ext hw1 hLi.t (hLi.a hk1 g hg hq)).mp ⟨w3, hw3, e2⟩).2
                    apply hfg
                    obtain ⟨fp, fa⟩ := f
                    obtain ⟨gp, ga⟩ := g
                    dsimp only at *
                    rw [hp, hq, ← f1, ← f2]
                · cases hb
            · cases ha
        · exact List.pairwise_singleton _ _
def wayV (m : Nat) : Way := ⟨List.replicate m 0, List.replicate m false⟩
def refWays (facts : List Rl.Fc) (r : Sc.Rule) : List (List Int) := fromN facts r.body (r.body.length + 1) 0 (wayV r.vars.toNat)
theorem wayV_wf (m : Nat) : Wf m (wayV m) := ⟨by simp [wayV], by simp [wayV]⟩
theorem mem_refWays (hR : RuleIn facts r) (x : List Int) : x ∈ refWays facts r ↔ Sol facts r x := by
  unfold refWays
  rw [fromN_mem hR x _ _ _ (Nat.zero_le _) (by omega) (wayV_wf _) (fun j hj => by omega)]
  refine ⟨fun h => h.2, fun h => ⟨fun i hi => ?_, h⟩⟩
  have : (List.replicate r.vars.toNat false).getD i false = true := hi
  rw [List.getD_eq_getElem?_getD, List.getElem?_replicate] at this
  split at this <;> simp at this
theorem refWays_nodup (hR : RuleIn facts r) (hn : facts.Nodup) : (refWays facts r).Nodup := fromN_nodup hR hn _ _ _ (Nat.zero_le _) (by omega) (wayV_wf _) (fun j hj => by omega)
theorem same_many (hR : RuleIn facts r) (hN : ∀ f, f ∈ facts → ∀ n, n ∈ f.args → Sc.isNum n = true) (hn : facts.Nodup) : (ways facts r).Perm (refWays facts r) :=
  (List.perm_ext_iff_of_nodup (ways_nodup hR hN hn) (refWays_nodup hR hn)).mpr fun x => (mem_ways hR hN x).trans (mem_refWays hR x).symm
end
end Ru
end Go.Proofs.YthenjegmigeieaaGreat

/- Ways in order, and the heads that they make: whatever order ways came in; with more facts no fewer. -/
namespace Go.Proofs.YthenjegmigeieaaGreat
namespace Ru

/-! ### In order -/
def srt (L : List (List Int)) : List (List Int) := (Rl.set (L.map (Rl.Fc.mk 0))).map (·.args)
theorem ord_mk (x y : List Int) : Rl.ord ⟨0, x⟩ ⟨0, y⟩ = Rl.cmpL x y := by unfold Rl.ord; rw [if_pos (Rl.cmpI_self 0)]
theorem set_preds {L : List (List Int)} {f : Rl.Fc} (h : f ∈ Rl.set (L.map (Rl.Fc.mk 0))) : f = ⟨0, f.args⟩ ∧ f.args ∈ L := by
  obtain ⟨x, hx, rfl⟩ := List.mem_map.mp (Rl.mem_set.mp h)
  exact ⟨rfl, hx⟩
theorem mem_srt {L : List (List Int)} {x : List Int} : x ∈ srt L ↔ x ∈ L := by
  unfold srt
  rw [List.mem_map]
  constructor
  · rintro ⟨f, hf, rfl⟩; exact (set_preds hf).2
  · intro h; exact ⟨⟨0, x⟩, Rl.mem_set.mpr (List.mem_map.mpr ⟨x, h, rfl⟩), rfl⟩
def UpL (s : List (List Int)) : Prop := s.Pairwise fun x y => Rl.cmpL x y < 0
theorem srt_up (L : List (List Int)) : UpL (srt L) := by
  unfold UpL srt
  rw [List.pairwise_map]
  refine List.Pairwise.imp_of_mem ?_ (Rl.set_isSet (L.map (Rl.Fc.mk 0))).1
  intro f g hf hg h
  have h' : Rl.ord f g < 0 := h
  rw [(set_preds hf).1, (set_preds hg).1, ord_mk] at h'
  exact h'
theorem srt_eq {s L : List (List Int)} (hs : UpL s) (h : ∀ x, x ∈ s ↔ x ∈ L) : s = srt L := by
  have h1 : Rl.Up (s.map (Rl.Fc.mk 0)) := by
    unfold Rl.Up
    rw [List.pairwise_map]
    exact hs.imp fun {a b} hab => by show Rl.ord _ _ < 0; rw [ord_mk]; exact hab
  have h2 : s.map (Rl.Fc.mk 0) = Rl.set (L.map (Rl.Fc.mk 0)) := Rl.isSet_eq ⟨h1, fun f => by
    constructor
    · intro hf
      obtain ⟨x, hx, rfl⟩ := List.mem_map.mp hf
      exact List.mem_map.mpr ⟨x, (h x).mp hx, rfl⟩
    · intro hf
      obtain ⟨x, hx, rfl⟩ := List.mem_map.mp hf
      exact List.mem_map.mpr ⟨x, (h x).mpr hx, rfl⟩⟩
  unfold srt
  rw [← h2, List.map_map]
  exact (List.map_id' s).symm
theorem srt_same {L M : List (List Int)} (h : ∀ x, x ∈ L ↔ x ∈ M) : srt L = srt M := srt_eq (srt_up L) fun x => mem_srt.trans (h x)
/-- Sorted, with no two the same. -/
theorem up_of_le {s : List (List Int)} (hs : s.Pairwise fun x y => Rl.cmpL x y ≤ 0) (hn : s.Nodup) : UpL s := by
  refine (List.Pairwise.and hs hn).imp ?_
  rintro a b ⟨h1, h2⟩
  have : ¬ Rl.cmpL a b = 0 := fun e => h2 (Rl.cmpL_zero.mp e)
  omega
theorem srt_nodup (L : List (List Int)) : (srt L).Nodup := by
  refine (srt_up L).imp ?_
  intro a b h e
  rw [Rl.cmpL_zero.mpr e] at h
  omega
theorem srt_perm {L : List (List Int)} (hn : L.Nodup) : (srt L).Perm L := (List.perm_ext_iff_of_nodup (srt_nodup L) hn).mpr fun _ => mem_srt

/-! ### What is folded -/
def minL : List Int → Int
  | [] => 0
  | a :: r => r.foldl (fun m x => if x < m then x else m) a
def maxL : List Int → Int
  | [] => 0
  | a :: r => r.foldl (fun m x => if m < x then x else m) a
def foldN (f : Int) (l : List Int) : Int := if f = 1 then (l.length : Int) else if f = 3 then minL l else if f = 4 then maxL l else l.sum
theorem fold_min (r : List Int) : ∀ a : Int, (r.foldl (fun m x => if x < m then x else m) a = a ∨ r.foldl (fun m x => if x < m then x else m) a ∈ r) ∧ r.foldl (fun m x => if x < m then x else m) a ≤ a ∧ ∀ x, x ∈ r → r.foldl (fun m x => if x < m then x else m) a ≤ x := by
  induction r with
  | nil => exact fun a => ⟨.inl rfl, Int.le_refl _, fun x hx => absurd hx (by simp)⟩
  | cons b r ih =>
    intro a
    obtain ⟨h1, h2, h3⟩ := ih (if b < a then b else a)
    simp only [List.foldl_cons]
    refine ⟨?_, ?_, ?_⟩
    · rcases h1 with h1 | h1
      · rw [h1]
        split
        · exact .inr List.mem_cons_self
        · exact .inl rfl
      · exact .inr (List.mem_cons_of_mem _ h1)
    · refine Int.le_trans h2 ?_
      split <;> omega
    · intro x hx
      rcases List.mem_cons.mp hx with rfl | hx
      · refine Int.le_trans h2 ?_
        split <;> omega
      · exact h3 x hx
theorem fold_max (r : List Int) : ∀ a : Int, (r.foldl (fun m x => if m < x then x else m) a = a ∨ r.foldl (fun m x => if m < x then x else m) a ∈ r) ∧ a ≤ r.foldl (fun m x => if m < x then x else m) a ∧ ∀ x, x ∈ r → x ≤ r.foldl (fun m x => if m < x then x else m) a := by
  induction r with
  | nil => exact fun a => ⟨.inl rfl, Int.le_refl _, fun x hx => absurd hx (by simp)⟩
  | cons b r ih =>
    intro a
    obtain ⟨h1, h2, h3⟩ := ih (if a < b then b else a)
    simp only [List.foldl_cons]
    refine ⟨?_, ?_, ?_⟩
    · rcases h1 with h1 | h1
      · rw [h1]
        split
        · exact .inr List.mem_cons_self
        · exact .inl rfl
      · exact .inr (List.mem_cons_of_mem _ h1)
    · refine Int.le_trans ?_ h2
      split <;> omega
    · intro x hx
      rcases List.mem_cons.mp hx with rfl | hx
      · refine Int.le_trans ?_ h2
        split <;> omega
      · exact h3 x hx
theorem minL_mem {l : List Int} (h : l ≠ []) : minL l ∈ l ∧ ∀ x, x ∈ l → minL l ≤ x := by
  cases l with
  | nil => exact absurd rfl h
  | cons a r =>
    obtain ⟨h1, h2, h3⟩ := fold_min r a
    refine ⟨?_, fun x hx => ?_⟩
    · rcases h1 with h1 | h1
      · show r.foldl _ a ∈ _; rw [h1]; exact List.mem_cons_self
      · exact List.mem_cons_of_mem _ h1
    · rcases List.mem_cons.mp hx with rfl | hx
      · exact h2
      · exact h3 x hx
theorem maxL_mem {l : List Int} (h : l ≠ []) : maxL l ∈ l ∧ ∀ x, x ∈ l → x ≤ maxL l := by
  cases l with
  | nil => exact absurd rfl h
  | cons a r =>
    obtain ⟨h1, h2, h3⟩ := fold_max r a
    refine ⟨?_, fun x hx => ?_⟩
    · rcases h1 with h1 | h1
      · show r.foldl _ a ∈ _; rw [h1]; exact List.mem_cons_self
      · exact List.mem_cons_of_mem _ h1
    · rcases List.mem_cons.mp hx with rfl | hx
      · exact h2
      · exact h3 x hx
theorem perm_sum {l m : List Int} (h : l.Perm m) : l.sum = m.sum := by
  induction h with
  | nil => rfl
  | cons a _ ih => simp only [List.sum_cons, ih]
  | swap a b l => simp only [List.sum_cons]; omega
  | trans _ _ h1 h2 => exact h1.trans h2
theorem foldN_perm (f : Int) {l m : List Int} (h : l.Perm m) : foldN f l = foldN f m := by
  unfold foldN
  rw [h.length_eq, perm_sum h]
  by_cases hl : l = []
  · subst hl
    have : m = [] := List.nil_perm.mp h
    subst this
    rfl
  · have hm : m ≠ [] := fun e => hl (by subst e; exact List.perm_nil.mp h)
    have a := minL_mem hl
    have b := minL_mem hm
    have c := maxL_mem hl
    have d := maxL_mem hm
    have e1 : minL l = minL m := by
      have := a.2 _ (h.mem_iff.mpr b.1)
      have := b.2 _ (h.mem_iff.mp a.1)
      omega
    have e2 : maxL l = maxL m := by
      have := c.2 _ (h.mem_iff.mpr d.1)
      have := d.2 _ (h.mem_iff.mp c.1)
      omega
    rw [e1, e2]

/-! ### Heads -/
def pre (a : List Int) : List Int := a.dropLast
def lst (a : List Int) : Int := a.getLastD 0
def head (r : Sc.Rule) (x : List Int) : Rl.Fc := ⟨r.pred, fill r.terms x⟩
/-- What is folded of those that are the same but for the last number. -/
def group (H : List Rl.Fc) (p : List Int) : List Int := (H.filter fun g => decide (pre g.args = p)).map fun g => lst g.args
def foldH (f : Int) (H : List Rl.Fc) (h : Rl.Fc) : Option Rl.Fc :=
  if Sc.isNum (foldN f (group H (pre h.args))) = true then some ⟨h.pred, pre h.args ++ [foldN f (group H (pre h.args))]⟩ else none
def headsL (r : Sc.Rule) (W : List (List Int)) : List Rl.Fc :=
  if r.fold = 0 then W.map (head r) else (W.map (head r)).filterMap (foldH r.fold (W.map (head r)))
def heads (r : Sc.Rule) (W : List (List Int)) : List Rl.Fc := Rl.set (headsL r W)
theorem group_perm {H K : List Rl.Fc} (h : H.Perm K) (p : List Int) : (group H p).Perm (group K p) := (h.filter _).map _
theorem foldH_perm (f : Int) {H K : List Rl.Fc} (h : H.Perm K) (x : Rl.Fc) : foldH f H x = foldH f K x := by
  unfold foldH
  rw [foldN_perm f (group_perm h _)]
theorem headsL_perm (r : Sc.Rule) {W V : List (List Int)} (h : W.Perm V) (x : Rl.Fc) : x ∈ headsL r W ↔ x ∈ headsL r V := by
  unfold headsL
  have hm := h.map (head r)
  split
  · exact hm.mem_iff
  · rw [List.mem_filterMap, List.mem_filterMap]
    constructor
    · rintro ⟨a, ha, hx⟩
      exact ⟨a, hm.mem_iff.mp ha, by rw [← foldH_perm _ hm]; exact hx⟩
    · rintro ⟨a, ha, hx⟩
      exact ⟨a, hm.mem_iff.mpr ha, by rw [foldH_perm _ hm]; exact hx⟩
theorem heads_perm (r : Sc.Rule) {W V : List (List Int)} (h : W.Perm V) : heads r W = heads r V := Rl.set_same (headsL_perm r h)

/-! ### Those of a group stand together -/
theorem cmpL_le_trans {x y z : List Int} (h1 : Rl.cmpL x y ≤ 0) (h2 : Rl.cmpL y z ≤ 0) : Rl.cmpL x z ≤ 0 := by
  by_cases e1 : Rl.cmpL x y = 0
  · rw [Rl.cmpL_zero.mp e1]; exact h2
  · by_cases e2 : Rl.cmpL y z = 0
    · rw [← Rl.cmpL_zero.mp e2]; exact h1
    · have := Rl.cmpL_trans (x := x) (y := y) (z := z) (by omega) (by omega)
      omega
theorem cmpL_pre : ∀ {x y : List Int}, x.length = y.length → Rl.cmpL x y ≤ 0 → Rl.cmpL (pre x) (pre y) ≤ 0
  | [], [], _, _ => by decide
  | [], _ :: _, h, _ => by cases h
  | _ :: _, [], h, _ => by cases h
  | [a], [b], _, _ => by show Rl.cmpL [] [] ≤ 0; decide
  | [a], b :: c :: y, h, _ => by simp at h
  | a :: c :: x, [b], h, _ => by simp at h
  | a :: a' :: x, b :: b' :: y, hl, h => by
    have ih := cmpL_pre (x := a' :: x) (y := b' :: y) (by simpa using hl)
    show Rl.cmpL (a :: pre (a' :: x)) (b :: pre (b' :: y)) ≤ 0
    have h' : (if Rl.cmpI a b = 0 then Rl.cmpL (a' :: x) (b' :: y) else Rl.cmpI a b) ≤ 0 := h
    show (if Rl.cmpI a b = 0 then Rl.cmpL (pre (a' :: x)) (pre (b' :: y)) else Rl.cmpI a b) ≤ 0
    by_cases e : Rl.cmpI a b = 0
    · rw [if_pos e] at h' ⊢; exact ih h'
    · rw [if_neg e] at h' ⊢; exact h'
/-- Heads in order, group by group: numbers of the group so far. -/
def folded (f : Int) : List Rl.Fc → List Int → List Rl.Fc
  | [], _ => []
  | h :: t, ns =>
    (match t with
      | [] => if Sc.isNum (foldN f (ns ++ [lst h.args])) = true then [⟨h.pred, pre h.args ++ [foldN f (ns ++ [lst h.args])]⟩] else []
      | g :: _ => if pre h.args = pre g.args then folded f t (ns ++ [lst h.args])
        else (if Sc.isNum (foldN f (ns ++ [lst h.args])) = true then [⟨h.pred, pre h.args ++ [foldN f (ns ++ [lst h.args])]⟩] else []) ++ folded f t [])
def emit (f pd : Int) (p : List Int) (ns : List Int) : List Rl.Fc := if Sc.isNum (foldN f ns) = true then [⟨pd, p ++ [foldN f ns]⟩] else []
theorem folded_group (f pd : Int) (p : List Int) : ∀ (G : List Rl.Fc) (h : Rl.Fc) (R : List Rl.Fc) (ns : List Int), (∀ g, g ∈ h :: G → pre g.args = p ∧ g.pred = pd) → (∀ g, R.head? = some g → ¬ pre g.args = p) →
    folded f (h :: G ++ R) ns = emit f pd p (ns ++ (h :: G).map fun g => lst g.args) ++ folded f R []
  | [], h, R, ns, hG, hR => by
    obtain ⟨h1, h2⟩ := hG h List.mem_cons_self
    cases R with
    | nil =>
      show (if Sc.isNum (foldN f (ns ++ [lst h.args])) = true then [(⟨h.pred, pre h.args ++ [foldN f (ns ++ [lst h.args])]⟩ : Rl.Fc)] else []) = _
      rw [h1, h2]
      show emit f pd p (ns ++ [lst h.args]) = emit f pd p (ns ++ [lst h.args]) ++ []
      rw [List.append_nil]
    | cons g R =>
      show (if pre h.args = pre g.args then folded f (g :: R) (ns ++ [lst h.args]) else (if Sc.isNum (foldN f (ns ++ [lst h.args])) = true then [⟨h.pred, pre h.args ++ [foldN f (ns ++ [lst h.args])]⟩] else []) ++ folded f (g :: R) []) = _
      rw [h1, if_neg (fun e => hR g rfl e.symm), h2]
      rfl
  | g :: G, h, R, ns, hG, hR => by
    obtain ⟨h1, h2⟩ := hG h List.mem_cons_self
    obtain ⟨g1, g2⟩ := hG g (List.mem_cons_of_mem _ List.mem_cons_self)
    show (if pre h.args = pre g.args then folded f (g :: G ++ R) (ns ++ [lst h.args]) else (if Sc.isNum (foldN f (ns ++ [lst h.args])) = true then [⟨h.pred, pre h.args ++ [foldN f (ns ++ [lst h.args])]⟩] else []) ++ folded f (g :: G ++ R) []) = _
    rw [h1, g1, if_pos rfl, folded_group f pd p G g R _ (fun x hx => hG x (List.mem_cons_of_mem _ hx)) hR]
    simp
theorem folded_mem (f pd : Int) (T : Nat) : ∀ (n : Nat) (H : List Rl.Fc), H.length ≤ n → (∀ h, h ∈ H → h.pred = pd ∧ h.args.length = T) → H.Pairwise (fun a b => Rl.ord a b ≤ 0) → ∀ x, x ∈ folded f H [] ↔ ∃ h, h ∈ H ∧ foldH f H h = some x
  | _, [], _, _, _, x => by
    constructor
    · intro h; cases h
    · rintro ⟨h, hh, _⟩; cases hh
  | 0, _ :: _, hl, _, _, _ => by simp at hl
  | n + 1, h :: t, hl, hP, hS, x => by
    obtain ⟨p, hp⟩ : ∃ p, p = pre h.args := ⟨_, rfl⟩
    let q : Rl.Fc → Bool := fun g => decide (pre g.args = p)
    have hsplit : t = t.takeWhile q ++ t.dropWhile q := (List.takeWhile_append_dropWhile).symm
    obtain ⟨G, hGd⟩ : ∃ G, G = t.takeWhile q := ⟨_, rfl⟩
    obtain ⟨R, hRd⟩ : ∃ R, R = t.dropWhile q := ⟨_, rfl⟩
    rw [← hGd, ← hRd] at hsplit
    have hGp : ∀ g, g ∈ G → pre g.args = p := fun g hg => by
      rw [hGd] at hg
      have : q g = true := by
        have h9 := List.all_takeWhile (p := q) (l := t)
        exact List.all_eq_true.mp h9 g hg
      exact of_decide_eq_true this
    have hRh : ∀ g, R.head? = some g → ¬ pre g.args = p := fun g hg he => by
      have h9 := List.head?_dropWhile_not q t
      rw [← hRd, hg] at h9
      simp [q, he] at h9
    have hS' := List.pairwise_cons.mp hS
    have hRall : ∀ g, g ∈ R → ¬ pre g.args = p := by
      intro g hg
      cases hRc : R with
      | nil => rw [hRc] at hg; cases hg
      | cons a R' =>
        have ha : ¬ pre a.args = p := hRh a (by rw [hRc]; rfl)
        have hat : a ∈ t := by rw [hsplit, hRc]; simp
        have ordle : ∀ {u v : Rl.Fc}, u ∈ h :: t → v ∈ h :: t → Rl.ord u v ≤ 0 → Rl.cmpL (pre u.args) (pre v.args) ≤ 0 := by
          intro u v hu hv huv
          obtain ⟨u1, u2⟩ := hP u hu
          obtain ⟨v1, v2⟩ := hP v hv
          refine cmpL_pre (by rw [u2, v2]) ?_
          unfold Rl.ord at huv
          rwa [u1, v1, if_pos (Rl.cmpI_self pd)] at huv
        have h1 := ordle List.mem_cons_self (List.mem_cons_of_mem _ hat) (hS'.1 a hat)
        rw [← hp] at h1
        have h2 : Rl.cmpL p (pre a.args) < 0 := by
          have : ¬ Rl.cmpL p (pre a.args) = 0 := fun e => ha (Rl.cmpL_zero.mp e).symm
          omega
        rw [hRc] at hg
        rcases List.mem_cons.mp hg with rfl | hg'
        · exact ha
        · have hgt : g ∈ t := by rw [hsplit, hRc]; simp [hg']
          have hpw : (a :: R').Pairwise (fun a b => Rl.ord a b ≤ 0) := by
            have := hS'.2
            rw [hsplit, List.pairwise_append] at this
            rw [← hRc]; exact this.2.1
          have h3 := ordle (List.mem_cons_of_mem _ hat) (List.mem_cons_of_mem _ hgt) ((List.pairwise_cons.mp hpw).1 g hg')
          intro e
          rw [e] at h3
          have := Rl.cmpL_flip p (pre a.args)
          omega
    have hfl : folded f (h :: t) [] = emit f pd p ((h :: G).map fun g => lst g.args) ++ folded f R [] := by
      have := folded_group f pd p G h R [] (fun g hg => by
        rcases List.mem_cons.mp hg with rfl | hg'
        · exact ⟨hp.symm, (hP g List.mem_cons_self).1⟩
        · exact ⟨hGp g hg', (hP g (List.mem_cons_of_mem _ (by rw [hsplit]; simp [hg']))).1⟩) hRh
      rw [List.nil_append] at this
      rw [← this, List.cons_append, ← hsplit]
    have hgrp : group (h :: t) p = (h :: G).map fun g => lst g.args := by
      unfold group
      congr 1
      rw [List.filter_cons, if_pos (decide_eq_true hp.symm)]
      congr 1
      rw [hsplit, List.filter_append]
      have e1 : G.filter (fun g => decide (pre g.args = p)) = G := List.filter_eq_self.mpr fun g hg => decide_eq_true (hGp g hg)
      have e2 : R.filter (fun g => decide (pre g.args = p)) = [] := List.filter_eq_nil_iff.mpr fun g hg => by simpa using hRall g hg
      rw [e1, e2, List.append_nil]
    have hgrpR : ∀ g, g ∈ R → group (h :: t) (pre g.args) = group R (pre g.args) := fun g hg => by
      unfold group
      congr 1
      have hne := hRall g hg
      rw [List.filter_cons, if_neg (by simp only [decide_eq_true_eq]; rw [← hp]; exact fun e => hne e.symm)]
      rw [hsplit, List.filter_append]
      have e1 : G.filter (fun k => decide (pre k.args = pre g.args)) = [] := List.filter_eq_nil_iff.mpr fun k hk => by
        simp only [decide_eq_true_eq]
        rw [hGp k hk]
        exact fun e => hne e.symm
      rw [e1, List.nil_append]
    have hRl : R.length ≤ n := by
      have : t.length ≤ n := by simpa using hl
      rw [hsplit, List.length_append] at this
      omega
    have hRm : ∀ g, g ∈ R → g ∈ h :: t := fun g hg => List.mem_cons_of_mem _ (by rw [hsplit]; simp [hg])
    have ih := folded_mem f pd T n R hRl (fun g hg => hP g (hRm g hg)) (by
      have := hS'.2
      rw [hsplit, List.pairwise_append] at this
      exact this.2.1) x
    have hfH : ∀ g, g ∈ R → foldH f (h :: t) g = foldH f R g := fun g hg => by unfold foldH; rw [hgrpR g hg]
    have hfG : ∀ g, g ∈ h :: G → (foldH f (h :: t) g = some x ↔ x ∈ emit f pd p ((h :: G).map fun g => lst g.args)) := fun g hg => by
      have e : pre g.args = p := by
        rcases List.mem_cons.mp hg with rfl | hg'
        · exact hp.symm
        · exact hGp g hg'
      have e' : g.pred = pd := by
        rcases List.mem_cons.mp hg with rfl | hg'
        · exact (hP g List.mem_cons_self).1
        · exact (hP g (List.mem_cons_of_mem _ (by rw [hsplit]; simp [hg']))).1
      unfold foldH emit
      rw [e, hgrp, e']
      split
      · rw [List.mem_singleton]
        constructor
        · intro h; injection h with h; exact h.symm
        · intro h; rw [h]
      · constructor
        · intro h; cases h
        · intro h; cases h
    rw [hfl, List.mem_append, ih]
    constructor
    · rintro (h1 | ⟨g, hg, h1⟩)
      · exact ⟨h, List.mem_cons_self, (hfG h List.mem_cons_self).mpr h1⟩
      · exact ⟨g, hRm g hg, by rw [hfH g hg]; exact h1⟩
    · rintro ⟨g, hg, h1⟩
      rcases List.mem_cons.mp hg with rfl | hg'
      · exact .inl ((hfG g List.mem_cons_self).mp h1)
      · rw [hsplit] at hg'
        rcases List.mem_append.mp hg' with hg' | hg'
        · exact .inl ((hfG g (List.mem_cons_of_mem _ hg')).mp h1)
        · exact .inr ⟨g, hg', by rw [← hfH g hg']; exact h1⟩
/-- What the program folds is what the document folds. -/
theorem heads_folded {r : Sc.Rule} (hf : ¬ r.fold = 0) {W : List (List Int)} {H : List Rl.Fc} (hH : H.Perm (W.map (head r))) (hS : H.Pairwise (fun a b => Rl.ord a b ≤ 0)) : Rl.set (folded r.fold H []) = heads r W := by
  refine Rl.set_same fun x => ?_
  rw [folded_mem r.fold r.pred r.terms.length H.length H (Nat.le_refl _) (fun h hh => by
    obtain ⟨y, _, rfl⟩ := List.mem_map.mp (hH.mem_iff.mp hh)
    exact ⟨rfl, by simp [head, fill]⟩) hS x]
  unfold headsL
  rw [if_neg hf, List.mem_filterMap]
  constructor
  · rintro ⟨h, hh, hx⟩
    exact ⟨h, hH.mem_iff.mp hh, by rw [← foldH_perm _ hH]; exact hx⟩
  · rintro ⟨h, hh, hx⟩
    exact ⟨h, hH.mem_iff.mpr hh, by rw [foldH_perm _ hH]; exact hx⟩

/-! ### More facts -/
theorem holds_more {l : Sc.Lit} {x : List Int} {f g : List Rl.Fc} (hk : ¬ l.kind = 2) (h : ∀ a, a ∈ f → a ∈ g) (hh : holds f l x = true) : holds g l x = true := by
  unfold holds at hh ⊢
  split
  · rename_i h1
    rw [if_pos h1, Rl.has_iff] at hh
    rw [Rl.has_iff]
    exact h _ hh
  · rename_i h1
    rw [if_neg h1, if_neg hk] at hh
    exact hh
theorem sol_more {r : Sc.Rule} {x : List Int} {f g : List Rl.Fc} (hk : ∀ l, l ∈ r.body → ¬ l.kind = 2) (h : ∀ a, a ∈ f → a ∈ g) (hs : Sol f r x) : Sol g r x := ⟨hs.1, fun l hl => holds_more (hk l hl) h (hs.2 l hl)⟩
theorem heads_more {r : Sc.Rule} {W V : List (List Int)} (hf : r.fold = 0) (h : ∀ x, x ∈ W → x ∈ V) (f : Rl.Fc) (hx : f ∈ heads r W) : f ∈ heads r V := by
  unfold heads headsL at hx ⊢
  rw [if_pos hf, Rl.mem_set] at hx ⊢
  obtain ⟨x, hw, rfl⟩ := List.mem_map.mp hx
  exact List.mem_map.mpr ⟨x, h x hw, rfl⟩
end Ru
end Go.Proofs.YthenjegmigeieaaGreat

/- The document's scan of any text; lists of tokens that are kept. -/
namespace Go.Proofs.YthenjegmigeieaaGreat
open Go.RowKit

theorem toksAt_below {w w' : World} {ao : Option Addr} {l : List Tk.Tok} (h : ToksAt w ao l) (hb : Below w.heap.size w w') : ToksAt w' ao l := by
  rcases h with h | ⟨b, off, rfl, hc⟩
  · exact .inl h
  · refine .inr ⟨b, off, rfl, fun i hi => ?_⟩
    obtain ⟨a0, a1, a2⟩ := hc i hi
    have hbw : b < w.heap.size := World.block_lt_of_cell? w _ a0
    exact ⟨(hb.cell (p := ⟨b, _, none⟩) hbw).trans a0, (hb.cell (p := ⟨b, _, none⟩) hbw).trans a1, (hb.cell (p := ⟨b, _, none⟩) hbw).trans a2⟩

/-- No more tokens than bytes. -/
theorem scanP_many (L : List UInt8) : ∀ (f p : Nat) (acc : List Tk.Tok), acc.length ≤ p → p ≤ L.length → (Tk.scanP L f p acc).1.length ≤ L.length := by
  intro f
  induction f with
  | zero => intro p acc h1 h2; rw [Tk.scanP]; exact Nat.le_trans h1 h2
  | succ f ih =>
    intro p acc h1 h2
    rw [Tk.scanP]
    split
    · exact Nat.le_trans h1 h2
    · split
      · rename_i h3 h4
        have g1 := Tk.lenOf_le (L.drop p)
        have g2 := Tk.lenOf_pos (L.drop p) (by intro e; have := congrArg List.length e; simp at this; omega) h4
        rw [List.length_drop] at g1
        have g3 := Tk.sep_le false (L.drop (p + Tk.lenOf (L.drop p)))
        rw [List.length_drop] at g3
        refine ih _ _ ?_ ?_
        · rw [List.length_append]; simp; omega
        · omega
      · simp
theorem scan_many (L : List UInt8) : (Tk.scan L).1.length ≤ 5000 := by
  unfold Tk.scan
  split
  · simp
  · have := scanP_many L L.length (Tk.sep false L) [] (Nat.zero_le _) (Tk.sep_le false L)
    omega

end Go.Proofs.YthenjegmigeieaaGreat

/- Trees in memory: what is read behind a slice. -/
namespace Go.Proofs.YthenjegmigeieaaGreat
open Go.RowKit

def TermIn (w : World) (b off : Nat) (t : Tr.Term) : Prop :=
  w.cell? ⟨b, off, none⟩ = some (.string ⟨t.var.toArray⟩) ∧ w.cell? ⟨b, off + 1, none⟩ = some (.int .i64 t.n)
def TermsAt (w : World) (ao : Option Addr) (l : List Tr.Term) : Prop :=
  l = [] ∨ ∃ b off, ao = some ⟨b, off, none⟩ ∧ ∀ i, i < l.length → TermIn w b (off + i * 2) (Tr.termD l i)
/-- A slice value with terms behind it. -/
def TermsV (w : World) (v : Value) (l : List Tr.Term) : Prop := ∃ ao cap, v = .slice ao l.length cap ∧ TermsAt w ao l
def LitIn (w : World) (b off : Nat) (x : Tr.Lit) : Prop :=
  w.cell? ⟨b, off, none⟩ = some (.int .i64 x.kind) ∧ w.cell? ⟨b, off + 1, none⟩ = some (.int .i64 x.at_) ∧ w.cell? ⟨b, off + 2, none⟩ = some (.int .i64 x.op) ∧ w.cell? ⟨b, off + 3, none⟩ = some (.string ⟨x.name.toArray⟩) ∧
    ∃ v, w.cell? ⟨b, off + 4, none⟩ = some v ∧ TermsV w v x.terms
def LitsAt (w : World) (ao : Option Addr) (l : List Tr.Lit) : Prop :=
  l = [] ∨ ∃ b off, ao = some ⟨b, off, none⟩ ∧ ∀ i, i < l.length → LitIn w b (off + i * 5) (Tr.litD l i)
def LitsV (w : World) (v : Value) (l : List Tr.Lit) : Prop := ∃ ao cap, v = .slice ao l.length cap ∧ LitsAt w ao l
def RuleIn (w : World) (b off : Nat) (r : Tr.Rule) : Prop :=
  w.cell? ⟨b, off, none⟩ = some (.int .i64 r.at_) ∧ w.cell? ⟨b, off + 1, none⟩ = some (.string ⟨r.name.toArray⟩) ∧ (∃ v, w.cell? ⟨b, off + 2, none⟩ = some v ∧ TermsV w v r.terms) ∧ w.cell? ⟨b, off + 3, none⟩ = some (.int .i64 r.fold) ∧
    ∃ v, w.cell? ⟨b, off + 4, none⟩ = some v ∧ LitsV w v r.body
def RulesAt (w : World) (ao : Option Addr) (l : List Tr.Rule) : Prop :=
  l = [] ∨ ∃ b off, ao = some ⟨b, off, none⟩ ∧ ∀ i, i < l.length → RuleIn w b (off + i * 5) (Tr.ruleD l i)
def RulesV (w : World) (v : Value) (l : List Tr.Rule) : Prop := ∃ ao cap, v = .slice ao l.length cap ∧ RulesAt w ao l

theorem cell_below {w w' : World} (hb : Below w.heap.size w w') {b o : Nat} {v : Value} (h : w.cell? ⟨b, o, none⟩ = some v) : w'.cell? ⟨b, o, none⟩ = some v :=
  (hb.cell (p := ⟨b, o, none⟩) (World.block_lt_of_cell? w _ h)).trans h

theorem termsAt_below {w w' : World} {ao : Option Addr} {l : List Tr.Term} (h : TermsAt w ao l) (hb : Below w.heap.size w w') : TermsAt w' ao l := by
  rcases h with h | ⟨b, off, rfl, hc⟩
  · exact .inl h
  · exact .inr ⟨b, off, rfl, fun i hi => ⟨cell_below hb (hc i hi).1, cell_below hb (hc i hi).2⟩⟩
theorem termsV_below {w w' : World} {v : Value} {l : List Tr.Term} (h : TermsV w v l) (hb : Below w.heap.size w w') : TermsV w' v l := by
  obtain ⟨ao, cap, rfl, h⟩ := h
  exact ⟨ao, cap, rfl, termsAt_below h hb⟩
theorem litIn_below {w w' : World} {b off : Nat} {x : Tr.Lit} (h : LitIn w b off x) (hb : Below w.heap.size w w') : LitIn w' b off x := by
  obtain ⟨h0, h1, h2, h3, v, h4, h5⟩ := h
  exact ⟨cell_below hb h0, cell_below hb h1, cell_below hb h2, cell_below hb h3, v, cell_below hb h4, termsV_below h5 hb⟩
theorem litsAt_below {w w' : World} {ao : Option Addr} {l : List Tr.Lit} (h : LitsAt w ao l) (hb : Below w.heap.size w w') : LitsAt w' ao l := by
  rcases h with h | ⟨b, off, rfl, hc⟩
  · exact .inl h
  · exact .inr ⟨b, off, rfl, fun i hi => litIn_below (hc i hi) hb⟩
theorem litsV_below {w w' : World} {v : Value} {l : List Tr.Lit} (h : LitsV w v l) (hb : Below w.heap.size w w') : LitsV w' v l := by
  obtain ⟨ao, cap, rfl, h⟩ := h
  exact ⟨ao, cap, rfl, litsAt_below h hb⟩
theorem ruleIn_below {w w' : World} {b off : Nat} {x : Tr.Rule} (h : RuleIn w b off x) (hb : Below w.heap.size w w') : RuleIn w' b off x := by
  obtain ⟨h0, h1, ⟨v, h2, h3⟩, h4, u, h5, h6⟩ := h
  exact ⟨cell_below hb h0, cell_below hb h1, ⟨v, cell_below hb h2, termsV_below h3 hb⟩, cell_below hb h4, u, cell_below hb h5, litsV_below h6 hb⟩
theorem rulesAt_below {w w' : World} {ao : Option Addr} {l : List Tr.Rule} (h : RulesAt w ao l) (hb : Below w.heap.size w w') : RulesAt w' ao l := by
  rcases h with h | ⟨b, off, rfl, hc⟩
  · exact .inl h
  · exact .inr ⟨b, off, rfl, fun i hi => ruleIn_below (hc i hi) hb⟩
theorem rulesV_below {w w' : World} {v : Value} {l : List Tr.Rule} (h : RulesV w v l) (hb : Below w.heap.size w w') : RulesV w' v l := by
  obtain ⟨ao, cap, rfl, h⟩ := h
  exact ⟨ao, cap, rfl, rulesAt_below h hb⟩

/-- The values of a struct that is handed on. -/
abbrev termVal (t : Tr.Term) : Value := .agg #[.string ⟨t.var.toArray⟩, .int .i64 t.n]
abbrev litVal (x : Tr.Lit) (v : Value) : Value := .agg #[.int .i64 x.kind, .int .i64 x.at_, .int .i64 x.op, .string ⟨x.name.toArray⟩, v]
abbrev ruleVal (r : Tr.Rule) (v u : Value) : Value := .agg #[.int .i64 r.at_, .string ⟨r.name.toArray⟩, v, .int .i64 r.fold, u]

end Go.Proofs.YthenjegmigeieaaGreat

/- Programs in memory: what is read behind slices. -/
namespace Go.Proofs.YthenjegmigeieaaGreat
open Go.RowKit

def IntsAt (w : World) (ao : Option Addr) (l : List Int) : Prop :=
  l = [] ∨ ∃ b off, ao = some ⟨b, off, none⟩ ∧ ∀ i, i < l.length → w.cell? ⟨b, off + i, none⟩ = some (.int .i64 (Sc.intD l i))
def IntsV (w : World) (v : Value) (l : List Int) : Prop := ∃ ao cap, v = .slice ao l.length cap ∧ IntsAt w ao l
def StrsAt (w : World) (ao : Option Addr) (l : List (List UInt8)) : Prop :=
  l = [] ∨ ∃ b off, ao = some ⟨b, off, none⟩ ∧ ∀ i, i < l.length → w.cell? ⟨b, off + i, none⟩ = some (.string ⟨(Sc.strD l i).toArray⟩)
def StrsV (w : World) (v : Value) (l : List (List UInt8)) : Prop := ∃ ao cap, v = .slice ao l.length cap ∧ StrsAt w ao l
def PTermIn (w : World) (b off : Nat) (t : Sc.Term) : Prop :=
  w.cell? ⟨b, off, none⟩ = some (.int .i64 t.var) ∧ w.cell? ⟨b, off + 1, none⟩ = some (.int .i64 t.n)
def PTermsAt (w : World) (ao : Option Addr) (l : List Sc.Term) : Prop :=
  l = [] ∨ ∃ b off, ao = some ⟨b, off, none⟩ ∧ ∀ i, i < l.length → PTermIn w b (off + i * 2) (Sc.termD l i)
def PTermsV (w : World) (v : Value) (l : List Sc.Term) : Prop := ∃ ao cap, v = .slice ao l.length cap ∧ l.length ≤ cap ∧ PTermsAt w ao l
def PLitIn (w : World) (b off : Nat) (x : Sc.Lit) : Prop :=
  w.cell? ⟨b, off, none⟩ = some (.int .i64 x.kind) ∧ w.cell? ⟨b, off + 1, none⟩ = some (.int .i64 x.op) ∧ w.cell? ⟨b, off + 2, none⟩ = some (.int .i64 x.pred) ∧
    ∃ v, w.cell? ⟨b, off + 3, none⟩ = some v ∧ PTermsV w v x.terms
def PLitsAt (w : World) (ao : Option Addr) (l : List Sc.Lit) : Prop :=
  l = [] ∨ ∃ b off, ao = some ⟨b, off, none⟩ ∧ ∀ i, i < l.length → PLitIn w b (off + i * 4) (Sc.litD l i)
def PLitsV (w : World) (v : Value) (l : List Sc.Lit) : Prop := ∃ ao cap, v = .slice ao l.length cap ∧ PLitsAt w ao l
def PRuleIn (w : World) (b off : Nat) (r : Sc.Rule) : Prop :=
  w.cell? ⟨b, off, none⟩ = some (.int .i64 r.pred) ∧ (∃ v, w.cell? ⟨b, off + 1, none⟩ = some v ∧ PTermsV w v r.terms) ∧ w.cell? ⟨b, off + 2, none⟩ = some (.int .i64 r.fold) ∧
    (∃ v, w.cell? ⟨b, off + 3, none⟩ = some v ∧ PLitsV w v r.body) ∧ w.cell? ⟨b, off + 4, none⟩ = some (.int .i64 r.vars)
def PRulesAt (w : World) (ao : Option Addr) (l : List Sc.Rule) : Prop :=
  l = [] ∨ ∃ b off, ao = some ⟨b, off, none⟩ ∧ ∀ i, i < l.length → PRuleIn w b (off + i * 5) (Sc.ruleD l i)
def PRulesV (w : World) (v : Value) (l : List Sc.Rule) : Prop := ∃ ao cap, v = .slice ao l.length cap ∧ PRulesAt w ao l
/-- A program's value. -/
abbrev progVal (va vn vr : Value) : Value := .agg #[va, vn, vr]
structure ProgV (w : World) (va vn vr : Value) (p : Sc.Prog) : Prop where
  ar : IntsV w va p.arity
  nm : StrsV w vn p.names
  rl : PRulesV w vr p.rules

theorem intsV_below {w w' : World} {v : Value} {l : List Int} (h : IntsV w v l) (hb : Below w.heap.size w w') : IntsV w' v l := by
  obtain ⟨ao, cap, rfl, h⟩ := h
  refine ⟨ao, cap, rfl, ?_⟩
  rcases h with h | ⟨b, off, rfl, hc⟩
  · exact .inl h
  · exact .inr ⟨b, off, rfl, fun i hi => cell_below hb (hc i hi)⟩
theorem strsV_below {w w' : World} {v : Value} {l : List (List UInt8)} (h : StrsV w v l) (hb : Below w.heap.size w w') : StrsV w' v l := by
  obtain ⟨ao, cap, rfl, h⟩ := h
  refine ⟨ao, cap, rfl, ?_⟩
  rcases h with h | ⟨b, off, rfl, hc⟩
  · exact .inl h
  · exact .inr ⟨b, off, rfl, fun i hi => cell_below hb (hc i hi)⟩
theorem ptermsV_below {w w' : World} {v : Value} {l : List Sc.Term} (h : PTermsV w v l) (hb : Below w.heap.size w w') : PTermsV w' v l := by
  obtain ⟨ao, cap, rfl, hc, h⟩ := h
  refine ⟨ao, cap, rfl, hc, ?_⟩
  rcases h with h | ⟨b, off, rfl, hc⟩
  · exact .inl h
  · exact .inr ⟨b, off, rfl, fun i hi => ⟨cell_below hb (hc i hi).1, cell_below hb (hc i hi).2⟩⟩
theorem plitIn_below {w w' : World} {b off : Nat} {x : Sc.Lit} (h : PLitIn w b off x) (hb : Below w.heap.size w w') : PLitIn w' b off x := by
  obtain ⟨h0, h1, h2, v, h3, h4⟩ := h
  exact ⟨cell_below hb h0, cell_below hb h1, cell_below hb h2, v, cell_below hb h3, ptermsV_below h4 hb⟩
theorem plitsV_below {w w' : World} {v : Value} {l : List Sc.Lit} (h : PLitsV w v l) (hb : Below w.heap.size w w') : PLitsV w' v l := by
  obtain ⟨ao, cap, rfl, h⟩ := h
  refine ⟨ao, cap, rfl, ?_⟩
  rcases h with h | ⟨b, off, rfl, hc⟩
  · exact .inl h
  · exact .inr ⟨b, off, rfl, fun i hi => plitIn_below (hc i hi) hb⟩
theorem pruleIn_below {w w' : World} {b off : Nat} {x : Sc.Rule} (h : PRuleIn w b off x) (hb : Below w.heap.size w w') : PRuleIn w' b off x := by
  obtain ⟨h0, ⟨v, h1, h2⟩, h3, ⟨u, h4, h5⟩, h6⟩ := h
  exact ⟨cell_below hb h0, ⟨v, cell_below hb h1, ptermsV_below h2 hb⟩, cell_below hb h3, ⟨u, cell_below hb h4, plitsV_below h5 hb⟩, cell_below hb h6⟩
theorem prulesV_below {w w' : World} {v : Value} {l : List Sc.Rule} (h : PRulesV w v l) (hb : Below w.heap.size w w') : PRulesV w' v l := by
  obtain ⟨ao, cap, rfl, h⟩ := h
  refine ⟨ao, cap, rfl, ?_⟩
  rcases h with h | ⟨b, off, rfl, hc⟩
  · exact .inl h
  · exact .inr ⟨b, off, rfl, fun i hi => pruleIn_below (hc i hi) hb⟩
theorem ProgV.below {w w' : World} {va vn vr : Value} {p : Sc.Prog} (h : ProgV w va vn vr p) (hb : Below w.heap.size w w') : ProgV w' va vn vr p := ⟨intsV_below h.ar hb, strsV_below h.nm hb, prulesV_below h.rl hb⟩

/-- The values of structs that are handed on. -/
abbrev ptermVal (t : Sc.Term) : Value := .agg #[.int .i64 t.var, .int .i64 t.n]
abbrev plitVal (x : Sc.Lit) (v : Value) : Value := .agg #[.int .i64 x.kind, .int .i64 x.op, .int .i64 x.pred, v]
abbrev pruleVal (r : Sc.Rule) (v u : Value) : Value := .agg #[.int .i64 r.pred, v, .int .i64 r.fold, u, .int .i64 r.vars]

/-- Lengths that are lengths. -/
def LitFit (x : Sc.Lit) : Prop := x.terms.length ≤ 9223372036854775807
def RuleFit (r : Sc.Rule) : Prop := r.terms.length ≤ 9223372036854775807 ∧ r.body.length ≤ 9223372036854775807 ∧ ∀ i, i < r.body.length → LitFit (Sc.litD r.body i)
structure ProgFit (p : Sc.Prog) : Prop where
  ar : p.arity.length ≤ 9223372036854775807
  nm : p.names.length ≤ 9223372036854775807
  rl : p.rules.length ≤ 9223372036854775807
  rs : ∀ i, i < p.rules.length → RuleFit (Sc.ruleD p.rules i)

end Go.Proofs.YthenjegmigeieaaGreat

/- Facts in memory: what is read behind slices; worlds that are only grown. -/
namespace Go.Proofs.YthenjegmigeieaaGreat
open Go.RowKit Go.Sort Go.Lib

/-- Blocks were laid, answers were drawn; nothing else. -/
def Gr (w w' : World) : Prop := ∃ q os, w' = grow (w.drewN q) os
theorem Gr.refl (w : World) : Gr w w := ⟨0, #[], by rw [grow_empty]; rfl⟩
theorem Gr.trans {a b c : World} (h : Gr a b) (k : Gr b c) : Gr a c := by
  obtain ⟨q, os, rfl⟩ := h
  obtain ⟨q2, os2, rfl⟩ := k
  refine ⟨q + q2, os ++ os2, ?_⟩
  show ({ a with drawn := a.drawn + q + q2, heap := a.heap ++ os ++ os2 } : World) = { a with drawn := a.drawn + (q + q2), heap := a.heap ++ (os ++ os2) }
  rw [Nat.add_assoc, Array.append_assoc]
theorem Gr.alloc {a b : World} (h : Gr a b) (o : Obj) : Gr a (b.alloc o) := h.trans ⟨0, #[o], by rw [alloc_eq_grow]; rfl⟩
theorem Gr.drew {a b : World} (h : Gr a b) : Gr a b.drew := h.trans ⟨1, #[], by rw [grow_empty]; rfl⟩
theorem Gr.below {a b : World} (h : Gr a b) : Below a.heap.size a b := by
  obtain ⟨q, os, rfl⟩ := h
  refine ⟨rfl, rfl, rfl, ?_, fun k hk => ?_⟩
  · show a.heap.size ≤ (a.heap ++ os).size
    simp
  · show (a.heap ++ os)[k]? = a.heap[k]?
    rw [Array.getElem?_append_left hk]

def Rl.factD (l : List Rl.Fc) (i : Nat) : Rl.Fc := l.getD i ⟨0, []⟩
def FactIn (w : World) (b off : Nat) (f : Rl.Fc) : Prop :=
  w.cell? ⟨b, off, none⟩ = some (.int .i64 f.pred) ∧ ∃ v, w.cell? ⟨b, off + 1, none⟩ = some v ∧ IntsV w v f.args
def FactsAt (w : World) (ao : Option Addr) (l : List Rl.Fc) : Prop :=
  l = [] ∨ ∃ b off, ao = some ⟨b, off, none⟩ ∧ ∀ i, i < l.length → FactIn w b (off + i * 2) (Rl.factD l i)
def FactsV (w : World) (v : Value) (l : List Rl.Fc) : Prop := ∃ ao cap, v = .slice ao l.length cap ∧ (l.length ≤ cap ∧ (ao = none → cap = 0)) ∧ FactsAt w ao l
/-- Lengths that are lengths. -/
def FFit (f : Rl.Fc) : Prop := f.args.length ≤ 9223372036854775807
theorem factIn_below {w w' : World} {b off : Nat} {f : Rl.Fc} (h : FactIn w b off f) (hb : Below w.heap.size w w') : FactIn w' b off f := by
  obtain ⟨h0, v, h1, h2⟩ := h
  exact ⟨cell_below hb h0, v, cell_below hb h1, intsV_below h2 hb⟩
theorem factsV_below {w w' : World} {v : Value} {l : List Rl.Fc} (h : FactsV w v l) (hb : Below w.heap.size w w') : FactsV w' v l := by
  obtain ⟨ao, cap, rfl, hc, h⟩ := h
  refine ⟨ao, cap, rfl, hc, ?_⟩
  rcases h with h | ⟨b, off, rfl, h⟩
  · exact .inl h
  · exact .inr ⟨b, off, rfl, fun i hi => factIn_below (h i hi) hb⟩
theorem facts_at {w : World} {ao : Option Addr} {l : List Rl.Fc} (h : FactsAt w ao l) (i : Nat) (hi : i < l.length) : ∃ b off, ao = some ⟨b, off, none⟩ ∧ FactIn w b (off + i * 2) (Rl.factD l i) := by
  rcases h with h | ⟨b, off, ha, hc⟩
  · rw [h] at hi; exact absurd hi (by simp)
  · exact ⟨b, off, ha, hc i hi⟩
theorem factD_drop (l : List Rl.Fc) (k : Nat) (hk : k < l.length) : l.drop k = Rl.factD l k :: l.drop (k + 1) := by
  rw [List.drop_eq_getElem_cons hk]
  simp [Rl.factD, List.getD_eq_getElem?_getD, hk]
theorem factD_mem (l : List Rl.Fc) (k : Nat) (hk : k < l.length) : Rl.factD l k ∈ l := by simp [Rl.factD, hk]
theorem factD_get (l : List Rl.Fc) (k : Nat) (hk : k < l.length) : l[k]? = some (Rl.factD l k) := by simp [Rl.factD, hk]
theorem ints_at {w : World} {ao : Option Addr} {l : List Int} (h : IntsAt w ao l) (i : Nat) (hi : i < l.length) : ∃ b off, ao = some ⟨b, off, none⟩ ∧ w.cell? ⟨b, off + i, none⟩ = some (.int .i64 (Sc.intD l i)) := by
  rcases h with h | ⟨b, off, ha, hc⟩
  · rw [h] at hi; exact absurd hi (by simp)
  · exact ⟨b, off, ha, hc i hi⟩

end Go.Proofs.YthenjegmigeieaaGreat

/- Package token: is a token the only one of its text? -/
namespace Go.Proofs.YthenjegmigeieaaGreat
open Go.RowKit

abbrev tokObjOf (t : Tk.Tok) : Obj := .cells #[.int .i64 t.kind, .int .i64 t.at_, .string ⟨t.text.toArray⟩] 271

theorem boxCell {w w1 : World} {t : Tk.Tok} (hb : Below (w.alloc (tokObjOf t)).heap.size (w.alloc (tokObjOf t)) w1) :
    w1.cell? ⟨w.heap.size, 0, none⟩ = some (.int .i64 t.kind) ∧ w1.cell? ⟨w.heap.size, 1, none⟩ = some (.int .i64 t.at_) ∧ w1.cell? ⟨w.heap.size, 2, none⟩ = some (.string ⟨t.text.toArray⟩) := by
  obtain ⟨hc, hf⟩ := bcell hb
  have h : w.heap.size < (w.alloc (tokObjOf t)).heap.size := by simp
  refine ⟨?_, ?_, ?_⟩
  · rw [hc _ _ h]; simp [go_sem]
  · rw [hc _ _ h]; simp [go_sem]
  · rw [hc _ _ h]; simp [go_sem]

theorem below_box {w w1 : World} {o : Obj} (hb : Below (w.alloc o).heap.size (w.alloc o) w1) : Below w.heap.size w w1 :=
  ((Below.refl _ _).alloc (Nat.le_refl _) _).trans (hb.mono (by simp))

set_option maxRecDepth 100000 in
set_option maxHeartbeats 1000000 in
theorem alone_any (t : Tk.Tok) (w : World) :
    Calls Tryz.prog 240 #[tokVal t] w fun e w' => e = .returned (.bool (Tk.alone t.kind t.text)) ∧ Below w.heap.size w w' := by
  have HV : Hid (Tk.alone t.kind t.text = (((Tk.scan t.text).2.2 == 0) && (((Tk.scan t.text).1.length : Int) == 1) && ((tokD (Tk.scan t.text).1 0).kind == t.kind) && ((tokD (Tk.scan t.text).1 0).text == t.text))) := rfl
  generalize Tk.alone t.kind t.text = V at *
  have hS := fun w => Scan_any ⟨t.text.toArray⟩ w
  have hd : (⟨t.text.toArray⟩ : ByteArray).data.toList = t.text := List.toList_toArray
  rw [hd] at hS
  unfold ScanTop at hS
  generalize Tk.scan t.text = X at *
  have HS : Hid (_) := hS
  clear hS hd
  go_enter Tryz.func240, Tryz.ntmps240
  go_wp2_with fail
  refine (HS.out _).mono ?_
  rintro e w1 ⟨ao, cap, rfl, hown, hb⟩
  obtain ⟨c0, c1, c2⟩ := boxCell hb
  have hT0 : 0 < X.1.length → ∃ b off, ao = some ⟨b, off, none⟩ ∧ TokIn w1 b off (tokD X.1 0) := fun h0 => by
    rcases toksAt_own hown with h | ⟨b, off, rfl, hc⟩
    · rw [h] at h0; exact absurd h0 (by simp)
    · exact ⟨b, off, rfl, by simpa using hc 0 h0⟩
  have hbel := below_box hb
  clear hown hb HS
  generalize tokD X.1 0 = x at *
  cases g1 : (X.2.2 == 0)
  · have HF : Hid (V = false) := by show _ = _; rw [HV.out, g1]; rfl
    clear HV
    go_wp2_with fail
    go_quiet (fail)
    go_wp2
    go_ret
    exact ⟨ret_bool HF.out.symm, below_drewN hbel _⟩
  · cases g2 : ((X.1.length : Int) == 1)
    · have HF : Hid (V = false) := by show _ = _; rw [HV.out, g2]; simp
      clear HV
      go_wp2_with fail
      go_quiet (fail)
      go_wp2
      go_ret
      exact ⟨ret_bool HF.out.symm, below_drewN hbel _⟩
    · have hpos : 0 < X.1.length := by have := beq_iff_eq.1 g2; omega
      obtain ⟨b, off, rfl, d0, d1, d2⟩ := hT0 hpos
      clear hT0
      cases g3 : (x.kind == t.kind)
      · have HF : Hid (V = false) := by show _ = _; rw [HV.out, g3]; simp
        clear HV
        go_wp2_with fail
        go_quiet (fail)
        go_wp2
        go_ret
        exact ⟨ret_bool HF.out.symm, below_drewN hbel _⟩
      · cases g4 : (x.text == t.text)
        · have HF : Hid (V = false) := by show _ = _; rw [HV.out, g4]; simp
          clear HV
          go_wp2_with fail
          go_quiet (fail)
          go_wp2
          go_ret
          exact ⟨ret_bool HF.out.symm, below_drewN hbel _⟩
        · have HF : Hid (V = true) := by show _ = _; rw [HV.out, g1, g2, g3, g4]; rfl
          clear HV
          go_wp2_with fail
          go_quiet (fail)
          go_wp2
          go_ret
          exact ⟨ret_bool HF.out.symm, below_drewN hbel _⟩

end Go.Proofs.YthenjegmigeieaaGreat

