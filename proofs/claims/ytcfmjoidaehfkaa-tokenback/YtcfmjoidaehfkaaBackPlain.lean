/- What is joined is scanned as it was, and what is scanned is joined: plain lists of bytes. -/
import Derived.Test.YtcfmjoidaehfkaaJoin
namespace Go.Proofs.Ytcfmjoidaehfkaa
open Go.RowKit

theorem pre_take (p : Int → Bool) (l : List UInt8) : Tk.pre p (l.take (Tk.pre p l)) = Tk.pre p l := by
  induction l with
  | nil => rfl
  | cons c r ih =>
    by_cases h : p c.toNat = true
    · rw [Tk.pre, if_pos h, List.take_succ_cons, Tk.pre, if_pos h, ih]
    · rw [Tk.pre, if_neg h]; rfl

/-- All of it is such, and what follows is not. -/
theorem pre_append (p : Int → Bool) : ∀ (t r : List UInt8), Tk.pre p t = t.length → (∀ c s, r = c :: s → p c.toNat = false) → Tk.pre p (t ++ r) = t.length := by
  intro t
  induction t with
  | nil =>
    intro r _ hr
    cases r with
    | nil => rfl
    | cons c s => rw [List.nil_append, Tk.pre, if_neg (by simp [hr c s rfl])]; rfl
  | cons c t ih =>
    intro r ht hr
    by_cases h : p c.toNat = true
    · rw [Tk.pre, if_pos h] at ht
      rw [List.cons_append, Tk.pre, if_pos h, ih r (by simpa using ht) hr]
      rfl
    · rw [Tk.pre, if_neg h] at ht
      exact absurd ht (by simp)

theorem sign_cases (c : UInt8) (r : List UInt8) : (Tk.signLen (c :: r) = 2 ∧ ∃ d s, r = d :: s ∧ ((c = 58 ∧ d = 45) ∨ (c = 60 ∧ d = 61) ∨ (c = 33 ∧ d = 61))) ∨
    (¬ (∃ d s, r = d :: s ∧ ((c = 58 ∧ d = 45) ∨ (c = 60 ∧ d = 61) ∨ (c = 33 ∧ d = 61))) ∧ Tk.signLen (c :: r) = if Tk.isSign c then 1 else 0) := by
  have key : ∀ a b : UInt8, [a, b].isPrefixOf (c :: r) = true ↔ ∃ d s, r = d :: s ∧ c = a ∧ d = b := by
    intro a b
    cases r with
    | nil => simp [List.isPrefixOf]
    | cons d s =>
      simp only [List.isPrefixOf, Bool.and_true, Bool.and_eq_true, beq_iff_eq]
      constructor
      · rintro ⟨rfl, rfl⟩; exact ⟨_, _, rfl, rfl, rfl⟩
      · rintro ⟨d', s', e, rfl, rfl⟩
        injection e with e1 _
        exact ⟨rfl, e1.symm⟩
  by_cases h : ([58, 45].isPrefixOf (c :: r) || [60, 61].isPrefixOf (c :: r) || [33, 61].isPrefixOf (c :: r)) = true
  · left
    refine ⟨by rw [Tk.signLen, if_pos h], ?_⟩
    simp only [Bool.or_eq_true] at h
    rcases h with (h | h) | h
    · obtain ⟨d, s, e, h1, h2⟩ := (key _ _).1 h; exact ⟨d, s, e, .inl ⟨h1, h2⟩⟩
    · obtain ⟨d, s, e, h1, h2⟩ := (key _ _).1 h; exact ⟨d, s, e, .inr (.inl ⟨h1, h2⟩)⟩
    · obtain ⟨d, s, e, h1, h2⟩ := (key _ _).1 h; exact ⟨d, s, e, .inr (.inr ⟨h1, h2⟩)⟩
  · right
    refine ⟨?_, by rw [Tk.signLen, if_neg h]⟩
    rintro ⟨d, s, e, h1 | h1 | h1⟩
    · exact h (by rw [(key 58 45).2 ⟨d, s, e, h1⟩]; rfl)
    · exact h (by rw [(key 60 61).2 ⟨d, s, e, h1⟩]; simp)
    · exact h (by rw [(key 33 61).2 ⟨d, s, e, h1⟩]; simp)

/-- A token stands alone as it stood in the text. -/
theorem tok_take (c : UInt8) (r : List UInt8) (he : Tk.errOf (c :: r) = 0) : Tk.isTok (Tk.kindOf (c :: r)) ((c :: r).take (Tk.lenOf (c :: r))) = true := by
  have hpos := Tk.lenOf_pos (c :: r) (by simp) he
  have hle := Tk.lenOf_le (c :: r)
  obtain ⟨n, hn⟩ : ∃ n, Tk.lenOf (c :: r) = n + 1 := ⟨Tk.lenOf (c :: r) - 1, by omega⟩
  have ht : (c :: r).take (Tk.lenOf (c :: r)) = c :: r.take n := by rw [hn, List.take_succ_cons]
  have hlt : (c :: r.take n).length = Tk.lenOf (c :: r) := by rw [← ht, List.length_take]; omega
  have hlen : Tk.lenOf (c :: r.take n) = Tk.lenOf (c :: r) := by
    rw [lenOf_cons, lenOf_cons] at *
    by_cases h1 : (Tk.small c.toNat || Tk.great c.toNat) = true
    · rw [if_pos h1] at *
      rw [if_pos h1]
      have := pre_take Tk.alnum (c :: r)
      rw [hn, List.take_succ_cons] at this
      rw [this, hn]
    · rw [if_neg h1] at *
      rw [if_neg h1]
      by_cases h2 : Tk.digit c.toNat = true
      · rw [if_pos h2] at *
        rw [if_pos h2]
        have := pre_take Tk.digit (c :: r)
        rw [hn, List.take_succ_cons] at this
        rw [this, hn]
      · rw [if_neg h2] at *
        rw [if_neg h2]
        rcases sign_cases c r with ⟨g1, d, s, rfl, g2⟩ | ⟨g1, g2⟩
        · rw [g1] at hn
          have hn1 : n = 1 := by omega
          subst hn1
          rcases sign_cases c ((d :: s).take 1) with ⟨k1, _⟩ | ⟨k1, _⟩
          · rw [k1, g1]
          · exact absurd ⟨d, [], rfl, g2⟩ k1
        · have hs : Tk.isSign c = true := by
            by_cases hs : Tk.isSign c = true
            · exact hs
            · rw [if_neg hs] at g2; omega
          rw [if_pos hs] at g2
          rw [g2] at hn
          have hn0 : n = 0 := by omega
          subst hn0
          rcases sign_cases c (r.take 0) with ⟨_, d, s, e, _⟩ | ⟨_, k2⟩
          · exact absurd e (by simp)
          · rw [k2, if_pos hs, g2]
  have herr : Tk.errOf (c :: r.take n) = 0 := by
    rw [lenOf_cons, lenOf_cons] at hlen
    rw [errOf_cons] at he ⊢
    by_cases h1 : (Tk.small c.toNat || Tk.great c.toNat) = true
    · rw [if_pos h1] at he ⊢
      rw [if_pos h1, if_pos h1] at hlen
      rw [hlen]; exact he
    · rw [if_neg h1] at he ⊢
      rw [if_neg h1, if_neg h1] at hlen
      by_cases h2 : Tk.digit c.toNat = true
      · rw [if_pos h2] at he ⊢
        rw [if_pos h2, if_pos h2] at hlen
        rw [hlen]; exact he
      · rw [if_neg h2] at he ⊢
        rw [if_neg h2, if_neg h2] at hlen
        rw [hlen]; exact he
  rw [ht]
  refine decide_eq_true ⟨by simp, ?_, herr, ?_, by rw [hlen, hlt]⟩
  · rw [hlt]
    rcases tok_cases c r with ⟨c1, cE⟩ | ⟨c1, cK, c3, cE⟩ | ⟨c1, cK, c3, cE⟩ | ⟨c1, cK, c3, cE⟩ | ⟨c1, cK, c3, c4, c5, cE⟩ | ⟨c1, cK, c3, cE⟩ | ⟨c1, cK, c3, c4, c5, cE⟩ | ⟨c1, cK, cE⟩
    · omega
    · omega
    · omega
    · omega
    · omega
    · omega
    · omega
    · have e2 := lenOf_cons c r
      have e1 := kindOf_cons c r
      rw [cK] at e1
      cases g1 : Tk.small c.toNat
      · cases g2 : Tk.great c.toNat
        · cases g3 : Tk.digit c.toNat
          · rw [g1, g2, g3] at e2
            simp only [Bool.or_self, Bool.false_eq_true, if_false] at e2
            rcases sign_cases c r with ⟨k1, _⟩ | ⟨_, k1⟩
            · omega
            · rw [k1] at e2; split at e2 <;> omega
          · rw [g1, g2, g3] at e1; simp at e1
        · rw [g1, g2] at e1; simp at e1
      · rw [g1] at e1; simp at e1
  · rw [kindOf_cons, kindOf_cons]

/-- What is scanned is a list of such tokens. -/
theorem scanP_toks (L : List UInt8) : ∀ (f p : Nat) (acc : List Tk.Tok), (Tk.scanP L f p acc).2.2 = 0 → ∃ r, (Tk.scanP L f p acc).1 = acc ++ r ∧ (r.all fun t => Tk.isTok t.kind t.text) = true := by
  intro f
  induction f with
  | zero => intro p acc _; exact ⟨[], by simp [Tk.scanP], rfl⟩
  | succ f ih =>
    intro p acc h
    rw [Tk.scanP] at h ⊢
    split
    · exact ⟨[], by simp, rfl⟩
    · rename_i h1
      rw [if_neg h1] at h
      split
      · rename_i h2
        rw [if_pos h2] at h
        obtain ⟨r, hr, ha⟩ := ih _ _ h
        refine ⟨Tk.tokAt L p :: r, by rw [hr]; simp, ?_⟩
        rw [List.all_cons, ha, Bool.and_true]
        have hd := Tk.drop_cons L p (by omega)
        rw [hd] at h2
        show Tk.isTok (Tk.kindOf (L.drop p)) ((L.drop p).take (Tk.lenOf (L.drop p))) = true
        rw [hd]
        exact tok_take _ _ h2
      · rename_i h2
        rw [if_neg h2] at h
        exact absurd h h2
theorem scan_toks (L : List UInt8) (h : (Tk.scan L).2.2 = 0) : Tk.allTok (Tk.scan L).1 (Tk.scan L).1.length = true := by
  unfold Tk.allTok
  rw [List.take_length]
  unfold Tk.scan at h ⊢
  split
  · rfl
  · rename_i h1
    rw [if_neg h1] at h
    obtain ⟨r, hr, ha⟩ := scanP_toks L _ _ _ h
    rw [hr, List.nil_append]
    exact ha

/-- A token with nothing, or a blank, behind it. -/
theorem tok_blank (t r : List UInt8) (k : Int) (h : Tk.isTok k t = true) (hr : ∀ c s, r = c :: s → c = 32) :
    Tk.errOf (t ++ r) = 0 ∧ Tk.kindOf (t ++ r) = k ∧ Tk.lenOf (t ++ r) = t.length ∧ Tk.sep false (t ++ r) = 0 := by
  have h := of_decide_eq_true h
  obtain ⟨h1, h2, h3, h4, h5⟩ := h
  match t, h1 with
  | c :: q, _ =>
    have hp : ∀ p : Int → Bool, p 32 = false → ∀ c s, r = c :: s → p c.toNat = false := fun p hp c s e => by rw [hr c s e]; exact hp
    have hk : Tk.kindOf (c :: (q ++ r)) = k := by rw [kindOf_cons]; rw [kindOf_cons] at h4; exact h4
    have hlen : Tk.lenOf (c :: (q ++ r)) = (c :: q).length := by
      rw [lenOf_cons] at h5 ⊢
      by_cases g1 : (Tk.small c.toNat || Tk.great c.toNat) = true
      · rw [if_pos g1] at h5 ⊢
        exact pre_append Tk.alnum (c :: q) r h5 (hp _ rfl)
      · rw [if_neg g1] at h5 ⊢
        by_cases g2 : Tk.digit c.toNat = true
        · rw [if_pos g2] at h5 ⊢
          exact pre_append Tk.digit (c :: q) r h5 (hp _ rfl)
        · rw [if_neg g2] at h5 ⊢
          rcases sign_cases c q with ⟨k1, d, s, rfl, k2⟩ | ⟨k1, k2⟩
          · rcases sign_cases c (d :: s ++ r) with ⟨m1, _⟩ | ⟨m1, _⟩
            · rw [m1, ← h5, k1]
            · exact absurd ⟨d, s ++ r, rfl, k2⟩ m1
          · have hl : 1 ≤ (c :: q).length := by simp
            have hs : Tk.isSign c = true := by
              by_cases hs : Tk.isSign c = true
              · exact hs
              · rw [if_neg hs] at k2; omega
            rw [if_pos hs] at k2
            rw [k2] at h5
            have hq : q = [] := List.eq_nil_of_length_eq_zero (by simpa using h5.symm)
            subst hq
            rcases sign_cases c ([] ++ r) with ⟨_, d, s, e, m2⟩ | ⟨_, m2⟩
            · have hd : d = 32 := hr d s (by simpa using e)
              subst hd
              rcases m2 with ⟨_, m⟩ | ⟨_, m⟩ | ⟨_, m⟩
              · exact absurd m (by decide)
              · exact absurd m (by decide)
              · exact absurd m (by decide)
            · rw [m2, if_pos hs]; rfl
    have herr : Tk.errOf (c :: (q ++ r)) = 0 := by
      rw [lenOf_cons] at hlen
      rw [lenOf_cons] at h5
      rw [errOf_cons] at h3 ⊢
      by_cases g1 : (Tk.small c.toNat || Tk.great c.toNat) = true
      · rw [if_pos g1] at h3 ⊢
        rw [if_pos g1] at hlen h5
        rw [hlen, ← h5]; exact h3
      · rw [if_neg g1] at h3 ⊢
        rw [if_neg g1] at hlen h5
        by_cases g2 : Tk.digit c.toNat = true
        · rw [if_pos g2] at h3 ⊢
          rw [if_pos g2] at hlen h5
          rw [hlen, ← h5]; exact h3
        · rw [if_neg g2] at h3 ⊢
          rw [if_neg g2] at hlen h5
          rw [hlen, ← h5]; exact h3
    exact ⟨herr, hk, hlen, sep_zero _ _ herr⟩

/-- The texts of tokens, a blank between, from the front. -/
def jn : List Tk.Tok → List UInt8
  | [] => []
  | t :: r => t.text ++ (match r with | [] => [] | _ :: _ => 32 :: jn r)

theorem jn_one (t : Tk.Tok) : jn [t] = t.text := by simp [jn]
theorem jn_more (t u : Tk.Tok) (r : List Tk.Tok) : jn (t :: u :: r) = t.text ++ 32 :: jn (u :: r) := by rw [jn]

theorem jn_snoc : ∀ (l : List Tk.Tok) (t : Tk.Tok), jn (l ++ [t]) = (if l = [] then [] else jn l ++ [32]) ++ t.text := by
  intro l
  induction l with
  | nil => intro t; simp [jn]
  | cons x l ih =>
    intro t
    cases l with
    | nil => simp [jn]
    | cons y l =>
      have := ih t
      rw [if_neg (by simp)] at this ⊢
      rw [List.cons_append, List.cons_append, jn_more, ← List.cons_append, this, jn_more]
      simp

theorem joinTo_jn (l : List Tk.Tok) : ∀ k, k ≤ l.length → Tk.joinTo l k = jn (l.take k) := by
  intro k
  induction k with
  | zero => intro _; rfl
  | succ k ih =>
    intro hk
    have e : tokD l k = l[k]'(by omega) := by rw [tokD, List.getD_eq_getElem?_getD, List.getElem?_eq_getElem (by omega)]; rfl
    rw [List.take_succ_eq_append_getElem (by omega), jn_snoc, Tk.joinTo, ih (by omega), e]
    by_cases h0 : k = 0
    · subst h0; simp
    · rw [if_neg h0, if_neg]
      intro hn
      have := congrArg List.length hn
      rw [List.length_take, List.length_nil] at this
      omega

/-- What is joined is scanned as it was. -/
theorem scan_jn (L : List UInt8) : ∀ (l : List Tk.Tok), (l.all fun t => Tk.isTok t.kind t.text) = true → ∀ (f p : Nat) (acc : List Tk.Tok), L.drop p = jn l → L.length ≤ p + f → ∃ m, Tk.scanP L f p acc = (acc ++ m, 0, 0) ∧ Tk.same false l m = true := by
  intro l
  induction l with
  | nil =>
    intro _ f p acc hd _
    have hl : L.length ≤ p := by
      have := congrArg List.length hd
      rw [List.length_drop] at this
      simp [jn] at this
      omega
    exact ⟨[], by rw [Tk.scanP_end _ _ _ _ hl, List.append_nil], rfl⟩
  | cons t l ih =>
    intro ha f p acc hd hf
    rw [List.all_cons, Bool.and_eq_true] at ha
    obtain ⟨r, hr, hr32, hnext⟩ : ∃ r, jn (t :: l) = t.text ++ r ∧ (∀ c s, r = c :: s → c = 32) ∧ (l = [] ∧ r = [] ∨ r = 32 :: jn l ∧ l ≠ []) := by
      cases l with
      | nil => exact ⟨[], by simp [jn], fun c s e => (by cases e), .inl ⟨rfl, rfl⟩⟩
      | cons u l => exact ⟨32 :: jn (u :: l), jn_more t u l, fun c s e => (by injection e with e1 _; exact e1.symm), .inr ⟨rfl, by simp⟩⟩
    obtain ⟨b1, b2, b3, b4⟩ := tok_blank t.text r t.kind ha.1 hr32
    rw [hr] at hd
    have hpos : 1 ≤ t.text.length := by
      have := of_decide_eq_true ha.1
      rcases hh : t.text with _ | ⟨c, q⟩
      · exact absurd hh this.1
      · simp
    have hlen : L.length = p + t.text.length + r.length := by
      have := congrArg List.length hd
      rw [List.length_drop, List.length_append] at this
      omega
    obtain ⟨f, rfl⟩ : ∃ f', f = f' + 1 := ⟨f - 1, by omega⟩
    have hlt : p < L.length := by omega
    rw [← hd] at b1 b2 b3
    rw [Tk.scanP_yes L f p acc hlt b1, b3]
    have hdr : L.drop (p + t.text.length) = r := by
      rw [← List.drop_drop, hd, List.drop_left]
    have htok : Tk.tokAt L p = ⟨t.kind, p, t.text⟩ := by
      unfold Tk.tokAt
      rw [b2, b3, hd, List.take_left]
    rw [hdr, htok]
    have hone : Tk.sameOne false t ⟨t.kind, p, t.text⟩ = true := by simp [Tk.sameOne]
    rcases hnext with ⟨rfl, rfl⟩ | ⟨rfl, hne⟩
    · have hs0 : Tk.sep false [] = 0 := rfl
      rw [hs0, Tk.scanP_end _ _ _ _ (by rw [hlen]; simp)]
      exact ⟨[⟨t.kind, p, t.text⟩], rfl, by rw [Tk.same, hone]; rfl⟩
    · have hsep : Tk.sep false (32 :: jn l) = 1 := by
        rw [Tk.sep, if_neg (by decide), if_pos (by decide)]
        have : Tk.sep false (jn l) = 0 := by
          cases l with
          | nil => exact absurd rfl hne
          | cons u l =>
            rw [List.all_cons, Bool.and_eq_true] at ha
            obtain ⟨r', hr', hr32'⟩ : ∃ r, jn (u :: l) = u.text ++ r ∧ (∀ c s, r = c :: s → c = 32) := by
              cases l with
              | nil => exact ⟨[], by simp [jn], fun c s e => by cases e⟩
              | cons v l => exact ⟨32 :: jn (v :: l), jn_more u v l, fun c s e => by injection e with e1 _; exact e1.symm⟩
            rw [hr']
            exact (tok_blank u.text r' u.kind ha.2.1 hr32').2.2.2
        rw [this]
      rw [hsep]
      have hdr2 : L.drop (p + t.text.length + 1) = jn l := by
        rw [← List.drop_drop, hdr]; rfl
      obtain ⟨m, hm, hsame⟩ := ih ha.2 f (p + t.text.length + 1) (acc ++ [⟨t.kind, p, t.text⟩]) hdr2 (by omega)
      refine ⟨⟨t.kind, p, t.text⟩ :: m, by rw [hm]; simp, ?_⟩
      rw [Tk.same, hone, hsame]
      rfl

/-- Join, then Scan. -/
theorem join_scan (l : List Tk.Tok) (h : (Tk.join l).2 = 0) : (Tk.scan (Tk.join l).1).2.2 = 0 ∧ Tk.same false l (Tk.scan (Tk.join l).1).1 = true := by
  unfold Tk.join at h ⊢
  by_cases h1 : Tk.allTok l l.length = true
  · rw [if_pos h1] at h ⊢
    by_cases h2 : 5000 < (Tk.joinTo l l.length).length
    · rw [if_pos h2] at h; exact absurd h (by decide)
    · rw [if_neg h2]
      show (Tk.scan (Tk.joinTo l l.length)).2.2 = 0 ∧ Tk.same false l (Tk.scan (Tk.joinTo l l.length)).1 = true
      have hall : (l.all fun t => Tk.isTok t.kind t.text) = true := by
        unfold Tk.allTok at h1; rw [List.take_length] at h1; exact h1
      have hj : Tk.joinTo l l.length = jn l := by rw [joinTo_jn l l.length (Nat.le_refl _), List.take_length]
      rw [hj] at h2 ⊢
      have hsep : Tk.sep false (jn l) = 0 := by
        cases l with
        | nil => rfl
        | cons u l =>
          rw [List.all_cons, Bool.and_eq_true] at hall
          obtain ⟨r', hr', hr32'⟩ : ∃ r, jn (u :: l) = u.text ++ r ∧ (∀ c s, r = c :: s → c = 32) := by
            cases l with
            | nil => exact ⟨[], by simp [jn], fun c s e => by cases e⟩
            | cons v l => exact ⟨32 :: jn (v :: l), jn_more u v l, fun c s e => by injection e with e1 _; exact e1.symm⟩
          rw [hr']
          exact (tok_blank u.text r' u.kind hall.1 hr32').2.2.2
      obtain ⟨m, hm, hs⟩ := scan_jn (jn l) l hall (jn l).length 0 [] rfl (by omega)
      have hsc : Tk.scan (jn l) = (m, 0, 0) := by
        unfold Tk.scan
        rw [if_neg h2, hsep, hm]
        rfl
      rw [hsc]
      exact ⟨rfl, hs⟩
  · rw [if_neg h1] at h; exact absurd h (by decide)

/-- What is scanned is joined, if it is not too long. -/
theorem scan_join (L : List UInt8) (h : (Tk.scan L).2.2 = 0) (h2 : ¬ (Tk.join (Tk.scan L).1).2 = 0) : (Tk.join (Tk.scan L).1).2 = 2 := by
  have ha := scan_toks L h
  unfold Tk.join at h2 ⊢
  rw [if_pos ha] at h2 ⊢
  by_cases h3 : 5000 < (Tk.joinTo (Tk.scan L).1 (Tk.scan L).1.length).length
  · rw [if_pos h3]
  · rw [if_neg h3] at h2; exact absurd rfl h2

end Go.Proofs.Ytcfmjoidaehfkaa
