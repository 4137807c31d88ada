/- Package token: the token at a place, and what parts tokens. -/
import Derived.Test.YtcfmjoidaehfkaaTok
namespace Go.Proofs.Ytcfmjoidaehfkaa
open Go.RowKit

set_option maxHeartbeats 400000 in
theorem sign_no (s : ByteArray) (at0 : Nat) (w : World) (_hs : s.size ≤ 281474976710656) (ha : at0 < s.size) (hn : Tk.signLen (s.data.toList.drop at0) = 0) :
    Calls Try.prog 35 #[.string s, .int .i64 at0] w fun e w' => e = gaveUp at0 1 ∧ Below w.heap.size w w' := by
  have HN : Hid (Tk.signLen (s.data.toList.drop at0) = 0) := hn
  clear hn
  go_enter Try.func35, Try.ntmps35
  go_wp2_with fail
  refine (signLength_any _ _ (by simp; omega)).mono ?_
  rintro e w1 ⟨he, rfl⟩
  rw [Lib.extract_to_end, HN.out] at he
  subst he
  go_wp2_with fail
  exact ⟨rfl, rfl, (Below.refl _ _).alloc (Nat.le_refl _) _⟩

set_option maxHeartbeats 400000 in
theorem sign_yes (s : ByteArray) (at0 : Nat) (w : World) (hs : s.size ≤ 281474976710656) (ha : at0 < s.size) (hn : 0 < Tk.signLen (s.data.toList.drop at0)) :
    Calls Try.prog 35 #[.string s, .int .i64 at0] w fun e w' => e = .returned (.agg #[.int .i64 4, .int .i64 at0, .string (s.extract at0 (at0 + Tk.signLen (s.data.toList.drop at0)))]) ∧ Below w.heap.size w w' := by
  have hle : at0 + Tk.signLen (s.data.toList.drop at0) ≤ s.size := by
    have h1 := Tk.signLen_le (s.data.toList.drop at0)
    have h2 : (s.data.toList.drop at0).length = s.size - at0 := by simp
    omega
  generalize hX : Tk.signLen (s.data.toList.drop at0) = n at *
  have HX : Hid (Tk.signLen (s.data.toList.drop at0) = n) := hX
  clear hX
  have hb : ((n : Int) == 0) = false := by simp; omega
  go_enter Try.func35, Try.ntmps35
  go_wp2_with fail
  refine (signLength_any _ _ (by simp; omega)).mono ?_
  rintro e w1 ⟨he, rfl⟩
  rw [Lib.extract_to_end, HX.out] at he
  subst he
  go_wp2_with fail
  refine (cut_any s _ _ 4 _ hs (by omega) (by omega) (by omega)).mono ?_
  rintro e w1 ⟨he, hb1⟩
  rw [extract_cast] at he
  subst he
  obtain ⟨⟨c0, c1, c2⟩, f0, f1, f2⟩ := tokCell hb1
  go_wp2
  exact bodyPost_ret (v := .agg #[.int .i64 4, .int .i64 at0, .string (s.extract at0 (at0 + n))]) (by simp [results, Try.results35, go_sem, c0, c1, c2]) rfl ⟨rfl, below_tok hb1 _ _ _⟩

theorem drop_at (s : ByteArray) (a : Nat) (h : a < s.size) : s.data.toList.drop a = s[a] :: s.data.toList.drop (a + 1) := Tk.drop_cons s.data.toList a (by simpa using h)

theorem extract_take (s : ByteArray) (a n : Nat) : s.extract a (a + n) = ⟨((s.data.toList.drop a).take n).toArray⟩ := by
  rw [Lib.extract_eq, Nat.add_sub_cancel_left]

/-- The new block of a token, behind a call that makes one, and the token in it. -/
abbrev tokVal (t : Tk.Tok) : Value := .agg #[.int .i64 t.kind, .int .i64 t.at_, .string ⟨t.text.toArray⟩]

/-- What is wrong with a token, said of its first byte. -/
theorem errOf_cons (c : UInt8) (r : List UInt8) : Tk.errOf (c :: r) = if Tk.small c.toNat || Tk.great c.toNat then (if Tk.pre Tk.alnum (c :: r) > 12 then 2 else 0)
    else if Tk.digit c.toNat then (if Tk.pre Tk.digit (c :: r) > 7 then 2 else if (c.toNat : Int) = 48 ∧ Tk.pre Tk.digit (c :: r) > 1 then 1 else 0)
    else if Tk.signLen (c :: r) = 0 then 1 else 0 := rfl
theorem kindOf_cons (c : UInt8) (r : List UInt8) : Tk.kindOf (c :: r) = if Tk.small c.toNat then 1 else if Tk.great c.toNat then 2 else if Tk.digit c.toNat then 3 else 4 := rfl
theorem lenOf_cons (c : UInt8) (r : List UInt8) : Tk.lenOf (c :: r) = if Tk.small c.toNat || Tk.great c.toNat then Tk.pre Tk.alnum (c :: r) else if Tk.digit c.toNat then Tk.pre Tk.digit (c :: r) else Tk.signLen (c :: r) := rfl

theorem below_made {w w1 : World} (hb : Below (w.alloc tokObj).heap.size (w.alloc tokObj) w1) : Below w.heap.size w w1 :=
  ((Below.refl _ _).alloc (Nat.le_refl _) _).trans (hb.mono (by simp))

set_option maxHeartbeats 1000000 in
theorem tokenAt_no (s : ByteArray) (at0 : Nat) (w : World) (hs : s.size ≤ 281474976710656) (ha : at0 < s.size) (he : ¬ Tk.errOf (s.data.toList.drop at0) = 0) :
    Calls Try.prog 23 #[.string s, .int .i64 at0] w fun e w' => e = gaveUp at0 (Tk.errOf (s.data.toList.drop at0)) ∧ Below w.heap.size w w' := by
  have hd := drop_at s at0 ha
  have e0 : Tk.errOf (s.data.toList.drop at0) = if Tk.small s[at0].toNat || Tk.great s[at0].toNat then (if Tk.pre Tk.alnum (s.data.toList.drop at0) > 12 then 2 else 0)
    else if Tk.digit s[at0].toNat then (if Tk.pre Tk.digit (s.data.toList.drop at0) > 7 then 2 else if (s[at0].toNat : Int) = 48 ∧ Tk.pre Tk.digit (s.data.toList.drop at0) > 1 then 1 else 0)
    else if Tk.signLen (s.data.toList.drop at0) = 0 then 1 else 0 := by
    rw [hd]; exact errOf_cons _ _
  clear hd
  cases h1 : Tk.small (s[at0].toNat : Int)
  · cases h2 : Tk.great (s[at0].toNat : Int)
    · cases h3 : Tk.digit (s[at0].toNat : Int)
      · rw [h1, h2, h3] at e0
        simp only [Bool.or_self, Bool.false_eq_true, if_false] at e0
        have hn : Tk.signLen (s.data.toList.drop at0) = 0 := by
          by_cases h : Tk.signLen (s.data.toList.drop at0) = 0
          · exact h
          · rw [if_neg h] at e0; exact absurd e0 he
        rw [if_pos hn] at e0
        rw [e0]
        have HN : Hid (Tk.signLen (s.data.toList.drop at0) = 0) := hn
        clear e0 he hn
        go_enter Try.func23, Try.ntmps23
        go_wp2_with (first | (go_at_call 30; refine (isSmall_any _ _).mono ?_; rintro e w' ⟨rfl, rfl⟩) | (go_at_call 32; refine (isGreat_any _ _).mono ?_; rintro e w' ⟨rfl, rfl⟩) | (go_at_call 33; refine (isDigit_any _ _).mono ?_; rintro e w' ⟨rfl, rfl⟩) | (go_at_call 35; refine (sign_no s at0 _ hs ha HN.out).mono ?_; rintro e w1 ⟨rfl, hb1⟩))
        exact ⟨rfl, rfl, below_made hb1⟩
      · rw [h1, h2, h3] at e0
        simp only [Bool.or_self, Bool.false_eq_true, if_false, if_true] at e0
        by_cases h : Tk.pre Tk.digit (s.data.toList.drop at0) > 7
        · rw [if_pos h] at e0
          rw [e0]
          clear e0 he
          go_enter Try.func23, Try.ntmps23
          go_wp2_with (first | (go_at_call 30; refine (isSmall_any _ _).mono ?_; rintro e w' ⟨rfl, rfl⟩) | (go_at_call 32; refine (isGreat_any _ _).mono ?_; rintro e w' ⟨rfl, rfl⟩) | (go_at_call 33; refine (isDigit_any _ _).mono ?_; rintro e w' ⟨rfl, rfl⟩) | (go_at_call 34; refine (number_many s at0 _ hs ha h).mono ?_; rintro e w1 ⟨rfl, hb1⟩))
          exact ⟨rfl, rfl, below_made hb1⟩
        · rw [if_neg h] at e0
          have hn : (s[at0].toNat : Int) = 48 ∧ Tk.pre Tk.digit (s.data.toList.drop at0) > 1 := by
            by_cases h : (s[at0].toNat : Int) = 48 ∧ Tk.pre Tk.digit (s.data.toList.drop at0) > 1
            · exact h
            · rw [if_neg h] at e0; exact absurd e0 he
          rw [if_pos hn] at e0
          rw [e0]
          have HN : Hid ((s[at0].toNat : Int) = 48 ∧ Tk.pre Tk.digit (s.data.toList.drop at0) > 1) := hn
          clear e0 he hn
          go_enter Try.func23, Try.ntmps23
          go_wp2_with (first | (go_at_call 30; refine (isSmall_any _ _).mono ?_; rintro e w' ⟨rfl, rfl⟩) | (go_at_call 32; refine (isGreat_any _ _).mono ?_; rintro e w' ⟨rfl, rfl⟩) | (go_at_call 33; refine (isDigit_any _ _).mono ?_; rintro e w' ⟨rfl, rfl⟩) | (go_at_call 34; refine (number_form s at0 _ hs ha (by omega) HN.out.2 (beq_iff_eq.2 HN.out.1)).mono ?_; rintro e w1 ⟨rfl, hb1⟩))
          exact ⟨rfl, rfl, below_made hb1⟩
    · rw [h1, h2] at e0
      simp only [Bool.or_true, if_true] at e0
      have hn : 12 < Tk.pre Tk.alnum (s.data.toList.drop at0) := by
        by_cases h : Tk.pre Tk.alnum (s.data.toList.drop at0) > 12
        · exact h
        · rw [if_neg h] at e0; exact absurd e0 he
      rw [if_pos hn] at e0
      rw [e0]
      clear e0 he
      go_enter Try.func23, Try.ntmps23
      go_wp2_with (first | (go_at_call 30; refine (isSmall_any _ _).mono ?_; rintro e w' ⟨rfl, rfl⟩) | (go_at_call 32; refine (isGreat_any _ _).mono ?_; rintro e w' ⟨rfl, rfl⟩) | (go_at_call 33; refine (isDigit_any _ _).mono ?_; rintro e w' ⟨rfl, rfl⟩) | (go_at_call 31; refine (word_no s at0 2 _ hs (by omega) hn).mono ?_; rintro e w1 ⟨rfl, hb1⟩))
      exact ⟨rfl, rfl, below_made hb1⟩
  · rw [h1] at e0
    simp only [Bool.true_or, if_true] at e0
    have hn : 12 < Tk.pre Tk.alnum (s.data.toList.drop at0) := by
      by_cases h : Tk.pre Tk.alnum (s.data.toList.drop at0) > 12
      · exact h
      · rw [if_neg h] at e0; exact absurd e0 he
    rw [if_pos hn] at e0
    rw [e0]
    clear e0 he
    go_enter Try.func23, Try.ntmps23
    go_wp2_with (first | (go_at_call 30; refine (isSmall_any _ _).mono ?_; rintro e w' ⟨rfl, rfl⟩) | (go_at_call 32; refine (isGreat_any _ _).mono ?_; rintro e w' ⟨rfl, rfl⟩) | (go_at_call 33; refine (isDigit_any _ _).mono ?_; rintro e w' ⟨rfl, rfl⟩) | (go_at_call 31; refine (word_no s at0 1 _ hs (by omega) hn).mono ?_; rintro e w1 ⟨rfl, hb1⟩))
    exact ⟨rfl, rfl, below_made hb1⟩

/-- The end of a way that answers a token. -/
theorem ret_tok {k k' a : Int} {s : ByteArray} {n n' : Nat} {p : Nat} (hk : k = k') (hn : n = n') (l : List UInt8) (hl : l = s.data.toList.drop p) :
    Ending.returned (.agg #[.int .i64 k, .int .i64 a, .string (s.extract p (p + n))]) = .returned (.agg #[.int .i64 k', .int .i64 a, .string ⟨(l.take n').toArray⟩]) := by
  subst hk hn hl
  rw [extract_take]

set_option maxHeartbeats 1000000 in
theorem tokenAt_yes (s : ByteArray) (at0 : Nat) (w : World) (hs : s.size ≤ 281474976710656) (ha : at0 < s.size) (he : Tk.errOf (s.data.toList.drop at0) = 0) :
    Calls Try.prog 23 #[.string s, .int .i64 at0] w fun e w' => e = .returned (tokVal (Tk.tokAt s.data.toList at0)) ∧ Below w.heap.size w w' := by
  have hd := drop_at s at0 ha
  have e0 : Tk.errOf (s.data.toList.drop at0) = if Tk.small s[at0].toNat || Tk.great s[at0].toNat then (if Tk.pre Tk.alnum (s.data.toList.drop at0) > 12 then 2 else 0)
    else if Tk.digit s[at0].toNat then (if Tk.pre Tk.digit (s.data.toList.drop at0) > 7 then 2 else if (s[at0].toNat : Int) = 48 ∧ Tk.pre Tk.digit (s.data.toList.drop at0) > 1 then 1 else 0)
    else if Tk.signLen (s.data.toList.drop at0) = 0 then 1 else 0 := by
    rw [hd]; exact errOf_cons _ _
  have e1 : Tk.kindOf (s.data.toList.drop at0) = if Tk.small s[at0].toNat then 1 else if Tk.great s[at0].toNat then 2 else if Tk.digit s[at0].toNat then 3 else 4 := by
    rw [hd]; exact kindOf_cons _ _
  have e2 : Tk.lenOf (s.data.toList.drop at0) = if Tk.small s[at0].toNat || Tk.great s[at0].toNat then Tk.pre Tk.alnum (s.data.toList.drop at0) else if Tk.digit s[at0].toNat then Tk.pre Tk.digit (s.data.toList.drop at0) else Tk.signLen (s.data.toList.drop at0) := by
    rw [hd]; exact lenOf_cons _ _
  rw [he] at e0
  clear hd he
  have HV : Hid (∀ (k : Int) (n : Nat), k = Tk.kindOf (s.data.toList.drop at0) → n = Tk.lenOf (s.data.toList.drop at0) → Ending.returned (.agg #[.int .i64 k, .int .i64 at0, .string (s.extract at0 (at0 + n))]) = .returned (tokVal (Tk.tokAt s.data.toList at0))) := by
    intro k n hk hn
    exact ret_tok hk hn _ rfl
  generalize tokVal (Tk.tokAt s.data.toList at0) = V at *
  cases h1 : Tk.small (s[at0].toNat : Int)
  · cases h2 : Tk.great (s[at0].toNat : Int)
    · cases h3 : Tk.digit (s[at0].toNat : Int)
      · rw [h1, h2, h3] at e0 e1 e2
        simp only [Bool.or_self, Bool.false_eq_true, if_false] at e0 e1 e2
        have hn : 0 < Tk.signLen (s.data.toList.drop at0) := by
          by_cases h : Tk.signLen (s.data.toList.drop at0) = 0
          · rw [if_pos h] at e0; exact absurd e0 (by decide)
          · omega
        have HF : Hid (_ = _) := HV.out 4 (Tk.signLen (s.data.toList.drop at0)) e1.symm e2.symm
        clear e0 e1 e2 HV
        go_enter Try.func23, Try.ntmps23
        go_wp2_with (first | (go_at_call 30; refine (isSmall_any _ _).mono ?_; rintro e w' ⟨rfl, rfl⟩) | (go_at_call 32; refine (isGreat_any _ _).mono ?_; rintro e w' ⟨rfl, rfl⟩) | (go_at_call 33; refine (isDigit_any _ _).mono ?_; rintro e w' ⟨rfl, rfl⟩) | (go_at_call 35; refine (sign_yes s at0 _ hs ha hn).mono ?_; rintro e w1 ⟨rfl, hb1⟩; obtain ⟨⟨c0, c1, c2⟩, f0, f1, f2⟩ := tokCell hb1))
        exact bodyPost_ret (v := .agg #[.int .i64 4, .int .i64 at0, .string (s.extract at0 (at0 + Tk.signLen (s.data.toList.drop at0)))]) (by simp [results, Try.results23, go_sem, c0, c1, c2]) rfl ⟨HF.out, below_tok hb1 _ _ _⟩
      · rw [h1, h2, h3] at e0 e1 e2
        simp only [Bool.or_self, Bool.false_eq_true, if_false, if_true] at e0 e1 e2
        have hm : Tk.pre Tk.digit (s.data.toList.drop at0) ≤ 7 := by
          by_cases h : Tk.pre Tk.digit (s.data.toList.drop at0) > 7
          · rw [if_pos h] at e0; exact absurd e0 (by decide)
          · omega
        have hn : ((s[at0].toNat : Int) == 48) = false ∨ Tk.pre Tk.digit (s.data.toList.drop at0) ≤ 1 := by
          rw [if_neg (by omega)] at e0
          by_cases h : (s[at0].toNat : Int) = 48 ∧ Tk.pre Tk.digit (s.data.toList.drop at0) > 1
          · rw [if_pos h] at e0; exact absurd e0 (by decide)
          · by_cases h4 : (s[at0].toNat : Int) = 48
            · exact .inr (by omega)
            · exact .inl (beq_eq_false_iff_ne.2 h4)
        have HN : Hid (((s[at0].toNat : Int) == 48) = false ∨ Tk.pre Tk.digit (s.data.toList.drop at0) ≤ 1) := hn
        have HF : Hid (_ = _) := HV.out 3 (Tk.pre Tk.digit (s.data.toList.drop at0)) e1.symm e2.symm
        clear e0 e1 e2 HV hn
        go_enter Try.func23, Try.ntmps23
        go_wp2_with (first | (go_at_call 30; refine (isSmall_any _ _).mono ?_; rintro e w' ⟨rfl, rfl⟩) | (go_at_call 32; refine (isGreat_any _ _).mono ?_; rintro e w' ⟨rfl, rfl⟩) | (go_at_call 33; refine (isDigit_any _ _).mono ?_; rintro e w' ⟨rfl, rfl⟩) | (go_at_call 34; refine (number_yes s at0 _ hs ha hm HN.out).mono ?_; rintro e w1 ⟨rfl, hb1⟩; obtain ⟨⟨c0, c1, c2⟩, f0, f1, f2⟩ := tokCell hb1))
        exact bodyPost_ret (v := .agg #[.int .i64 3, .int .i64 at0, .string (s.extract at0 (at0 + Tk.pre Tk.digit (s.data.toList.drop at0)))]) (by simp [results, Try.results23, go_sem, c0, c1, c2]) rfl ⟨HF.out, below_tok hb1 _ _ _⟩
    · rw [h1, h2] at e0 e1 e2
      simp only [Bool.or_true, Bool.false_eq_true, if_false, if_true] at e0 e1 e2
      have hn : Tk.pre Tk.alnum (s.data.toList.drop at0) ≤ 12 := by
        by_cases h : Tk.pre Tk.alnum (s.data.toList.drop at0) > 12
        · rw [if_pos h] at e0; exact absurd e0 (by decide)
        · omega
      have HF : Hid (_ = _) := HV.out 2 (Tk.pre Tk.alnum (s.data.toList.drop at0)) e1.symm e2.symm
      clear e0 e1 e2 HV
      go_enter Try.func23, Try.ntmps23
      go_wp2_with (first | (go_at_call 30; refine (isSmall_any _ _).mono ?_; rintro e w' ⟨rfl, rfl⟩) | (go_at_call 32; refine (isGreat_any _ _).mono ?_; rintro e w' ⟨rfl, rfl⟩) | (go_at_call 33; refine (isDigit_any _ _).mono ?_; rintro e w' ⟨rfl, rfl⟩) | (go_at_call 31; refine (word_yes s at0 2 _ hs (by omega) hn).mono ?_; rintro e w1 ⟨rfl, hb1⟩; obtain ⟨⟨c0, c1, c2⟩, f0, f1, f2⟩ := tokCell hb1))
      exact bodyPost_ret (v := .agg #[.int .i64 2, .int .i64 at0, .string (s.extract at0 (at0 + Tk.pre Tk.alnum (s.data.toList.drop at0)))]) (by simp [results, Try.results23, go_sem, c0, c1, c2]) rfl ⟨HF.out, below_tok hb1 _ _ _⟩
  · rw [h1] at e0 e1 e2
    simp only [Bool.true_or, if_true] at e0 e1 e2
    have hn : Tk.pre Tk.alnum (s.data.toList.drop at0) ≤ 12 := by
      by_cases h : Tk.pre Tk.alnum (s.data.toList.drop at0) > 12
      · rw [if_pos h] at e0; exact absurd e0 (by decide)
      · omega
    have HF : Hid (_ = _) := HV.out 1 (Tk.pre Tk.alnum (s.data.toList.drop at0)) e1.symm e2.symm
    clear e0 e1 e2 HV
    go_enter Try.func23, Try.ntmps23
    go_wp2_with (first | (go_at_call 30; refine (isSmall_any _ _).mono ?_; rintro e w' ⟨rfl, rfl⟩) | (go_at_call 32; refine (isGreat_any _ _).mono ?_; rintro e w' ⟨rfl, rfl⟩) | (go_at_call 33; refine (isDigit_any _ _).mono ?_; rintro e w' ⟨rfl, rfl⟩) | (go_at_call 31; refine (word_yes s at0 1 _ hs (by omega) hn).mono ?_; rintro e w1 ⟨rfl, hb1⟩; obtain ⟨⟨c0, c1, c2⟩, f0, f1, f2⟩ := tokCell hb1))
    exact bodyPost_ret (v := .agg #[.int .i64 1, .int .i64 at0, .string (s.extract at0 (at0 + Tk.pre Tk.alnum (s.data.toList.drop at0)))]) (by simp [results, Try.results23, go_sem, c0, c1, c2]) rfl ⟨HF.out, below_tok hb1 _ _ _⟩

end Go.Proofs.Ytcfmjoidaehfkaa
