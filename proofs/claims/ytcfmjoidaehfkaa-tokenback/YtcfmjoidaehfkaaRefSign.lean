/- The document's answer: the sign at a place. -/
import Derived.Test.YtcfmjoidaehfkaaRefAt
namespace Go.Proofs.Ytcfmjoidaehfkaa
open Go.RowKit

set_option maxHeartbeats 1000000 in
theorem refAt_two (s : ByteArray) (at0 : Nat) (w : World) (hs : s.size ≤ 281474976710656) (ha : at0 < s.size) (hsm : Tk.small s[at0].toNat = false) (hG : Tk.great s[at0].toNat = false) (hD : Tk.digit s[at0].toNat = false) (hlt : at0 + 1 < s.size)
    (h3 : ((s.extract at0 (at0 + 2)).toList == [58, 45]) = true ∨ ((s.extract at0 (at0 + 2)).toList == [60, 61]) = true ∨ ((s.extract at0 (at0 + 2)).toList == [33, 61]) = true) :
    Calls Try.prog 14 #[.string s, .int .i64 at0] w fun e w' => e = .returned (.tuple #[.int .i64 4, .int .i64 2]) ∧ w' = w := by
  have hb0 := byte_bd s[at0]
  cases t1 : ((s.extract at0 (at0 + 2)).toList == [58, 45])
  · cases t2 : ((s.extract at0 (at0 + 2)).toList == [60, 61])
    · have t3 : ((s.extract at0 (at0 + 2)).toList == [33, 61]) = true := by
        rcases h3 with h | h | h
        · rw [h] at t1; cases t1
        · rw [h] at t2; cases t2
        · exact h
      clear h3
      go_enter Try.func14, Try.ntmps14
      go_wp2_with (first | (go_at_call 24; refine (refLetter_any _ _ hb0.1 hb0.2).mono ?_; rintro e w' ⟨rfl, rfl⟩) | (go_at_call 25; refine (refDigit_any _ _ hb0.1 hb0.2).mono ?_; rintro e w' ⟨rfl, rfl⟩))
      go_ret2
      exact ⟨rfl, rfl⟩
    · clear h3
      go_enter Try.func14, Try.ntmps14
      go_wp2_with (first | (go_at_call 24; refine (refLetter_any _ _ hb0.1 hb0.2).mono ?_; rintro e w' ⟨rfl, rfl⟩) | (go_at_call 25; refine (refDigit_any _ _ hb0.1 hb0.2).mono ?_; rintro e w' ⟨rfl, rfl⟩))
      go_ret2
      exact ⟨rfl, rfl⟩
  · clear h3
    go_enter Try.func14, Try.ntmps14
    go_wp2_with (first | (go_at_call 24; refine (refLetter_any _ _ hb0.1 hb0.2).mono ?_; rintro e w' ⟨rfl, rfl⟩) | (go_at_call 25; refine (refDigit_any _ _ hb0.1 hb0.2).mono ?_; rintro e w' ⟨rfl, rfl⟩))
    go_ret2
    exact ⟨rfl, rfl⟩

theorem sign_hit (c : UInt8) (k : Nat) (hk : k < 9) (h : ((({ data := #[40, 41, 44, 46, 60, 61, 43, 45, 42] } : ByteArray)[k]'hk).toNat : Int) == (c.toNat : Int)) : (List.drop k [40, 41, 44, 46, 60, 61, 43, 45, 42]).contains c = true := by
  have h1 : ({ data := #[40, 41, 44, 46, 60, 61, 43, 45, 42] } : ByteArray)[k]'hk = c := by
    have := beq_iff_eq.1 h
    exact UInt8.toNat_inj.1 (by omega)
  have h2 : ([40, 41, 44, 46, 60, 61, 43, 45, 42] : List UInt8)[k]'hk = c := h1
  rw [Tk.drop_cons [40, 41, 44, 46, 60, 61, 43, 45, 42] k hk, h2]
  simp
theorem sign_skip (c : UInt8) (k : Nat) (hk : k < 9) (h : (((({ data := #[40, 41, 44, 46, 60, 61, 43, 45, 42] } : ByteArray)[k]'hk).toNat : Int) == (c.toNat : Int)) = false) : (List.drop k [40, 41, 44, 46, 60, 61, 43, 45, 42]).contains c = (List.drop (k + 1) [40, 41, 44, 46, 60, 61, 43, 45, 42]).contains c := by
  have h1 : ¬ ({ data := #[40, 41, 44, 46, 60, 61, 43, 45, 42] } : ByteArray)[k]'hk = c := by
    intro e
    have := beq_eq_false_iff_ne.1 h
    exact this (by rw [e])
  have h2 : ¬ c = ([40, 41, 44, 46, 60, 61, 43, 45, 42] : List UInt8)[k]'hk := fun e => h1 e.symm
  rw [Tk.drop_cons [40, 41, 44, 46, 60, 61, 43, 45, 42] k hk, List.contains_cons, beq_eq_false_iff_ne.2 h2, Bool.false_or]

set_option maxHeartbeats 1000000 in
theorem refAt_one (s : ByteArray) (at0 : Nat) (w : World) (hs : s.size ≤ 281474976710656) (ha : at0 < s.size) (hsm : Tk.small s[at0].toNat = false) (hG : Tk.great s[at0].toNat = false) (hD : Tk.digit s[at0].toNat = false) (h3 : ¬ at0 + 1 < s.size ∨ (at0 + 1 < s.size ∧ ((s.extract at0 (at0 + 2)).toList == [58, 45]) = false ∧ ((s.extract at0 (at0 + 2)).toList == [60, 61]) = false ∧ ((s.extract at0 (at0 + 2)).toList == [33, 61]) = false))
    (V : Ending) (hS : Tk.isSign s[at0] = true → V = .returned (.tuple #[.int .i64 4, .int .i64 1])) (hT : Tk.isSign s[at0] = false → V = .returned (.tuple #[.int .i64 0, .int .i64 0])) :
    Calls Try.prog 14 #[.string s, .int .i64 at0] w fun e w' => e = V ∧ w' = w := by
  have hb0 := byte_bd s[at0]
  have HS : Hid (Tk.isSign s[at0] = true → V = .returned (.tuple #[.int .i64 4, .int .i64 1])) := hS
  have HT : Hid (Tk.isSign s[at0] = false → V = .returned (.tuple #[.int .i64 0, .int .i64 0])) := hT
  clear hS hT
  rcases h3 with h3 | ⟨hlt, t1, t2, t3⟩
  · go_enter Try.func14, Try.ntmps14
    go_wp2_with (first | (go_at_call 24; refine (refLetter_any _ _ hb0.1 hb0.2).mono ?_; rintro e w' ⟨rfl, rfl⟩) | (go_at_call 25; refine (refDigit_any _ _ hb0.1 hb0.2).mono ?_; rintro e w' ⟨rfl, rfl⟩))
    go_loop [10] (fun i => ∃ k : Nat, k ≤ 9 ∧ i = .int .i64 k ∧ Tk.isSign s[at0] = (List.drop k [40, 41, 44, 46, 60, 61, 43, 45, 42]).contains s[at0]) (fun i => 9 - (intOf i).toNat)
    case atStart => exact ⟨0, by omega, rfl, rfl⟩
    case round =>
      obtain ⟨k, hk, rfl, hk2⟩ := hrel
      have HK : Hid (Tk.isSign s[at0] = (List.drop k [40, 41, 44, 46, 60, 61, 43, 45, 42]).contains s[at0]) := hk2
      clear hk2
      by_cases hlt9 : k < 9
      · cases hc : ((({ data := #[40, 41, 44, 46, 60, 61, 43, 45, 42] } : ByteArray)[k]'hlt9).toNat : Int) == (s[at0].toNat : Int)
        · have HC : Hid (Tk.isSign s[at0] = (List.drop (k + 1) [40, 41, 44, 46, 60, 61, 43, 45, 42]).contains s[at0]) := HK.out.trans (sign_skip _ k hlt9 hc)
          go_wp2
          go_round
          case rel => exact ⟨k + 1, by omega, by go_num, HC.out⟩
          case measure => simp [intOf]; omega
        · have HC : Hid (Tk.isSign s[at0] = true) := HK.out.trans (sign_hit _ k hlt9 hc)
          go_wp2
          go_ret2
          exact ⟨(HS.out HC.out).symm, rfl⟩
      · have HC : Hid (Tk.isSign s[at0] = false) := by rw [HK.out, List.drop_of_length_le (by simp; omega)]; rfl
        go_wp2
        go_ret2
        exact ⟨(HT.out HC.out).symm, rfl⟩
  · go_enter Try.func14, Try.ntmps14
    go_wp2_with (first | (go_at_call 24; refine (refLetter_any _ _ hb0.1 hb0.2).mono ?_; rintro e w' ⟨rfl, rfl⟩) | (go_at_call 25; refine (refDigit_any _ _ hb0.1 hb0.2).mono ?_; rintro e w' ⟨rfl, rfl⟩))
    go_loop [10] (fun i => ∃ k : Nat, k ≤ 9 ∧ i = .int .i64 k ∧ Tk.isSign s[at0] = (List.drop k [40, 41, 44, 46, 60, 61, 43, 45, 42]).contains s[at0]) (fun i => 9 - (intOf i).toNat)
    case atStart => exact ⟨0, by omega, rfl, rfl⟩
    case round =>
      obtain ⟨k, hk, rfl, hk2⟩ := hrel
      have HK : Hid (Tk.isSign s[at0] = (List.drop k [40, 41, 44, 46, 60, 61, 43, 45, 42]).contains s[at0]) := hk2
      clear hk2
      by_cases hlt9 : k < 9
      · cases hc : ((({ data := #[40, 41, 44, 46, 60, 61, 43, 45, 42] } : ByteArray)[k]'hlt9).toNat : Int) == (s[at0].toNat : Int)
        · have HC : Hid (Tk.isSign s[at0] = (List.drop (k + 1) [40, 41, 44, 46, 60, 61, 43, 45, 42]).contains s[at0]) := HK.out.trans (sign_skip _ k hlt9 hc)
          go_wp2
          go_round
          case rel => exact ⟨k + 1, by omega, by go_num, HC.out⟩
          case measure => simp [intOf]; omega
        · have HC : Hid (Tk.isSign s[at0] = true) := HK.out.trans (sign_hit _ k hlt9 hc)
          go_wp2
          go_ret2
          exact ⟨(HS.out HC.out).symm, rfl⟩
      · have HC : Hid (Tk.isSign s[at0] = false) := by rw [HK.out, List.drop_of_length_le (by simp; omega)]; rfl
        go_wp2
        go_ret2
        exact ⟨(HT.out HC.out).symm, rfl⟩

/-- Two bytes ahead. -/
theorem two_pre (a b : UInt8) (l : List UInt8) : [a, b].isPrefixOf l = (l.take 2 == [a, b]) := by
  match l with
  | [] => rfl
  | [x] => simp [List.isPrefixOf]
  | x :: y :: r =>
    rw [Bool.eq_iff_iff]
    simp [List.isPrefixOf]
    constructor
    · rintro ⟨rfl, rfl⟩; exact ⟨rfl, rfl⟩
    · rintro ⟨rfl, rfl⟩; exact ⟨rfl, rfl⟩

theorem two_extract (s : ByteArray) (a : Nat) : (s.extract a (a + 2)).toList = (s.data.toList.drop a).take 2 := by
  rw [Lib.extract_toList, Nat.add_sub_cancel_left]

theorem refAt_sign (s : ByteArray) (at0 : Nat) (w : World) (hs : s.size ≤ 281474976710656) (ha : at0 < s.size) (hsm : Tk.small s[at0].toNat = false) (hG : Tk.great s[at0].toNat = false) (hD : Tk.digit s[at0].toNat = false) :
    Calls Try.prog 14 #[.string s, .int .i64 at0] w fun e w' => e = .returned (.tuple #[.int .i64 (if Tk.signLen (s.data.toList.drop at0) = 0 then 0 else 4), .int .i64 (Tk.signLen (s.data.toList.drop at0) : Nat)]) ∧ w' = w := by
  have hd := drop_at s at0 ha
  have e1 : Tk.signLen (s.data.toList.drop at0) = if [58, 45].isPrefixOf (s.data.toList.drop at0) || [60, 61].isPrefixOf (s.data.toList.drop at0) || [33, 61].isPrefixOf (s.data.toList.drop at0) then 2 else if Tk.isSign s[at0] then 1 else 0 := by
    rw [hd]; rfl
  rw [two_pre, two_pre, two_pre, ← two_extract] at e1
  by_cases h3 : ((s.extract at0 (at0 + 2)).toList == [58, 45]) = true ∨ ((s.extract at0 (at0 + 2)).toList == [60, 61]) = true ∨ ((s.extract at0 (at0 + 2)).toList == [33, 61]) = true
  · have hlt : at0 + 1 < s.size := by
      have hl : (s.extract at0 (at0 + 2)).toList.length = 2 := by
        rcases h3 with h | h | h <;> rw [beq_iff_eq.1 h] <;> rfl
      rw [two_extract, List.length_take] at hl
      have h2 : (s.data.toList.drop at0).length = s.size - at0 := by simp
      omega
    rw [if_pos (by simp only [Bool.or_eq_true]; rcases h3 with h | h | h; exact .inl (.inl h); exact .inl (.inr h); exact .inr h)] at e1
    rw [e1]
    exact refAt_two s at0 w hs ha hsm hG hD hlt h3
  · have f1 : ((s.extract at0 (at0 + 2)).toList == [58, 45]) = false := by simpa using fun h => h3 (.inl (beq_iff_eq.2 h))
    have f2 : ((s.extract at0 (at0 + 2)).toList == [60, 61]) = false := by simpa using fun h => h3 (.inr (.inl (beq_iff_eq.2 h)))
    have f3 : ((s.extract at0 (at0 + 2)).toList == [33, 61]) = false := by simpa using fun h => h3 (.inr (.inr (beq_iff_eq.2 h)))
    rw [f1, f2, f3, Bool.or_self, Bool.or_self, if_neg (by simp)] at e1
    refine refAt_one s at0 w hs ha hsm hG hD ?_ _ ?_ ?_
    · by_cases h : at0 + 1 < s.size
      · exact .inr ⟨h, f1, f2, f3⟩
      · exact .inl h
    · intro h; rw [h] at e1; rw [e1]; rfl
    · intro h; rw [h] at e1; rw [e1]; rfl

/-- What the document's answer tells of the token at a place: kind 0: none. -/
def refKind (l : List UInt8) : Int := if Tk.lenOf l = 0 then 0 else Tk.kindOf l

theorem refAt_any (s : ByteArray) (at0 : Nat) (w : World) (hs : s.size ≤ 281474976710656) (ha : at0 < s.size) :
    Calls Try.prog 14 #[.string s, .int .i64 at0] w fun e w' => e = .returned (.tuple #[.int .i64 (refKind (s.data.toList.drop at0)), .int .i64 (Tk.lenOf (s.data.toList.drop at0) : Nat)]) ∧ w' = w := by
  have hd := drop_at s at0 ha
  have e1 : Tk.kindOf (s.data.toList.drop at0) = if Tk.small s[at0].toNat then 1 else if Tk.great s[at0].toNat then 2 else if Tk.digit s[at0].toNat then 3 else 4 := by
    rw [hd]; exact kindOf_cons _ _
  have e2 : Tk.lenOf (s.data.toList.drop at0) = if Tk.small s[at0].toNat || Tk.great s[at0].toNat then Tk.pre Tk.alnum (s.data.toList.drop at0) else if Tk.digit s[at0].toNat then Tk.pre Tk.digit (s.data.toList.drop at0) else Tk.signLen (s.data.toList.drop at0) := by
    rw [hd]; exact lenOf_cons _ _
  have pw : (Tk.small s[at0].toNat || Tk.great s[at0].toNat) = true → ¬ Tk.pre Tk.alnum (s.data.toList.drop at0) = 0 := fun h => by
    have := Tk.pre_drop_yes Tk.alnum s.data.toList at0 (by simpa using ha) (by unfold Tk.alnum; rw [show s.data.toList[at0] = s[at0] from rfl, h]; rfl)
    omega
  unfold refKind
  rw [e1, e2]
  cases h1 : Tk.small s[at0].toNat
  · cases h2 : Tk.great s[at0].toNat
    · cases h3 : Tk.digit s[at0].toNat
      · simp only [Bool.or_self, Bool.false_eq_true, if_false]
        exact refAt_sign s at0 w hs ha h1 h2 h3
      · have h4 : ¬ Tk.pre Tk.digit (s.data.toList.drop at0) = 0 := by
          have := Tk.pre_drop_yes Tk.digit s.data.toList at0 (by simpa using ha) h3
          omega
        simp only [Bool.or_self, Bool.false_eq_true, if_false, if_true, h4]
        exact refAt_number s at0 w hs ha h1 h2 h3
    · have h4 := pw (by rw [h1, h2]; rfl)
      simp only [Bool.or_true, Bool.false_eq_true, if_false, if_true, h4]
      exact refAt_var s at0 w hs ha h1 h2
  · have h4 := pw (by rw [h1]; rfl)
    simp only [Bool.true_or, if_false, if_true, h4]
    exact refAt_name s at0 w hs ha h1

end Go.Proofs.Ytcfmjoidaehfkaa
