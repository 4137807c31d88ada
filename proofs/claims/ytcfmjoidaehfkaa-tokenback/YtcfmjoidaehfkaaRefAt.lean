/- The document's answer: the token at a place. -/
import Derived.Test.YtcfmjoidaehfkaaScanTop
namespace Go.Proofs.Ytcfmjoidaehfkaa
open Go.RowKit

set_option maxHeartbeats 400000 in
theorem between_any (n a b : Int) (w : World) : Calls Try.prog 36 #[.int .i64 n, .int .i64 a, .int .i64 b] w fun e w' => e = .returned (.bool (decide (a ≤ n) && decide (n ≤ b))) ∧ w' = w := by
  by_cases h : a ≤ n
  · go_enter Try.func36, Try.ntmps36
    go_wp2
    go_ret
    exact ⟨by simp [h], rfl⟩
  · have hd : decide (a ≤ n) = false := by simpa using h
    go_enter Try.func36, Try.ntmps36
    go_wp2
    go_ret
    exact ⟨rfl, rfl⟩

set_option maxHeartbeats 400000 in
theorem refSmall_any (n : Int) (w : World) (h0 : 0 ≤ n) (h1 : n ≤ 255) : Calls Try.prog 26 #[.int .u8 n] w fun e w' => e = .returned (.bool (Tk.small n)) ∧ w' = w := by
  unfold Tk.small
  go_enter Try.func26, Try.ntmps26
  go_wp2_with (go_at_call 36; refine (between_any _ _ _ _).mono ?_; rintro e w' ⟨rfl, rfl⟩)
  go_ret
  exact ⟨rfl, rfl⟩

set_option maxHeartbeats 400000 in
theorem refDigit_any (n : Int) (w : World) (h0 : 0 ≤ n) (h1 : n ≤ 255) : Calls Try.prog 25 #[.int .u8 n] w fun e w' => e = .returned (.bool (Tk.digit n)) ∧ w' = w := by
  unfold Tk.digit
  go_enter Try.func25, Try.ntmps25
  go_wp2_with (go_at_call 36; refine (between_any _ _ _ _).mono ?_; rintro e w' ⟨rfl, rfl⟩)
  go_ret
  exact ⟨rfl, rfl⟩

set_option maxHeartbeats 400000 in
theorem refLetter_any (n : Int) (w : World) (h0 : 0 ≤ n) (h1 : n ≤ 255) : Calls Try.prog 24 #[.int .u8 n] w fun e w' => e = .returned (.bool (Tk.small n || Tk.great n)) ∧ w' = w := by
  unfold Tk.great
  cases h : Tk.small n
  · go_enter Try.func24, Try.ntmps24
    go_wp2_with (first | (go_at_call 26; refine (refSmall_any _ _ h0 h1).mono ?_; rintro e w' ⟨rfl, rfl⟩) | (go_at_call 36; refine (between_any _ _ _ _).mono ?_; rintro e w' ⟨rfl, rfl⟩))
    go_ret
    exact ⟨rfl, rfl⟩
  · go_enter Try.func24, Try.ntmps24
    go_wp2_with (first | (go_at_call 26; refine (refSmall_any _ _ h0 h1).mono ?_; rintro e w' ⟨rfl, rfl⟩) | (go_at_call 36; refine (between_any _ _ _ _).mono ?_; rintro e w' ⟨rfl, rfl⟩))
    go_ret
    exact ⟨rfl, rfl⟩

theorem byte_bd (x : UInt8) : (0 : Int) ≤ (x.toNat : Int) ∧ (x.toNat : Int) ≤ 255 := by have := x.toNat_lt; omega
theorem ret_two {j k : IntKind} {a b c d : Int} (h : a = b) (h' : c = d) : Ending.returned (.tuple #[.int j a, .int k c]) = .returned (.tuple #[.int j b, .int k d]) := by rw [h, h']

set_option maxHeartbeats 1000000 in
theorem refAt_name (s : ByteArray) (at0 : Nat) (w : World) (hs : s.size ≤ 281474976710656) (ha : at0 < s.size) (hsm : Tk.small s[at0].toNat = true) :
    Calls Try.prog 14 #[.string s, .int .i64 at0] w fun e w' => e = .returned (.tuple #[.int .i64 1, .int .i64 (Tk.pre Tk.alnum (s.data.toList.drop at0) : Nat)]) ∧ w' = w := by
  have hb0 := byte_bd s[at0]
  go_enter Try.func14, Try.ntmps14
  go_wp2_with (go_at_call 24; refine (refLetter_any _ _ hb0.1 hb0.2).mono ?_; rintro e w' ⟨rfl, rfl⟩)
  go_loop [7] (fun i => ∃ k : Nat, 1 ≤ k ∧ at0 + k ≤ s.size ∧ i = .int .i64 k ∧ Tk.pre Tk.alnum (s.data.toList.drop at0) = k + Tk.pre Tk.alnum (s.data.toList.drop (at0 + k))) (fun i => s.size - (intOf i).toNat)
  case atStart =>
    refine ⟨1, by omega, by omega, rfl, ?_⟩
    have := Tk.pre_drop_yes Tk.alnum s.data.toList at0 (by simpa using ha) (by unfold Tk.alnum; rw [show s.data.toList[at0] = s[at0] from rfl, hsm]; rfl)
    omega
  case round =>
    obtain ⟨k, hk1, hk2, rfl, hk3⟩ := hrel
    have HK : Hid (Tk.pre Tk.alnum (s.data.toList.drop at0) = k + Tk.pre Tk.alnum (s.data.toList.drop (at0 + k))) := hk3
    clear hk3
    by_cases hlt : at0 + k < s.size
    · have hbk := byte_bd s[at0 + k]
      have hl : at0 + k < s.data.toList.length := by simpa using hlt
      cases h1 : (Tk.small s[at0 + k].toNat || Tk.great s[at0 + k].toNat)
      · cases h2 : Tk.digit s[at0 + k].toNat
        · have HE : Hid (Tk.pre Tk.alnum (s.data.toList.drop (at0 + k)) = 0) := Tk.pre_drop_no Tk.alnum s.data.toList (at0 + k) hl (by unfold Tk.alnum; rw [show s.data.toList[at0 + k] = s[at0 + k] from rfl, h1, h2]; rfl)
          go_wp2_with (first | (go_at_call 24; refine (refLetter_any _ _ hbk.1 hbk.2).mono ?_; rintro e w' ⟨rfl, rfl⟩) | (go_at_call 25; refine (refDigit_any _ _ hbk.1 hbk.2).mono ?_; rintro e w' ⟨rfl, rfl⟩) | (go_at_call 26; refine (refSmall_any _ _ hb0.1 hb0.2).mono ?_; rintro e w' ⟨rfl, rfl⟩))
          go_ret2
          exact ⟨ret_two rfl (by have e1 := HK.out; have e2 := HE.out; omega), rfl⟩
        · have HE : Hid (Tk.pre Tk.alnum (s.data.toList.drop (at0 + k)) = Tk.pre Tk.alnum (s.data.toList.drop (at0 + k + 1)) + 1) := Tk.pre_drop_yes Tk.alnum s.data.toList (at0 + k) hl (by unfold Tk.alnum; rw [show s.data.toList[at0 + k] = s[at0 + k] from rfl, h1, h2]; rfl)
          go_wp2_with (first | (go_at_call 24; refine (refLetter_any _ _ hbk.1 hbk.2).mono ?_; rintro e w' ⟨rfl, rfl⟩) | (go_at_call 25; refine (refDigit_any _ _ hbk.1 hbk.2).mono ?_; rintro e w' ⟨rfl, rfl⟩))
          go_round
          case rel => exact ⟨k + 1, by omega, by omega, by go_num, by rw [HK.out, HE.out, show at0 + (k + 1) = at0 + k + 1 from by omega]; omega⟩
          case measure => simp [intOf]; omega
      · have HE : Hid (Tk.pre Tk.alnum (s.data.toList.drop (at0 + k)) = Tk.pre Tk.alnum (s.data.toList.drop (at0 + k + 1)) + 1) := Tk.pre_drop_yes Tk.alnum s.data.toList (at0 + k) hl (by unfold Tk.alnum; rw [show s.data.toList[at0 + k] = s[at0 + k] from rfl, h1]; rfl)
        go_wp2_with (first | (go_at_call 24; refine (refLetter_any _ _ hbk.1 hbk.2).mono ?_; rintro e w' ⟨rfl, rfl⟩) | (go_at_call 25; refine (refDigit_any _ _ hbk.1 hbk.2).mono ?_; rintro e w' ⟨rfl, rfl⟩))
        go_round
        case rel => exact ⟨k + 1, by omega, by omega, by go_num, by rw [HK.out, HE.out, show at0 + (k + 1) = at0 + k + 1 from by omega]; omega⟩
        case measure => simp [intOf]; omega
    · have HE : Hid (Tk.pre Tk.alnum (s.data.toList.drop (at0 + k)) = 0) := Tk.pre_drop_end Tk.alnum s.data.toList (at0 + k) (by simp; omega)
      have hd : decide ((at0 : Int) + (k : Int) < (s.size : Int)) = false := by simp; omega
      go_wp2_with (go_at_call 26; refine (refSmall_any _ _ hb0.1 hb0.2).mono ?_; rintro e w' ⟨rfl, rfl⟩)
      go_ret2
      exact ⟨ret_two rfl (by have e1 := HK.out; have e2 := HE.out; omega), rfl⟩

set_option maxHeartbeats 1000000 in
theorem refAt_var (s : ByteArray) (at0 : Nat) (w : World) (hs : s.size ≤ 281474976710656) (ha : at0 < s.size) (hsm : Tk.small s[at0].toNat = false) (hG : Tk.great s[at0].toNat = true) :
    Calls Try.prog 14 #[.string s, .int .i64 at0] w fun e w' => e = .returned (.tuple #[.int .i64 2, .int .i64 (Tk.pre Tk.alnum (s.data.toList.drop at0) : Nat)]) ∧ w' = w := by
  have hb0 := byte_bd s[at0]
  go_enter Try.func14, Try.ntmps14
  go_wp2_with (go_at_call 24; refine (refLetter_any _ _ hb0.1 hb0.2).mono ?_; rintro e w' ⟨rfl, rfl⟩)
  go_loop [7] (fun i => ∃ k : Nat, 1 ≤ k ∧ at0 + k ≤ s.size ∧ i = .int .i64 k ∧ Tk.pre Tk.alnum (s.data.toList.drop at0) = k + Tk.pre Tk.alnum (s.data.toList.drop (at0 + k))) (fun i => s.size - (intOf i).toNat)
  case atStart =>
    refine ⟨1, by omega, by omega, rfl, ?_⟩
    have := Tk.pre_drop_yes Tk.alnum s.data.toList at0 (by simpa using ha) (by unfold Tk.alnum; rw [show s.data.toList[at0] = s[at0] from rfl, hsm, hG]; rfl)
    omega
  case round =>
    obtain ⟨k, hk1, hk2, rfl, hk3⟩ := hrel
    have HK : Hid (Tk.pre Tk.alnum (s.data.toList.drop at0) = k + Tk.pre Tk.alnum (s.data.toList.drop (at0 + k))) := hk3
    clear hk3
    by_cases hlt : at0 + k < s.size
    · have hbk := byte_bd s[at0 + k]
      have hl : at0 + k < s.data.toList.length := by simpa using hlt
      cases h1 : (Tk.small s[at0 + k].toNat || Tk.great s[at0 + k].toNat)
      · cases h2 : Tk.digit s[at0 + k].toNat
        · have HE : Hid (Tk.pre Tk.alnum (s.data.toList.drop (at0 + k)) = 0) := Tk.pre_drop_no Tk.alnum s.data.toList (at0 + k) hl (by unfold Tk.alnum; rw [show s.data.toList[at0 + k] = s[at0 + k] from rfl, h1, h2]; rfl)
          go_wp2_with (first | (go_at_call 24; refine (refLetter_any _ _ hbk.1 hbk.2).mono ?_; rintro e w' ⟨rfl, rfl⟩) | (go_at_call 25; refine (refDigit_any _ _ hbk.1 hbk.2).mono ?_; rintro e w' ⟨rfl, rfl⟩) | (go_at_call 26; refine (refSmall_any _ _ hb0.1 hb0.2).mono ?_; rintro e w' ⟨rfl, rfl⟩))
          go_ret2
          exact ⟨ret_two rfl (by have e1 := HK.out; have e2 := HE.out; omega), rfl⟩
        · have HE : Hid (Tk.pre Tk.alnum (s.data.toList.drop (at0 + k)) = Tk.pre Tk.alnum (s.data.toList.drop (at0 + k + 1)) + 1) := Tk.pre_drop_yes Tk.alnum s.data.toList (at0 + k) hl (by unfold Tk.alnum; rw [show s.data.toList[at0 + k] = s[at0 + k] from rfl, h1, h2]; rfl)
          go_wp2_with (first | (go_at_call 24; refine (refLetter_any _ _ hbk.1 hbk.2).mono ?_; rintro e w' ⟨rfl, rfl⟩) | (go_at_call 25; refine (refDigit_any _ _ hbk.1 hbk.2).mono ?_; rintro e w' ⟨rfl, rfl⟩))
          go_round
          case rel => exact ⟨k + 1, by omega, by omega, by go_num, by rw [HK.out, HE.out, show at0 + (k + 1) = at0 + k + 1 from by omega]; omega⟩
          case measure => simp [intOf]; omega
      · have HE : Hid (Tk.pre Tk.alnum (s.data.toList.drop (at0 + k)) = Tk.pre Tk.alnum (s.data.toList.drop (at0 + k + 1)) + 1) := Tk.pre_drop_yes Tk.alnum s.data.toList (at0 + k) hl (by unfold Tk.alnum; rw [show s.data.toList[at0 + k] = s[at0 + k] from rfl, h1]; rfl)
        go_wp2_with (first | (go_at_call 24; refine (refLetter_any _ _ hbk.1 hbk.2).mono ?_; rintro e w' ⟨rfl, rfl⟩) | (go_at_call 25; refine (refDigit_any _ _ hbk.1 hbk.2).mono ?_; rintro e w' ⟨rfl, rfl⟩))
        go_round
        case rel => exact ⟨k + 1, by omega, by omega, by go_num, by rw [HK.out, HE.out, show at0 + (k + 1) = at0 + k + 1 from by omega]; omega⟩
        case measure => simp [intOf]; omega
    · have HE : Hid (Tk.pre Tk.alnum (s.data.toList.drop (at0 + k)) = 0) := Tk.pre_drop_end Tk.alnum s.data.toList (at0 + k) (by simp; omega)
      have hd : decide ((at0 : Int) + (k : Int) < (s.size : Int)) = false := by simp; omega
      go_wp2_with (go_at_call 26; refine (refSmall_any _ _ hb0.1 hb0.2).mono ?_; rintro e w' ⟨rfl, rfl⟩)
      go_ret2
      exact ⟨ret_two rfl (by have e1 := HK.out; have e2 := HE.out; omega), rfl⟩

set_option maxHeartbeats 1000000 in
theorem refAt_number (s : ByteArray) (at0 : Nat) (w : World) (hs : s.size ≤ 281474976710656) (ha : at0 < s.size) (hsm : Tk.small s[at0].toNat = false) (hG : Tk.great s[at0].toNat = false) (hD : Tk.digit s[at0].toNat = true) :
    Calls Try.prog 14 #[.string s, .int .i64 at0] w fun e w' => e = .returned (.tuple #[.int .i64 3, .int .i64 (Tk.pre Tk.digit (s.data.toList.drop at0) : Nat)]) ∧ w' = w := by
  have hb0 := byte_bd s[at0]
  go_enter Try.func14, Try.ntmps14
  go_wp2_with (first | (go_at_call 24; refine (refLetter_any _ _ hb0.1 hb0.2).mono ?_; rintro e w' ⟨rfl, rfl⟩) | (go_at_call 25; refine (refDigit_any _ _ hb0.1 hb0.2).mono ?_; rintro e w' ⟨rfl, rfl⟩))
  go_loop [7] (fun i => ∃ k : Nat, 1 ≤ k ∧ at0 + k ≤ s.size ∧ i = .int .i64 k ∧ Tk.pre Tk.digit (s.data.toList.drop at0) = k + Tk.pre Tk.digit (s.data.toList.drop (at0 + k))) (fun i => s.size - (intOf i).toNat)
  case atStart =>
    refine ⟨1, by omega, by omega, rfl, ?_⟩
    have := Tk.pre_drop_yes Tk.digit s.data.toList at0 (by simpa using ha) hD
    omega
  case round =>
    obtain ⟨k, hk1, hk2, rfl, hk3⟩ := hrel
    have HK : Hid (Tk.pre Tk.digit (s.data.toList.drop at0) = k + Tk.pre Tk.digit (s.data.toList.drop (at0 + k))) := hk3
    clear hk3
    by_cases hlt : at0 + k < s.size
    · have hbk := byte_bd s[at0 + k]
      have hl : at0 + k < s.data.toList.length := by simpa using hlt
      cases h2 : Tk.digit s[at0 + k].toNat
      · have HE : Hid (Tk.pre Tk.digit (s.data.toList.drop (at0 + k)) = 0) := Tk.pre_drop_no Tk.digit s.data.toList (at0 + k) hl h2
        go_wp2_with (go_at_call 25; refine (refDigit_any _ _ hbk.1 hbk.2).mono ?_; rintro e w' ⟨rfl, rfl⟩)
        go_ret2
        exact ⟨ret_two rfl (by have e1 := HK.out; have e2 := HE.out; omega), rfl⟩
      · have HE : Hid (Tk.pre Tk.digit (s.data.toList.drop (at0 + k)) = Tk.pre Tk.digit (s.data.toList.drop (at0 + k + 1)) + 1) := Tk.pre_drop_yes Tk.digit s.data.toList (at0 + k) hl h2
        go_wp2_with (go_at_call 25; refine (refDigit_any _ _ hbk.1 hbk.2).mono ?_; rintro e w' ⟨rfl, rfl⟩)
        go_round
        case rel => exact ⟨k + 1, by omega, by omega, by go_num, by rw [HK.out, HE.out, show at0 + (k + 1) = at0 + k + 1 from by omega]; omega⟩
        case measure => simp [intOf]; omega
    · have HE : Hid (Tk.pre Tk.digit (s.data.toList.drop (at0 + k)) = 0) := Tk.pre_drop_end Tk.digit s.data.toList (at0 + k) (by simp; omega)
      have hd : decide ((at0 : Int) + (k : Int) < (s.size : Int)) = false := by simp; omega
      go_wp2_with fail
      go_ret2
      exact ⟨ret_two rfl (by have e1 := HK.out; have e2 := HE.out; omega), rfl⟩

end Go.Proofs.Ytcfmjoidaehfkaa
