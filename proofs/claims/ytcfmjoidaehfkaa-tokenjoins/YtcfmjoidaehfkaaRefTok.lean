/- The document's answer: is a text just one token of a kind? -/
import Derived.Test.YtcfmjoidaehfkaaIsTok
namespace Go.Proofs.Ytcfmjoidaehfkaa
open Go.RowKit

set_option maxHeartbeats 400000 in
theorem refTok_empty (k : Int) (w : World) : Calls Try.prog 20 #[.int .i64 k, .string ⟨#[]⟩] w fun e w' => e = .returned (.bool false) ∧ w' = w := by
  go_enter Try.func20, Try.ntmps20
  go_wp2_with fail
  go_ret
  exact ⟨rfl, rfl⟩

set_option maxHeartbeats 400000 in
theorem refTok_long (k : Int) (s : ByteArray) (w : World) (h0 : s.toList.isEmpty = false) (hs : 5000 < s.size) : Calls Try.prog 20 #[.int .i64 k, .string s] w fun e w' => e = .returned (.bool false) ∧ w' = w := by
  go_enter Try.func20, Try.ntmps20
  go_wp2_with fail
  go_ret
  exact ⟨rfl, rfl⟩

set_option maxHeartbeats 400000 in
theorem refTok_zero (s : ByteArray) (w : World) (h0 : s.toList.isEmpty = false) (hs : s.size ≤ 5000) : Calls Try.prog 20 #[.int .i64 0, .string s] w fun e w' => e = .returned (.bool false) ∧ w' = w := by
  have hd : decide ((5000 : Int) < (s.size : Int)) = false := by simp; omega
  go_enter Try.func20, Try.ntmps20
  go_wp2_with fail
  go_ret
  exact ⟨rfl, rfl⟩

set_option maxHeartbeats 1000000 in
theorem refTok_off (s : ByteArray) (w : World) (h0 : s.toList.isEmpty = false) (hs : s.size ≤ 5000) (hpos : 0 < s.size) (k K : Int) (hk : (k == 0) = false) (g1 : (K == k) = false) (hR : refKind s.data.toList = K) :
    Calls Try.prog 20 #[.int .i64 k, .string s] w fun e w' => e = .returned (.bool false) ∧ w' = w := by
  have hd5 : decide ((5000 : Int) < (s.size : Int)) = false := by simp; omega
  have HA : Hid (Calls Try.prog 14 #[.string s, .int .i64 0] w fun e w' => e = .returned (.tuple #[.int .i64 K, .int .i64 (Tk.lenOf s.data.toList : Nat)]) ∧ w' = w) := by
    have h := refAt_any s 0 w (by omega) hpos
    rw [List.drop_zero, hR] at h
    exact h
  clear hR
  go_enter Try.func20, Try.ntmps20
  go_wp2_with fail
  refine Calls.mono HA.out ?_
  rintro e w1 ⟨rfl, rfl⟩
  go_wp2_with fail
  go_ret
  exact ⟨rfl, rfl⟩

set_option maxHeartbeats 1000000 in
theorem refTok_part (s : ByteArray) (w : World) (h0 : s.toList.isEmpty = false) (hs : s.size ≤ 5000) (hpos : 0 < s.size) (k K : Int) (hk : (k == 0) = false) (g1 : (K == k) = true) (g2 : ((Tk.lenOf s.data.toList : Int) == (s.size : Int)) = false) (hR : refKind s.data.toList = K) :
    Calls Try.prog 20 #[.int .i64 k, .string s] w fun e w' => e = .returned (.bool false) ∧ w' = w := by
  have hd5 : decide ((5000 : Int) < (s.size : Int)) = false := by simp; omega
  have HA : Hid (Calls Try.prog 14 #[.string s, .int .i64 0] w fun e w' => e = .returned (.tuple #[.int .i64 K, .int .i64 (Tk.lenOf s.data.toList : Nat)]) ∧ w' = w) := by
    have h := refAt_any s 0 w (by omega) hpos
    rw [List.drop_zero, hR] at h
    exact h
  clear hR
  go_enter Try.func20, Try.ntmps20
  go_wp2_with fail
  refine Calls.mono HA.out ?_
  rintro e w1 ⟨rfl, rfl⟩
  go_wp2_with fail
  go_ret
  exact ⟨rfl, rfl⟩

set_option maxHeartbeats 1000000 in
theorem refTok_long1 (s : ByteArray) (w : World) (h0 : s.toList.isEmpty = false) (hs : s.size ≤ 5000) (hpos : 0 < s.size) (g2 : ((Tk.lenOf s.data.toList : Int) == (s.size : Int)) = true) (hl : 12 < Tk.lenOf s.data.toList) (hR : refKind s.data.toList = 1) :
    Calls Try.prog 20 #[.int .i64 1, .string s] w fun e w' => e = .returned (.bool false) ∧ w' = w := by
  have hd5 : decide ((5000 : Int) < (s.size : Int)) = false := by simp; omega
  have HA : Hid (Calls Try.prog 14 #[.string s, .int .i64 0] w fun e w' => e = .returned (.tuple #[.int .i64 1, .int .i64 (Tk.lenOf s.data.toList : Nat)]) ∧ w' = w) := by
    have h := refAt_any s 0 w (by omega) hpos
    rw [List.drop_zero, hR] at h
    exact h
  clear hR
  have hd12 : decide ((12 : Int) < ((Tk.lenOf s.data.toList : Nat) : Int)) = true := by simp; omega
  go_enter Try.func20, Try.ntmps20
  go_wp2_with fail
  refine Calls.mono HA.out ?_
  rintro e w1 ⟨rfl, rfl⟩
  go_wp2_with fail
  go_ret
  exact ⟨rfl, rfl⟩

set_option maxHeartbeats 1000000 in
theorem refTok_yes1 (s : ByteArray) (w : World) (h0 : s.toList.isEmpty = false) (hs : s.size ≤ 5000) (hpos : 0 < s.size) (g2 : ((Tk.lenOf s.data.toList : Int) == (s.size : Int)) = true) (hl : Tk.lenOf s.data.toList ≤ 12) (hR : refKind s.data.toList = 1) :
    Calls Try.prog 20 #[.int .i64 1, .string s] w fun e w' => e = .returned (.bool true) ∧ w' = w := by
  have hd5 : decide ((5000 : Int) < (s.size : Int)) = false := by simp; omega
  have HA : Hid (Calls Try.prog 14 #[.string s, .int .i64 0] w fun e w' => e = .returned (.tuple #[.int .i64 1, .int .i64 (Tk.lenOf s.data.toList : Nat)]) ∧ w' = w) := by
    have h := refAt_any s 0 w (by omega) hpos
    rw [List.drop_zero, hR] at h
    exact h
  clear hR
  have hd12 : decide ((12 : Int) < ((Tk.lenOf s.data.toList : Nat) : Int)) = false := by simp; omega
  go_enter Try.func20, Try.ntmps20
  go_wp2_with fail
  refine Calls.mono HA.out ?_
  rintro e w1 ⟨rfl, rfl⟩
  go_wp2_with fail
  go_ret
  exact ⟨rfl, rfl⟩

set_option maxHeartbeats 1000000 in
theorem refTok_long2 (s : ByteArray) (w : World) (h0 : s.toList.isEmpty = false) (hs : s.size ≤ 5000) (hpos : 0 < s.size) (g2 : ((Tk.lenOf s.data.toList : Int) == (s.size : Int)) = true) (hl : 12 < Tk.lenOf s.data.toList) (hR : refKind s.data.toList = 2) :
    Calls Try.prog 20 #[.int .i64 2, .string s] w fun e w' => e = .returned (.bool false) ∧ w' = w := by
  have hd5 : decide ((5000 : Int) < (s.size : Int)) = false := by simp; omega
  have HA : Hid (Calls Try.prog 14 #[.string s, .int .i64 0] w fun e w' => e = .returned (.tuple #[.int .i64 2, .int .i64 (Tk.lenOf s.data.toList : Nat)]) ∧ w' = w) := by
    have h := refAt_any s 0 w (by omega) hpos
    rw [List.drop_zero, hR] at h
    exact h
  clear hR
  have hd12 : decide ((12 : Int) < ((Tk.lenOf s.data.toList : Nat) : Int)) = true := by simp; omega
  go_enter Try.func20, Try.ntmps20
  go_wp2_with fail
  refine Calls.mono HA.out ?_
  rintro e w1 ⟨rfl, rfl⟩
  go_wp2_with fail
  go_ret
  exact ⟨rfl, rfl⟩

set_option maxHeartbeats 1000000 in
theorem refTok_yes2 (s : ByteArray) (w : World) (h0 : s.toList.isEmpty = false) (hs : s.size ≤ 5000) (hpos : 0 < s.size) (g2 : ((Tk.lenOf s.data.toList : Int) == (s.size : Int)) = true) (hl : Tk.lenOf s.data.toList ≤ 12) (hR : refKind s.data.toList = 2) :
    Calls Try.prog 20 #[.int .i64 2, .string s] w fun e w' => e = .returned (.bool true) ∧ w' = w := by
  have hd5 : decide ((5000 : Int) < (s.size : Int)) = false := by simp; omega
  have HA : Hid (Calls Try.prog 14 #[.string s, .int .i64 0] w fun e w' => e = .returned (.tuple #[.int .i64 2, .int .i64 (Tk.lenOf s.data.toList : Nat)]) ∧ w' = w) := by
    have h := refAt_any s 0 w (by omega) hpos
    rw [List.drop_zero, hR] at h
    exact h
  clear hR
  have hd12 : decide ((12 : Int) < ((Tk.lenOf s.data.toList : Nat) : Int)) = false := by simp; omega
  go_enter Try.func20, Try.ntmps20
  go_wp2_with fail
  refine Calls.mono HA.out ?_
  rintro e w1 ⟨rfl, rfl⟩
  go_wp2_with fail
  go_ret
  exact ⟨rfl, rfl⟩

set_option maxHeartbeats 1000000 in
theorem refTok_long3 (s : ByteArray) (w : World) (h0 : s.toList.isEmpty = false) (hs : s.size ≤ 5000) (hpos : 0 < s.size) (g2 : ((Tk.lenOf s.data.toList : Int) == (s.size : Int)) = true) (hl : 7 < Tk.lenOf s.data.toList) (hR : refKind s.data.toList = 3) :
    Calls Try.prog 20 #[.int .i64 3, .string s] w fun e w' => e = .returned (.bool false) ∧ w' = w := by
  have hd5 : decide ((5000 : Int) < (s.size : Int)) = false := by simp; omega
  have HA : Hid (Calls Try.prog 14 #[.string s, .int .i64 0] w fun e w' => e = .returned (.tuple #[.int .i64 3, .int .i64 (Tk.lenOf s.data.toList : Nat)]) ∧ w' = w) := by
    have h := refAt_any s 0 w (by omega) hpos
    rw [List.drop_zero, hR] at h
    exact h
  clear hR
  have hd7 : decide ((7 : Int) < ((Tk.lenOf s.data.toList : Nat) : Int)) = true := by simp; omega
  go_enter Try.func20, Try.ntmps20
  go_wp2_with fail
  refine Calls.mono HA.out ?_
  rintro e w1 ⟨rfl, rfl⟩
  go_wp2_with fail
  go_ret
  exact ⟨rfl, rfl⟩

set_option maxHeartbeats 1000000 in
theorem refTok_form3 (s : ByteArray) (w : World) (h0 : s.toList.isEmpty = false) (hs : s.size ≤ 5000) (hpos : 0 < s.size) (g2 : ((Tk.lenOf s.data.toList : Int) == (s.size : Int)) = true) (hl : Tk.lenOf s.data.toList ≤ 7) (hl1 : 1 < Tk.lenOf s.data.toList) (h48 : ((s[0].toNat : Int) == 48) = true) (hR : refKind s.data.toList = 3) :
    Calls Try.prog 20 #[.int .i64 3, .string s] w fun e w' => e = .returned (.bool false) ∧ w' = w := by
  have hd5 : decide ((5000 : Int) < (s.size : Int)) = false := by simp; omega
  have HA : Hid (Calls Try.prog 14 #[.string s, .int .i64 0] w fun e w' => e = .returned (.tuple #[.int .i64 3, .int .i64 (Tk.lenOf s.data.toList : Nat)]) ∧ w' = w) := by
    have h := refAt_any s 0 w (by omega) hpos
    rw [List.drop_zero, hR] at h
    exact h
  clear hR
  have hd7 : decide ((7 : Int) < ((Tk.lenOf s.data.toList : Nat) : Int)) = false := by simp; omega
  have hd1 : decide ((1 : Int) < ((Tk.lenOf s.data.toList : Nat) : Int)) = true := by simp; omega
  go_enter Try.func20, Try.ntmps20
  go_wp2_with fail
  refine Calls.mono HA.out ?_
  rintro e w1 ⟨rfl, rfl⟩
  go_wp2_with fail
  go_ret
  exact ⟨rfl, rfl⟩

set_option maxHeartbeats 1000000 in
theorem refTok_yes3a (s : ByteArray) (w : World) (h0 : s.toList.isEmpty = false) (hs : s.size ≤ 5000) (hpos : 0 < s.size) (g2 : ((Tk.lenOf s.data.toList : Int) == (s.size : Int)) = true) (hl1 : Tk.lenOf s.data.toList ≤ 1) (hR : refKind s.data.toList = 3) :
    Calls Try.prog 20 #[.int .i64 3, .string s] w fun e w' => e = .returned (.bool true) ∧ w' = w := by
  have hd5 : decide ((5000 : Int) < (s.size : Int)) = false := by simp; omega
  have HA : Hid (Calls Try.prog 14 #[.string s, .int .i64 0] w fun e w' => e = .returned (.tuple #[.int .i64 3, .int .i64 (Tk.lenOf s.data.toList : Nat)]) ∧ w' = w) := by
    have h := refAt_any s 0 w (by omega) hpos
    rw [List.drop_zero, hR] at h
    exact h
  clear hR
  have hd7 : decide ((7 : Int) < ((Tk.lenOf s.data.toList : Nat) : Int)) = false := by simp; omega
  have hd1 : decide ((1 : Int) < ((Tk.lenOf s.data.toList : Nat) : Int)) = false := by simp; omega
  go_enter Try.func20, Try.ntmps20
  go_wp2_with fail
  refine Calls.mono HA.out ?_
  rintro e w1 ⟨rfl, rfl⟩
  go_wp2_with fail
  go_ret
  exact ⟨rfl, rfl⟩

set_option maxHeartbeats 1000000 in
theorem refTok_yes3b (s : ByteArray) (w : World) (h0 : s.toList.isEmpty = false) (hs : s.size ≤ 5000) (hpos : 0 < s.size) (g2 : ((Tk.lenOf s.data.toList : Int) == (s.size : Int)) = true) (hl : Tk.lenOf s.data.toList ≤ 7) (hl1 : 1 < Tk.lenOf s.data.toList) (h48 : ((s[0].toNat : Int) == 48) = false) (hR : refKind s.data.toList = 3) :
    Calls Try.prog 20 #[.int .i64 3, .string s] w fun e w' => e = .returned (.bool true) ∧ w' = w := by
  have hd5 : decide ((5000 : Int) < (s.size : Int)) = false := by simp; omega
  have HA : Hid (Calls Try.prog 14 #[.string s, .int .i64 0] w fun e w' => e = .returned (.tuple #[.int .i64 3, .int .i64 (Tk.lenOf s.data.toList : Nat)]) ∧ w' = w) := by
    have h := refAt_any s 0 w (by omega) hpos
    rw [List.drop_zero, hR] at h
    exact h
  clear hR
  have hd7 : decide ((7 : Int) < ((Tk.lenOf s.data.toList : Nat) : Int)) = false := by simp; omega
  have hd1 : decide ((1 : Int) < ((Tk.lenOf s.data.toList : Nat) : Int)) = true := by simp; omega
  go_enter Try.func20, Try.ntmps20
  go_wp2_with fail
  refine Calls.mono HA.out ?_
  rintro e w1 ⟨rfl, rfl⟩
  go_wp2_with fail
  go_ret
  exact ⟨rfl, rfl⟩

set_option maxHeartbeats 1000000 in
theorem refTok_yes4 (s : ByteArray) (w : World) (h0 : s.toList.isEmpty = false) (hs : s.size ≤ 5000) (hpos : 0 < s.size) (g2 : ((Tk.lenOf s.data.toList : Int) == (s.size : Int)) = true) (hR : refKind s.data.toList = 4) :
    Calls Try.prog 20 #[.int .i64 4, .string s] w fun e w' => e = .returned (.bool true) ∧ w' = w := by
  have hd5 : decide ((5000 : Int) < (s.size : Int)) = false := by simp; omega
  have HA : Hid (Calls Try.prog 14 #[.string s, .int .i64 0] w fun e w' => e = .returned (.tuple #[.int .i64 4, .int .i64 (Tk.lenOf s.data.toList : Nat)]) ∧ w' = w) := by
    have h := refAt_any s 0 w (by omega) hpos
    rw [List.drop_zero, hR] at h
    exact h
  clear hR
  go_enter Try.func20, Try.ntmps20
  go_wp2_with fail
  refine Calls.mono HA.out ?_
  rintro e w1 ⟨rfl, rfl⟩
  go_wp2_with fail
  go_ret
  exact ⟨rfl, rfl⟩

/-- IsToken, whatever it is handed. -/
theorem refTok_any (k : Int) (s : ByteArray) (w : World) : Calls Try.prog 20 #[.int .i64 k, .string s] w fun e w' => e = .returned (.bool (Tk.isTok k s.data.toList)) ∧ w' = w := by
  have hsz : s.data.toList.length = s.size := by simp
  by_cases hpos : 0 < s.size
  · have hd := drop_at s 0 hpos
    rw [List.drop_zero] at hd
    have h0 : s.toList.isEmpty = false := by rw [Lib.toList_data, hd]; rfl
    by_cases h5 : 5000 < s.size
    · have hV : Tk.isTok k s.data.toList = false := decide_eq_false (fun h => by omega)
      rw [hV]
      exact refTok_long k s w h0 h5
    · have TC := tok_cases s[0] (s.data.toList.drop (0 + 1))
      rw [← hd] at TC
      by_cases hk0 : k = 0
      · subst hk0
        have hV : Tk.isTok 0 s.data.toList = false := decide_eq_false (fun h => by
          obtain ⟨_, _, h3, h4, _⟩ := h
          rcases TC with ⟨c1, cE⟩ | ⟨c1, cK, c3, cE⟩ | ⟨c1, cK, c3, cE⟩ | ⟨c1, cK, c3, cE⟩ | ⟨c1, cK, c3, c4, c5, cE⟩ | ⟨c1, cK, c3, cE⟩ | ⟨c1, cK, c3, c4, c5, cE⟩ | ⟨c1, cK, cE⟩ <;> omega)
        rw [hV]
        exact refTok_zero s w h0 (by omega)
      · have hkb : (k == 0) = false := beq_eq_false_iff_ne.2 hk0
        have hRK : 1 ≤ Tk.lenOf s.data.toList → refKind s.data.toList = Tk.kindOf s.data.toList := fun h => by unfold refKind; rw [if_neg (by omega)]
        have hne : s.data.toList ≠ [] := by rw [hd]; simp
        by_cases hl0 : Tk.lenOf s.data.toList = 0
        · have hV : Tk.isTok k s.data.toList = false := decide_eq_false (fun h => by omega)
          rw [hV]
          exact refTok_off s w h0 (by omega) hpos k 0 hkb (beq_eq_false_iff_ne.2 (fun e => hk0 e.symm)) (by unfold refKind; rw [if_pos hl0])
        · have hR := hRK (by omega)
          by_cases hK : Tk.kindOf s.data.toList = k
          · by_cases hn : Tk.lenOf s.data.toList = s.size
            · have g2 : ((Tk.lenOf s.data.toList : Int) == (s.size : Int)) = true := beq_iff_eq.2 (by omega)
              subst hK
              have yes : Tk.errOf s.data.toList = 0 → Tk.isTok (Tk.kindOf s.data.toList) s.data.toList = true := fun he => decide_eq_true ⟨hne, by omega, he, rfl, by omega⟩
              have no : ¬ Tk.errOf s.data.toList = 0 → Tk.isTok (Tk.kindOf s.data.toList) s.data.toList = false := fun he => decide_eq_false (fun h => he h.2.2.1)
              rcases TC with ⟨c1, cE⟩ | ⟨c1, cK, c3, cE⟩ | ⟨c1, cK, c3, cE⟩ | ⟨c1, cK, c3, cE⟩ | ⟨c1, cK, c3, c4, c5, cE⟩ | ⟨c1, cK, c3, cE⟩ | ⟨c1, cK, c3, c4, c5, cE⟩ | ⟨c1, cK, cE⟩
              · exact absurd c1 hl0
              · rw [no (by omega)]
                rcases cK with cK | cK
                · rw [cK] at hR ⊢; exact refTok_long1 s w h0 (by omega) hpos g2 c3 hR
                · rw [cK] at hR ⊢; exact refTok_long2 s w h0 (by omega) hpos g2 c3 hR
              · rw [yes cE]
                rcases cK with cK | cK
                · rw [cK] at hR ⊢; exact refTok_yes1 s w h0 (by omega) hpos g2 c3 hR
                · rw [cK] at hR ⊢; exact refTok_yes2 s w h0 (by omega) hpos g2 c3 hR
              · rw [no (by omega), cK]; rw [cK] at hR; exact refTok_long3 s w h0 (by omega) hpos g2 c3 hR
              · rw [no (by omega), cK]; rw [cK] at hR; exact refTok_form3 s w h0 (by omega) hpos g2 c4 c3 (beq_iff_eq.2 c5) hR
              · rw [yes cE, cK]; rw [cK] at hR; exact refTok_yes3a s w h0 (by omega) hpos g2 c3 hR
              · rw [yes cE, cK]; rw [cK] at hR; exact refTok_yes3b s w h0 (by omega) hpos g2 c4 c3 (beq_eq_false_iff_ne.2 c5) hR
              · rw [yes cE, cK]; rw [cK] at hR; exact refTok_yes4 s w h0 (by omega) hpos g2 hR
            · have hV : Tk.isTok k s.data.toList = false := decide_eq_false (fun h => by omega)
              rw [hV]
              exact refTok_part s w h0 (by omega) hpos k _ hkb (beq_iff_eq.2 hK) (beq_eq_false_iff_ne.2 (by omega)) hR
          · have hV : Tk.isTok k s.data.toList = false := decide_eq_false (fun h => hK h.2.2.2.1)
            rw [hV]
            exact refTok_off s w h0 (by omega) hpos k _ hkb (beq_eq_false_iff_ne.2 hK) hR
  · have hz : s.data.toList = [] := List.eq_nil_of_length_eq_zero (by omega)
    have hse : s = ⟨#[]⟩ := by
      apply ByteArray.ext
      exact Array.eq_empty_of_size_eq_zero (by show s.size = 0; omega)
    rw [hz, hse]
    exact refTok_empty k w

end Go.Proofs.Ytcfmjoidaehfkaa
