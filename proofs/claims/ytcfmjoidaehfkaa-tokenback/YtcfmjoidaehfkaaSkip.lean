/- Package token: what parts tokens is skipped. -/
import Derived.Test.YtcfmjoidaehfkaaAt
namespace Go.Proofs.Ytcfmjoidaehfkaa
open Go.RowKit

theorem sep_blank (s : ByteArray) (k : Nat) (h : k < s.size) (hc : (s[k].toNat : Int) = 32 ∨ (s[k].toNat : Int) = 9 ∨ (s[k].toNat : Int) = 10) :
    Tk.sep false (s.data.toList.drop k) = Tk.sep false (s.data.toList.drop (k + 1)) + 1 := by
  rw [drop_at s k h, Tk.sep, if_neg (by omega), if_pos hc]
theorem sep_stop (s : ByteArray) (k : Nat) (h : k < s.size) (h1 : ¬ (s[k].toNat : Int) = 37) (hc : ¬ ((s[k].toNat : Int) = 32 ∨ (s[k].toNat : Int) = 9 ∨ (s[k].toNat : Int) = 10)) :
    Tk.sep false (s.data.toList.drop k) = 0 := by
  rw [drop_at s k h, Tk.sep, if_neg h1, if_neg hc]
theorem sep_end (b : Bool) (s : ByteArray) (k : Nat) (h : s.size ≤ k) : Tk.sep b (s.data.toList.drop k) = 0 := by
  rw [List.drop_of_length_le (by simpa using h)]
  cases b <;> rfl
theorem sep_rem (s : ByteArray) (k : Nat) (h : k < s.size) (h1 : (s[k].toNat : Int) = 37) :
    Tk.sep false (s.data.toList.drop k) = Tk.pre Tk.noLf (s.data.toList.drop k) + Tk.sep false (s.data.toList.drop (k + Tk.pre Tk.noLf (s.data.toList.drop k))) ∧ 1 ≤ Tk.pre Tk.noLf (s.data.toList.drop k) := by
  have hp : Tk.pre Tk.noLf (s.data.toList.drop k) = Tk.pre Tk.noLf (s.data.toList.drop (k + 1)) + 1 := by
    rw [drop_at s k h, Tk.pre, if_pos (by rw [Tk.noLf, h1]; rfl)]
  refine ⟨?_, by omega⟩
  have e1 : Tk.sep false (s.data.toList.drop k) = Tk.sep true (s.data.toList.drop (k + 1)) + 1 := by
    rw [drop_at s k h, Tk.sep, if_pos h1]
  rw [e1, Tk.sep_note, List.drop_drop, hp, show k + (Tk.pre Tk.noLf (s.data.toList.drop (k + 1)) + 1) = k + 1 + Tk.pre Tk.noLf (s.data.toList.drop (k + 1)) from by omega]
  omega

theorem sep_end_le (b : Bool) (s : ByteArray) (a : Nat) (h : a ≤ s.size) : a + Tk.sep b (s.data.toList.drop a) ≤ s.size := by
  have h1 := Tk.sep_le b (s.data.toList.drop a)
  have h2 : (s.data.toList.drop a).length = s.size - a := by simp
  omega

set_option maxHeartbeats 1000000 in
theorem skip_any (s : ByteArray) (at0 : Nat) (w : World) (hs : s.size ≤ 281474976710656) (ha : at0 ≤ s.size) :
    Calls Try.prog 22 #[.string s, .int .i64 at0] w fun e w' => e = .returned (.int .i64 ((at0 + Tk.sep false (s.data.toList.drop at0) : Nat) : Int)) ∧ w' = w := by
  go_enter Try.func22, Try.ntmps22
  go_wp2
  go_loop [1] (fun i => ∃ k : Nat, k ≤ s.size ∧ i = .int .i64 k ∧ at0 + Tk.sep false (s.data.toList.drop at0) = k + Tk.sep false (s.data.toList.drop k)) (fun i => s.size - (intOf i).toNat)
  case atStart => exact ⟨at0, ha, rfl, rfl⟩
  case round =>
    obtain ⟨k, hk, rfl, hk2⟩ := hrel
    have HK : Hid (at0 + Tk.sep false (s.data.toList.drop at0) = k + Tk.sep false (s.data.toList.drop k)) := hk2
    clear hk2
    by_cases hlt : k < s.size
    · by_cases hb : (s[k].toNat : Int) = 32 ∨ (s[k].toNat : Int) = 9 ∨ (s[k].toNat : Int) = 10
      · have HE : Hid (Tk.sep false (s.data.toList.drop k) = Tk.sep false (s.data.toList.drop (k + 1)) + 1) := sep_blank s k hlt hb
        have hrel2 : Hid (at0 + Tk.sep false (s.data.toList.drop at0) = (k + 1) + Tk.sep false (s.data.toList.drop (k + 1))) := by
          have h1 := HK.out; have h2 := HE.out
          show _ = _
          omega
        clear HE HK
        by_cases b1 : (s[k].toNat : Int) = 32
        · have t1 : ((s[k].toNat : Int) == 32) = true := beq_iff_eq.2 b1
          clear b1 hb
          go_wp2
          go_round
          case rel => exact ⟨k + 1, by omega, by go_num, hrel2.out⟩
          case measure => simp [intOf]; omega
        · have t1 : ((s[k].toNat : Int) == 32) = false := beq_eq_false_iff_ne.2 b1
          by_cases b2 : (s[k].toNat : Int) = 9
          · have t2 : ((s[k].toNat : Int) == 9) = true := beq_iff_eq.2 b2
            clear b1 b2 hb
            go_wp2
            go_round
            case rel => exact ⟨k + 1, by omega, by go_num, hrel2.out⟩
            case measure => simp [intOf]; omega
          · have t2 : ((s[k].toNat : Int) == 9) = false := beq_eq_false_iff_ne.2 b2
            have t3 : ((s[k].toNat : Int) == 10) = true := beq_iff_eq.2 (by omega)
            clear b1 b2 hb
            go_wp2
            go_round
            case rel => exact ⟨k + 1, by omega, by go_num, hrel2.out⟩
            case measure => simp [intOf]; omega
      · have t1 : ((s[k].toNat : Int) == 32) = false := beq_eq_false_iff_ne.2 (by omega)
        have t2 : ((s[k].toNat : Int) == 9) = false := beq_eq_false_iff_ne.2 (by omega)
        have t3 : ((s[k].toNat : Int) == 10) = false := beq_eq_false_iff_ne.2 (by omega)
        by_cases b4 : (s[k].toNat : Int) = 37
        · obtain ⟨h1, h2⟩ := sep_rem s k hlt b4
          have hle := pre_end Tk.noLf s k hk
          have HR : Hid (at0 + Tk.sep false (s.data.toList.drop at0) = (k + Tk.pre Tk.noLf (s.data.toList.drop k)) + Tk.sep false (s.data.toList.drop (k + Tk.pre Tk.noLf (s.data.toList.drop k)))) := by
            have h3 := HK.out
            show _ = _
            omega
          have t4 : ((s[k].toNat : Int) == 37) = true := beq_iff_eq.2 b4
          clear h1 HK hb b4
          go_wp2_with (go_at_call 28; refine (run_any 29 Tk.noLf noLf_any enters29 s k _ (by unfold maxLen; omega) hk).mono ?_; rintro e w' ⟨rfl, rfl⟩)
          go_round
          case rel => exact ⟨k + Tk.pre Tk.noLf (s.data.toList.drop k), hle, by go_num, HR.out⟩
          case measure => simp [intOf]; omega
        · have HE : Hid (Tk.sep false (s.data.toList.drop k) = 0) := sep_stop s k hlt b4 hb
          have t4 : ((s[k].toNat : Int) == 37) = false := beq_eq_false_iff_ne.2 b4
          clear hb b4
          go_wp2
          go_ret
          exact ⟨ret_int (by have h1 := HK.out; have h2 := HE.out; omega), rfl⟩
    · have HE : Hid (Tk.sep false (s.data.toList.drop k) = 0) := sep_end false s k (by omega)
      go_wp2
      go_ret
      exact ⟨ret_int (by have h1 := HK.out; have h2 := HE.out; omega), rfl⟩

end Go.Proofs.Ytcfmjoidaehfkaa
