/- The document's answer: tokens joined. -/
import Derived.Test.YtcfmjoidaehfkaaRefTok
import Derived.Test.YtcfmjoidaehfkaaJoin
namespace Go.Proofs.Ytcfmjoidaehfkaa
open Go.RowKit

namespace Tk
/-- How long the first k tokens are, joined; -1 if there is none. -/
def cnt (l : List Tok) : Nat → Int
  | 0 => -1
  | k + 1 => cnt l k + (1 + (tokD l k).text.length)
theorem cnt_len (l : List Tok) : ∀ k, 0 < k → cnt l k = (joinTo l k).length := by
  intro k
  induction k with
  | zero => intro h; exact absurd h (by omega)
  | succ k ih =>
    intro _
    rw [cnt, joinTo]
    by_cases h : k = 0
    · subst h; rw [if_pos rfl, cnt]; simp; omega
    · rw [if_neg h, ih (by omega)]; simp; omega
theorem cnt_mono (l : List Tok) (k : Nat) : cnt l k ≤ cnt l (k + 1) := by rw [cnt]; omega
end Tk

theorem str_one (x y : List UInt8) : Value.string ({ data := x.toArray } ++ { data := y.toArray }) = .string ⟨(x ++ y).toArray⟩ := by
  congr 1
theorem str_two (x y z : List UInt8) : Value.string ({ data := x.toArray } ++ { data := y.toArray } ++ { data := z.toArray }) = .string ⟨(x ++ y ++ z).toArray⟩ := by
  congr 1

/-- The loop of the document's join. -/
def RefJoin (l : List Tk.Tok) (n : Nat) (w : World) (sv cv i : Value) (wr : World) : Prop :=
  ∃ (k nq : Nat) (X : List UInt8), k ≤ n ∧ sv = .string ⟨X.toArray⟩ ∧ X.length ≤ 5000 ∧ cv = .int .i64 (Tk.cnt l k) ∧ i = .int .i64 k ∧ Tk.allTok l k = true ∧ (Tk.cnt l k ≤ 5000 → X = Tk.joinTo l k) ∧ wr = w.drewN nq

set_option maxRecDepth 100000 in
set_option maxHeartbeats 2000000 in
theorem JoinOf_some (l : List Tk.Tok) (w : World) (n b off cap : Nat) (hn : l.length = n) (hmax : n ≤ 4398046511104)
    (hA : ∀ i, i < n → TokIn w b (off + i * 3) (tokD l i)) :
    Calls Try.prog 12 #[.slice (some ⟨b, off, none⟩) n cap] w fun e w' => e = .returned (.tuple #[.string ⟨(Tk.join l).1.toArray⟩, .int .i64 (Tk.join l).2]) ∧ ∃ nq, w' = w.drewN nq := by
  have HN : Hid (l.length = n) := hn
  clear hn
  go_enter Try.func12, Try.ntmps12
  go_wp2_with fail
  go_loopw [4, 5, 6] (fun sv cv i wr => RefJoin l n w sv cv i wr) (fun _ _ i _ => n - (intOf i).toNat)
  case atStart => exact ⟨0, 0, [], Nat.zero_le _, rfl, Nat.zero_le _, rfl, rfl, rfl, fun _ => rfl, rfl⟩
  case round =>
    obtain ⟨k, nq, X, hk, rfl, hX, rfl, rfl, hall, hJ, hwr⟩ := hrel
    have HW : Hid (wr = w.drewN nq) := hwr
    have HA : Hid (Tk.allTok l k = true) := hall
    have HJ : Hid (Tk.cnt l k ≤ 5000 → X = Tk.joinTo l k) := hJ
    clear hall hJ
    have hlen := Tk.joinTo_len l k (by rw [HN.out]; exact hk) HA.out
    have hcb : -1 ≤ Tk.cnt l k ∧ Tk.cnt l k ≤ 13 * k := by
      by_cases h0 : 0 < k
      · rw [Tk.cnt_len l k h0]; omega
      · have : k = 0 := by omega
        subst this
        exact ⟨Int.le_refl _, by show (-1 : Int) ≤ _; omega⟩
    by_cases hlt : k < n
    · obtain ⟨a0, a1, a2⟩ : TokIn wr b (off + k * 3) (tokD l k) := by rw [hwr]; exact hA k hlt
      clear hA hwr
      cases hT : Tk.isTok (tokD l k).kind (tokD l k).text
      · have HF : Hid (Tk.join l = ([], 1)) := by
          show _ = _
          unfold Tk.join
          rw [if_neg (by rw [Tk.allTok_no l k (by rw [HN.out]; exact hlt) hT]; simp)]
        have hRT : Hid (∀ w, Calls Try.prog 20 #[.int .i64 (tokD l k).kind, .string ⟨(tokD l k).text.toArray⟩] w fun e w' => e = .returned (.bool false) ∧ w' = w) := by
          intro w
          have h := refTok_any (tokD l k).kind ⟨(tokD l k).text.toArray⟩ w
          rw [List.toList_toArray, hT] at h
          exact h
        clear hT
        go_wp2_with fail
        go_quiet ((go_at_call 20; exact Calls.quiet_of_same (hRT.out _)))
        go_wp2_with fail
        go_ret2
        refine ⟨?_, _, by rw [HW.out]; exact drewN_two _ _ _⟩
        rw [HF.out]
        rfl
      · have HT : Hid (Tk.allTok l (k + 1) = true) := by
          show _ = _
          rw [Tk.allTok_snoc l k (by rw [HN.out]; exact hlt), HA.out, hT]
          rfl
        have h12 := Tk.isTok_len _ _ hT
        have hRT : Hid (∀ w, Calls Try.prog 20 #[.int .i64 (tokD l k).kind, .string ⟨(tokD l k).text.toArray⟩] w fun e w' => e = .returned (.bool true) ∧ w' = w) := by
          intro w
          have h := refTok_any (tokD l k).kind ⟨(tokD l k).text.toArray⟩ w
          rw [List.toList_toArray, hT] at h
          exact h
        clear hT
        have HC : Hid (Tk.cnt l (k + 1) = Tk.cnt l k + (1 + (tokD l k).text.length)) := rfl
        by_cases h5 : Tk.cnt l k + (1 + (tokD l k).text.length) ≤ 5000
        · have HX : Hid (X = Tk.joinTo l k) := HJ.out (by omega)
          by_cases hk0 : 0 < k
          · have HL : Hid (Tk.joinTo l (k + 1) = X ++ [32] ++ (tokD l k).text) := by show _ = _; rw [Tk.joinTo, if_neg (by omega), HX.out]
            have HM : Hid ((Tk.joinTo l (k + 1)).length ≤ 5000) := by
              have h1 := Tk.cnt_len l (k + 1) (by omega)
              have h2 := HC.out
              show _ ≤ _
              omega
            clear HJ HX
            go_wp2_with fail
            go_quiet ((go_at_call 20; exact Calls.quiet_of_same (hRT.out _)))
            go_wp2_with fail
            go_roundw
            case rel => exact ⟨k + 1, _, Tk.joinTo l (k + 1), by omega, by rw [HL.out]; exact str_two _ _ _, HM.out, by rw [HC.out], by go_num, HT.out, fun _ => rfl, by rw [HW.out]; exact drewN_two _ _ _⟩
            case measure => simp [intOf]; omega
          · have hd : decide ((0 : Int) < (k : Int)) = false := by simp; omega
            have HL : Hid (Tk.joinTo l (k + 1) = X ++ (tokD l k).text) := by
              show _ = _
              have e0 : k = 0 := by omega
              rw [HX.out, e0, Tk.joinTo, Tk.joinTo, if_pos rfl]
            have HM : Hid ((Tk.joinTo l (k + 1)).length ≤ 5000) := by
              have h1 := Tk.cnt_len l (k + 1) (by omega)
              have h2 := HC.out
              show _ ≤ _
              omega
            clear HJ HX
            go_wp2_with fail
            go_quiet ((go_at_call 20; exact Calls.quiet_of_same (hRT.out _)))
            go_wp2_with fail
            go_roundw
            case rel => exact ⟨k + 1, _, Tk.joinTo l (k + 1), by omega, by rw [HL.out]; exact str_one _ _, HM.out, by rw [HC.out], by go_num, HT.out, fun _ => rfl, by rw [HW.out]; exact drewN_two _ _ _⟩
            case measure => simp [intOf]; omega
        · have hd : decide (Tk.cnt l k + (1 + ((tokD l k).text.length : Int)) ≤ 5000) = false := by simp; omega
          go_wp2_with fail
          go_quiet ((go_at_call 20; exact Calls.quiet_of_same (hRT.out _)))
          go_wp2_with fail
          go_roundw
          case rel => exact ⟨k + 1, _, X, by omega, rfl, hX, by rw [HC.out], by go_num, HT.out, fun h => by have h2 := HC.out; omega, by rw [HW.out]; exact drewN_two _ _ _⟩
          case measure => simp [intOf]; omega
    · have hkn : k = n := by omega
      have HL : Hid (k = l.length) := by show _ = _; rw [HN.out]; exact hkn
      have HA2 : Hid (Tk.allTok l l.length = true) := by have := HA.out; rw [HL.out] at this; exact this
      clear hA hkn hwr
      by_cases h5 : Tk.cnt l k ≤ 5000
      · have hd : decide ((5000 : Int) < Tk.cnt l k) = false := by simp; omega
        have HF : Hid (Tk.join l = (X, 0)) := by
          show _ = _
          have hl : ¬ 5000 < (Tk.joinTo l k).length := by
            by_cases h0 : 0 < k
            · have := Tk.cnt_len l k h0; omega
            · have e0 : k = 0 := by omega
              rw [e0, Tk.joinTo]; simp
          unfold Tk.join
          rw [if_pos HA2.out, ← HL.out, if_neg hl, HJ.out h5]
        clear HJ
        go_wp2_with fail
        go_ret2
        refine ⟨?_, _, HW.out⟩
        rw [HF.out]
        rfl
      · have hd : decide ((5000 : Int) < Tk.cnt l k) = true := by simp; omega
        have HF : Hid (Tk.join l = ([], 2)) := by
          show _ = _
          have hl : 5000 < (Tk.joinTo l k).length := by
            by_cases h0 : 0 < k
            · have := Tk.cnt_len l k h0; omega
            · have e0 : k = 0 := by omega
              rw [e0] at h5
              exact absurd (show Tk.cnt l 0 ≤ 5000 from (by show (-1 : Int) ≤ 5000; omega)) h5
          unfold Tk.join
          rw [if_pos HA2.out, ← HL.out, if_pos hl]
        clear HJ
        go_wp2_with fail
        go_ret2
        refine ⟨?_, _, HW.out⟩
        rw [HF.out]
        rfl

set_option maxHeartbeats 400000 in
theorem JoinOf_none (w : World) (ao : Option Addr) (cap : Nat) :
    Calls Try.prog 12 #[.slice ao 0 cap] w fun e w' => e = .returned (.tuple #[.string ⟨#[]⟩, .int .i64 0]) ∧ ∃ nq, w' = w.drewN nq := by
  go_enter Try.func12, Try.ntmps12
  go_wp2_with fail
  refine wp_loop_rounds 1 ?_
  rw [rounds_succ]
  go_wp2_with fail
  go_ret2
  exact ⟨rfl, 0, rfl⟩

/-- JoinOf, whatever tokens it is handed. -/
theorem JoinOf_any (l : List Tk.Tok) (w : World) (ao : Option Addr) (cap : Nat) (hmax : l.length ≤ 4398046511104) (hA : ToksAt w ao l) :
    Calls Try.prog 12 #[.slice ao l.length cap] w fun e w' => e = .returned (.tuple #[.string ⟨(Tk.join l).1.toArray⟩, .int .i64 (Tk.join l).2]) ∧ ∃ nq, w' = w.drewN nq := by
  rcases hA with rfl | ⟨b, off, rfl, hA⟩
  · exact JoinOf_none w ao cap
  · exact JoinOf_some l w l.length b off cap rfl hmax hA

end Go.Proofs.Ytcfmjoidaehfkaa
