/- The small functions of package token: what each call answers. -/
import Derived.Test.YtcfmjoidaehfkaaRows
import Derived.Test.YtcfmjoidaehfkaaPlain
import Derived.WalkKit
import Derived.WalkSpells
import Derived.WalkLawsBesides
import Derived.Deep.QuietTactic
import Derived.BigQuiet
namespace Go.Proofs.Ytcfmjoidaehfkaa
open Go.RowKit

set_option maxHeartbeats 400000 in
theorem isSmall_any (n : Int) (w : World) : Calls Try.prog 30 #[.int .u8 n] w fun e w' => e = .returned (.bool (Tk.small n)) ∧ w' = w := by
  by_cases h : 97 ≤ n
  · go_enter Try.func30, Try.ntmps30
    go_wp2
    go_ret
    exact ⟨by simp [Tk.small, h], rfl⟩
  · have hd : decide (97 ≤ n) = false := by simpa using h
    go_enter Try.func30, Try.ntmps30
    go_wp2
    go_ret
    exact ⟨by simp only [Tk.small, hd, Bool.false_and]; rfl, rfl⟩

set_option maxHeartbeats 400000 in
theorem isGreat_any (n : Int) (w : World) : Calls Try.prog 32 #[.int .u8 n] w fun e w' => e = .returned (.bool (Tk.great n)) ∧ w' = w := by
  by_cases h : 65 ≤ n
  · go_enter Try.func32, Try.ntmps32
    go_wp2
    go_ret
    exact ⟨by simp [Tk.great, h], rfl⟩
  · have hd : decide (65 ≤ n) = false := by simpa using h
    go_enter Try.func32, Try.ntmps32
    go_wp2
    go_ret
    exact ⟨by simp only [Tk.great, hd, Bool.false_and]; rfl, rfl⟩

set_option maxHeartbeats 400000 in
theorem isDigit_any (n : Int) (w : World) : Calls Try.prog 33 #[.int .u8 n] w fun e w' => e = .returned (.bool (Tk.digit n)) ∧ w' = w := by
  by_cases h : 48 ≤ n
  · go_enter Try.func33, Try.ntmps33
    go_wp2
    go_ret
    exact ⟨by simp [Tk.digit, h], rfl⟩
  · have hd : decide (48 ≤ n) = false := by simpa using h
    go_enter Try.func33, Try.ntmps33
    go_wp2
    go_ret
    exact ⟨by simp only [Tk.digit, hd, Bool.false_and]; rfl, rfl⟩

set_option maxHeartbeats 400000 in
theorem noLf_any (n : Int) (w : World) : Calls Try.prog 29 #[.int .u8 n] w fun e w' => e = .returned (.bool (Tk.noLf n)) ∧ w' = w := by
  go_enter Try.func29, Try.ntmps29
  go_wp2
  go_ret
  exact ⟨by simp [Tk.noLf], rfl⟩

set_option maxHeartbeats 400000 in
theorem alnum_any (n : Int) (w : World) : Calls Try.prog 38 #[.int .u8 n] w fun e w' => e = .returned (.bool (Tk.alnum n)) ∧ w' = w := by
  unfold Tk.alnum
  cases h1 : Tk.small n
  · cases h2 : Tk.great n
    · go_enter Try.func38, Try.ntmps38
      go_wp2_with (first | (go_at_call 30; refine (isSmall_any _ _).mono ?_; rintro e w' ⟨rfl, rfl⟩) | (go_at_call 32; refine (isGreat_any _ _).mono ?_; rintro e w' ⟨rfl, rfl⟩) | (go_at_call 33; refine (isDigit_any _ _).mono ?_; rintro e w' ⟨rfl, rfl⟩))
      go_ret
      exact ⟨by simp, rfl⟩
    · go_enter Try.func38, Try.ntmps38
      go_wp2_with (first | (go_at_call 30; refine (isSmall_any _ _).mono ?_; rintro e w' ⟨rfl, rfl⟩) | (go_at_call 32; refine (isGreat_any _ _).mono ?_; rintro e w' ⟨rfl, rfl⟩) | (go_at_call 33; refine (isDigit_any _ _).mono ?_; rintro e w' ⟨rfl, rfl⟩))
      go_ret
      exact ⟨by simp, rfl⟩
  · go_enter Try.func38, Try.ntmps38
    go_wp2_with (first | (go_at_call 30; refine (isSmall_any _ _).mono ?_; rintro e w' ⟨rfl, rfl⟩) | (go_at_call 32; refine (isGreat_any _ _).mono ?_; rintro e w' ⟨rfl, rfl⟩) | (go_at_call 33; refine (isDigit_any _ _).mono ?_; rintro e w' ⟨rfl, rfl⟩))
    go_ret
    exact ⟨by simp, rfl⟩

theorem ret_int {k : IntKind} {a b : Int} (h : a = b) : Ending.returned (.int k a) = .returned (.int k b) := by rw [h]

/-- What a function value must be for 'run'. -/
def Tests (g : Nat) (p : Int → Bool) : Prop := ∀ (n : Int) (w : World), Calls Try.prog g #[.int .u8 n] w fun e w' => e = .returned (.bool (p n)) ∧ w' = w

/-- A call of a function value enters the function. -/
def Enters (g : Nat) : Prop := ∀ (a : Array Value) (w : World), (callFunc g a).run Try.prog w = .ok (.enter g a) w

set_option maxHeartbeats 400000 in
theorem run_any (g : Nat) (p : Int → Bool) (hg : Tests g p) (hcf : Enters g) (s : ByteArray) (at0 : Nat) (w : World) (hs : s.size ≤ maxLen) (ha : at0 ≤ s.size) :
    Calls Try.prog 28 #[.string s, .int .i64 at0, .func (.func g) #[] #[]] w fun e w' => e = .returned (.int .i64 ((at0 + Tk.pre p (s.data.toList.drop at0) : Nat) : Int)) ∧ w' = w := by
  unfold maxLen at hs
  go_enter Try.func28, Try.ntmps28
  go_wp2
  go_loop [1] (fun i => ∃ k : Nat, k ≤ s.size ∧ i = .int .i64 k ∧ at0 + Tk.pre p (s.data.toList.drop at0) = k + Tk.pre p (s.data.toList.drop k)) (fun i => s.size - (intOf i).toNat)
  case atStart => exact ⟨at0, ha, rfl, rfl⟩
  case round =>
    obtain ⟨k, hk, rfl, hk2⟩ := hrel
    have HK : Hid (at0 + Tk.pre p (s.data.toList.drop at0) = k + Tk.pre p (s.data.toList.drop k)) := hk2
    clear hk2
    by_cases hlt : k < s.size
    · go_wp2_with fail
      rw [hcf, Oper.upon_enter]
      refine (hg _ _).mono ?_
      rintro e w' ⟨rfl, rfl⟩
      have hl : k < s.data.toList.length := by simpa using hlt
      cases hp : p (s[k].toNat : Int)
      · have HE : Hid (Tk.pre p (s.data.toList.drop k) = 0) := Tk.pre_drop_no p s.data.toList k hl hp
        clear hp
        go_wp2
        go_ret
        exact ⟨ret_int (by have h1 := HK.out; have h2 := HE.out; omega), rfl⟩
      · have HE : Hid (Tk.pre p (s.data.toList.drop k) = Tk.pre p (s.data.toList.drop (k + 1)) + 1) := Tk.pre_drop_yes p s.data.toList k hl hp
        clear hp
        go_wp2
        go_round
        case rel => exact ⟨k + 1, by omega, by go_num, by rw [HK.out, HE.out]; omega⟩
        case measure => simp [intOf]; omega
    · have HE : Hid (Tk.pre p (s.data.toList.drop k) = 0) := Tk.pre_drop_end p s.data.toList k (by simp; omega)
      go_wp2
      go_ret
      exact ⟨ret_int (by have h1 := HK.out; have h2 := HE.out; omega), rfl⟩

theorem enters_of {f : FuncId} {fn : Func} {c : Code} (hf : Try.prog.funcs[f]? = some fn) (hname : (fn.name == "runtime.NumGoroutine") = false) (hb : fn.body = some c) : Enters f := by
  intro a w
  have h1 : fn.name ≠ "runtime.NumGoroutine" := by simpa using hname
  simp [callFunc, hf, h1, hb]
theorem enters29 : Enters 29 := enters_of Try.func29 (by kernel_rfl) rfl
theorem enters33 : Enters 33 := enters_of Try.func33 (by kernel_rfl) rfl
theorem enters38 : Enters 38 := enters_of Try.func38 (by kernel_rfl) rfl

end Go.Proofs.Ytcfmjoidaehfkaa
