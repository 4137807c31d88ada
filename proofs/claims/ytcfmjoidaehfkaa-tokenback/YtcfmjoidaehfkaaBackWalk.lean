/- TokenBack: the walk of the statement's function. -/
import Derived.Test.YtcfmjoidaehfkaaBackPlain
import Derived.Test.YtcfmjoidaehfkaaPlacesWalk
namespace Go.Proofs.Ytcfmjoidaehfkaa
open Go.RowKit

/-- Scan, called at a list of bytes. -/
def ScanAt (T : List UInt8) : Prop := ∀ w, Calls Try.prog 7 #[.string ⟨T.toArray⟩] w fun e w' =>
  ∃ ao cap, e = .returned (.tuple #[.slice ao (Tk.scan T).1.length cap, .int .i64 ((Tk.scan T).2.1 : Nat), .int .i64 (Tk.scan T).2.2]) ∧ ToksAt w' ao (Tk.scan T).1 ∧ Below w.heap.size w w'
theorem scanAt (T : List UInt8) : ScanAt T := by
  intro w
  refine (Scan_any ⟨T.toArray⟩ w).mono ?_
  rintro e w' ⟨ao, cap, he, hown, hb⟩
  rw [List.toList_toArray] at he hown
  exact ⟨ao, cap, he, toksAt_own hown, hb⟩

set_option maxRecDepth 100000 in
set_option maxHeartbeats 4000000 in
theorem law_back (l : List Tk.Tok) (s : ByteArray) (w : World) (ao : Option Addr) (cap : Nat) (hmax : l.length ≤ 4398046511104) (hA : ToksAt w ao l) :
    Calls Try.prog 5 #[.slice ao l.length cap, .string s] w fun e w' => e = .returned (.bool true) ∧ Below w.heap.size w w' := by
  have HJ : Hid (∀ w, ToksAt w ao l → Calls Try.prog 11 #[.slice ao l.length cap] w fun e w' => e = .returned (.tuple #[.string ⟨(Tk.join l).1.toArray⟩, .int .i64 (Tk.join l).2]) ∧ Below w.heap.size w w') := fun w hA => Join_any l w ao cap hmax hA
  have HJS : Hid ((Tk.join l).2 = 0 → (Tk.scan (Tk.join l).1).2.2 = 0 ∧ Tk.same false l (Tk.scan (Tk.join l).1).1 = true) := join_scan l
  have HS1 : Hid (ScanAt (Tk.join l).1) := scanAt _
  have HSM : Hid (∀ w ao2 cap2, ToksAt w ao l → ToksAt w ao2 (Tk.scan (Tk.join l).1).1 → Calls Try.prog 10 #[.slice ao l.length cap, .slice ao2 (Tk.scan (Tk.join l).1).1.length cap2, .bool false] w fun e w' => e = .returned (.bool (Tk.same false l (Tk.scan (Tk.join l).1).1)) ∧ ∃ k, w' = w.drewN k) :=
    fun w ao2 cap2 h1 h2 => same_any l _ false w ao ao2 cap cap2 h1 h2 (by omega)
  have HS2 : Hid (ScanAt s.data.toList) := scanAt _
  have hse : (⟨s.data.toList.toArray⟩ : ByteArray) = s := rfl
  unfold ScanAt at HS1 HS2
  rw [hse] at HS2
  have HX1 : Hid (¬ (Tk.scan s.data.toList).2.2 = 0 → (Tk.scan s.data.toList).1 = []) := scan_wrong s.data.toList
  have HX2 : Hid ((Tk.scan s.data.toList).2.2 = 0 → ¬ (Tk.join (Tk.scan s.data.toList).1).2 = 0 → (Tk.join (Tk.scan s.data.toList).1).2 = 2) := fun h => scan_join s.data.toList h
  have HX3 := join_scan (Tk.scan s.data.toList).1
  have hm2 := scan_many s.data.toList
  clear hse
  generalize Tk.scan s.data.toList = X at *
  have HX3 : Hid ((Tk.join X.1).2 = 0 → (Tk.scan (Tk.join X.1).1).2.2 = 0 ∧ Tk.same false X.1 (Tk.scan (Tk.join X.1).1).1 = true) := HX3
  have HJ2 : Hid (∀ w ao cap, ToksAt w ao X.1 → Calls Try.prog 11 #[.slice ao X.1.length cap] w fun e w' => e = .returned (.tuple #[.string ⟨(Tk.join X.1).1.toArray⟩, .int .i64 (Tk.join X.1).2]) ∧ Below w.heap.size w w') := fun w ao cap hA => Join_any X.1 w ao cap (by omega) hA
  have HS3 : Hid (ScanAt (Tk.join X.1).1) := scanAt _
  unfold ScanAt at HS3
  have HSM2 : Hid (∀ w ao cap ao2 cap2, ToksAt w ao X.1 → ToksAt w ao2 (Tk.scan (Tk.join X.1).1).1 → Calls Try.prog 10 #[.slice ao X.1.length cap, .slice ao2 (Tk.scan (Tk.join X.1).1).1.length cap2, .bool false] w fun e w' => e = .returned (.bool (Tk.same false X.1 (Tk.scan (Tk.join X.1).1).1)) ∧ ∃ k, w' = w.drewN k) :=
    fun w ao cap ao2 cap2 h1 h2 => same_any X.1 _ false w ao ao2 cap cap2 h1 h2 (by omega)
  generalize Tk.scan (Tk.join l).1 = Y at *
  generalize Tk.join l = J at *
  generalize Tk.scan (Tk.join X.1).1 = Z at *
  generalize Tk.join X.1 = K at *
  go_enter Try.func5, Try.ntmps5
  go_wp2_with fail
  refine (begun_any _).mono ?_
  rintro e w0 ⟨rfl, hb0⟩
  have hA0 := toksAt_below hA hb0
  clear hA
  go_wp2_with fail
  refine Calls.mono (HJ.out _ hA0) ?_
  rintro e w1 ⟨rfl, hb1⟩
  have hA1 := toksAt_below hA0 hb1
  have hbel1 := hb0.trans (hb1.mono hb0.size)
  clear hA0 hb0 hb1
  cases g1 : (J.2 == 0)
  · go_wp2_with fail
    refine Calls.mono (HS2.out _) ?_
    rintro e w2 ⟨ao3, cap3, rfl, hT3, hb2⟩
    have hbel2 := hbel1.trans (hb2.mono hbel1.size)
    cases g2 : (X.2.2 != 0)
    · go_wp2_with fail
      refine Calls.mono (HJ2.out _ _ _ hT3) ?_
      rintro e w3 ⟨rfl, hb3⟩
      have hT4 := toksAt_below hT3 hb3
      have hbel3 := hbel2.trans (hb3.mono hbel2.size)
      cases g3 : (K.2 != 0)
      · go_wp2_with fail
        refine Calls.mono (HS3.out _) ?_
        rintro e w4 ⟨ao5, cap5, rfl, hT5, hb4⟩
        have hT6 := toksAt_below hT4 hb4
        have hbel4 := hbel3.trans (hb4.mono hbel3.size)
        have hz := HX3.out (by simpa using g3)
        have g4 : (Z.2.2 == 0) = true := beq_iff_eq.2 hz.1
        have HZ : Hid (Tk.same false X.1 Z.1 = true) := hz.2
        clear hz
        go_wp2_with fail
        refine Calls.mono (HSM2.out _ _ _ _ _ hT6 hT5) ?_
        rintro e w5 ⟨he, k, rfl⟩
        rw [HZ.out] at he
        subst he
        go_wp2
        go_ret
        exact ⟨rfl, below_drewN hbel4 _⟩
      · have hk := HX2.out (by simpa using g2) (by simpa using g3)
        have g5 : (K.2 == 2) = true := beq_iff_eq.2 hk
        clear hk
        go_wp2_with fail
        go_ret
        exact ⟨rfl, hbel3⟩
    · have hx := HX1.out (by simpa using g2)
      have g4 : ((X.1.length : Int) == 0) = true := by rw [hx]; rfl
      clear hx
      go_wp2_with fail
      go_ret
      exact ⟨rfl, hbel2⟩
  · have hy := HJS.out (by simpa using g1)
    have gy : (Y.2.2 != 0) = false := by simpa using hy.1
    have HY : Hid (Tk.same false l Y.1 = true) := hy.2
    clear hy
    go_wp2_with fail
    refine Calls.mono (HS1.out _) ?_
    rintro e wa ⟨ao1, cap1, rfl, hTa, hba⟩
    have hA2 := toksAt_below hA1 hba
    have hbela := hbel1.trans (hba.mono hbel1.size)
    go_wp2_with fail
    refine Calls.mono (HSM.out _ _ _ hA2 hTa) ?_
    rintro e wb ⟨he, kk, rfl⟩
    rw [HY.out] at he
    subst he
    have hbelb := below_drewN hbela kk
    clear hA1 hA2 hTa hba hbela
    go_wp2_with fail
    refine Calls.mono (HS2.out _) ?_
    rintro e w2 ⟨ao3, cap3, rfl, hT3, hb2⟩
    have hbel2 := hbelb.trans (hb2.mono hbelb.size)
    cases g2 : (X.2.2 != 0)
    · go_wp2_with fail
      refine Calls.mono (HJ2.out _ _ _ hT3) ?_
      rintro e w3 ⟨rfl, hb3⟩
      have hT4 := toksAt_below hT3 hb3
      have hbel3 := hbel2.trans (hb3.mono hbel2.size)
      cases g3 : (K.2 != 0)
      · go_wp2_with fail
        refine Calls.mono (HS3.out _) ?_
        rintro e w4 ⟨ao5, cap5, rfl, hT5, hb4⟩
        have hT6 := toksAt_below hT4 hb4
        have hbel4 := hbel3.trans (hb4.mono hbel3.size)
        have hz := HX3.out (by simpa using g3)
        have g4 : (Z.2.2 == 0) = true := beq_iff_eq.2 hz.1
        have HZ : Hid (Tk.same false X.1 Z.1 = true) := hz.2
        clear hz
        go_wp2_with fail
        refine Calls.mono (HSM2.out _ _ _ _ _ hT6 hT5) ?_
        rintro e w5 ⟨he, k, rfl⟩
        rw [HZ.out] at he
        subst he
        go_wp2
        go_ret
        exact ⟨rfl, below_drewN hbel4 _⟩
      · have hk := HX2.out (by simpa using g2) (by simpa using g3)
        have g5 : (K.2 == 2) = true := beq_iff_eq.2 hk
        clear hk
        go_wp2_with fail
        go_ret
        exact ⟨rfl, hbel3⟩
    · have hx := HX1.out (by simpa using g2)
      have g4 : ((X.1.length : Int) == 0) = true := by rw [hx]; rfl
      clear hx
      go_wp2_with fail
      go_ret
      exact ⟨rfl, hbel2⟩

end Go.Proofs.Ytcfmjoidaehfkaa
