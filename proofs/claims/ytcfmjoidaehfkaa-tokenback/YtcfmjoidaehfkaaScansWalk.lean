/- TokenScans: the walk of the statement's function. -/
import Derived.Test.YtcfmjoidaehfkaaBegun
namespace Go.Proofs.Ytcfmjoidaehfkaa
open Go.RowKit

theorem same_refl (q : Bool) (l : List Tk.Tok) : Tk.same q l l = true := by
  induction l with
  | nil => rfl
  | cons t r ih => rw [Tk.same, ih, Tk.sameOne]; simp

theorem ScanOf_any (s : ByteArray) (w : World) : Calls Try.prog 8 #[.string s] w (ScanTop s.data.toList w) := by
  by_cases h : 5000 < s.size
  · exact ScanOf_long s w h
  · exact ScanOf_short s w (by omega)

theorem toksAt_below {w w' : World} {ao : Option Addr} {l : List Tk.Tok} (h : ToksAt w ao l) (hb : Below w.heap.size w w') : ToksAt w' ao l := by
  rcases h with h | ⟨b, off, rfl, hc⟩
  · exact .inl h
  · refine .inr ⟨b, off, rfl, fun i hi => ?_⟩
    obtain ⟨a0, a1, a2⟩ := hc i hi
    have hbw : b < w.heap.size := World.block_lt_of_cell? w _ a0
    exact ⟨(hb.cell (p := ⟨b, _, none⟩) hbw).trans a0, (hb.cell (p := ⟨b, _, none⟩) hbw).trans a1, (hb.cell (p := ⟨b, _, none⟩) hbw).trans a2⟩

/-- No more tokens than bytes. -/
theorem scanP_many (L : List UInt8) : ∀ (f p : Nat) (acc : List Tk.Tok), acc.length ≤ p → p ≤ L.length → (Tk.scanP L f p acc).1.length ≤ L.length := by
  intro f
  induction f with
  | zero => intro p acc h1 h2; rw [Tk.scanP]; exact Nat.le_trans h1 h2
  | succ f ih =>
    intro p acc h1 h2
    rw [Tk.scanP]
    split
    · exact Nat.le_trans h1 h2
    · split
      · rename_i h3 h4
        have g1 := Tk.lenOf_le (L.drop p)
        have g2 := Tk.lenOf_pos (L.drop p) (by intro e; have := congrArg List.length e; simp at this; omega) h4
        rw [List.length_drop] at g1
        have g3 := Tk.sep_le false (L.drop (p + Tk.lenOf (L.drop p)))
        rw [List.length_drop] at g3
        refine ih _ _ ?_ ?_
        · rw [List.length_append]; simp; omega
        · omega
      · simp
theorem scan_many (L : List UInt8) : (Tk.scan L).1.length ≤ 5000 := by
  unfold Tk.scan
  split
  · simp
  · have := scanP_many L L.length (Tk.sep false L) [] (Nat.zero_le _) (Tk.sep_le false L)
    omega

set_option maxRecDepth 100000 in
set_option maxHeartbeats 1000000 in
theorem law_scans (s : ByteArray) (w : World) : Calls Try.prog 3 #[.string s] w fun e w' => e = .returned (.bool true) ∧ Below w.heap.size w w' := by
  have hsm := same_refl true (Tk.scan s.data.toList).1
  have hmany := scan_many s.data.toList
  have HA := fun w => Scan_any s w
  have HB := fun w => ScanOf_any s w
  unfold ScanTop at HA HB
  generalize Tk.scan s.data.toList = X at *
  have HA2 : Hid _ := HA
  have HB2 : Hid _ := HB
  have HS : Hid _ := hsm
  clear HA HB hsm
  go_enter Try.func3, Try.ntmps3
  go_wp2_with fail
  refine (HA2.out _).mono ?_
  rintro e w1 ⟨ao, cap, rfl, hown, hb⟩
  have hT := toksAt_own hown
  clear hown
  go_wp2_with fail
  refine (HB2.out _).mono ?_
  rintro e w2 ⟨ao2, cap2, rfl, hown2, hb2⟩
  have hT2 := toksAt_own hown2
  have hT1 := toksAt_below hT hb2
  clear hown2 hT
  go_wp2_with fail
  refine (begun_any _).mono ?_
  rintro e w3 ⟨rfl, hb3⟩
  have hT3 := toksAt_below hT1 hb3
  have hT4 := toksAt_below hT2 hb3
  have hbel := (hb.trans (hb2.mono hb.size)).trans (hb3.mono (Nat.le_trans hb.size hb2.size))
  clear hT1 hT2 hb hb2 hb3
  go_wp2_with fail
  refine (same_any X.1 X.1 true _ ao ao2 cap cap2 hT3 hT4 (by omega)).mono ?_
  rintro e w4 ⟨he, k, rfl⟩
  rw [HS.out] at he
  subst he
  go_wp2
  go_ret
  exact ⟨rfl, below_drewN hbel _⟩

end Go.Proofs.Ytcfmjoidaehfkaa
