/- Package token: is a token the only one of its text? -/
import Derived.Test.YtcfmjoidaehfkaaIsTok
namespace Go.Proofs.Ytcfmjoidaehfkaa
open Go.RowKit

abbrev tokObjOf (t : Tk.Tok) : Obj := .cells #[.int .i64 t.kind, .int .i64 t.at_, .string ⟨t.text.toArray⟩] 34

theorem boxCell {w w1 : World} {t : Tk.Tok} (hb : Below (w.alloc (tokObjOf t)).heap.size (w.alloc (tokObjOf t)) w1) :
    w1.cell? ⟨w.heap.size, 0, none⟩ = some (.int .i64 t.kind) ∧ w1.cell? ⟨w.heap.size, 1, none⟩ = some (.int .i64 t.at_) ∧ w1.cell? ⟨w.heap.size, 2, none⟩ = some (.string ⟨t.text.toArray⟩) := by
  obtain ⟨hc, hf⟩ := bcell hb
  have h : w.heap.size < (w.alloc (tokObjOf t)).heap.size := by simp
  refine ⟨?_, ?_, ?_⟩
  · rw [hc _ _ h]; simp [go_sem]
  · rw [hc _ _ h]; simp [go_sem]
  · rw [hc _ _ h]; simp [go_sem]

theorem below_box {w w1 : World} {o : Obj} (hb : Below (w.alloc o).heap.size (w.alloc o) w1) : Below w.heap.size w w1 :=
  ((Below.refl _ _).alloc (Nat.le_refl _) _).trans (hb.mono (by simp))

set_option maxRecDepth 100000 in
set_option maxHeartbeats 1000000 in
theorem alone_any (t : Tk.Tok) (w : World) :
    Calls Try.prog 15 #[tokVal t] w fun e w' => e = .returned (.bool (Tk.alone t.kind t.text)) ∧ Below w.heap.size w w' := by
  have HV : Hid (Tk.alone t.kind t.text = (((Tk.scan t.text).2.2 == 0) && (((Tk.scan t.text).1.length : Int) == 1) && ((tokD (Tk.scan t.text).1 0).kind == t.kind) && ((tokD (Tk.scan t.text).1 0).text == t.text))) := rfl
  generalize Tk.alone t.kind t.text = V at *
  have hS := fun w => Scan_any ⟨t.text.toArray⟩ w
  have hd : (⟨t.text.toArray⟩ : ByteArray).data.toList = t.text := List.toList_toArray
  rw [hd] at hS
  unfold ScanTop at hS
  generalize Tk.scan t.text = X at *
  have HS : Hid (_) := hS
  clear hS hd
  go_enter Try.func15, Try.ntmps15
  go_wp2_with fail
  refine (HS.out _).mono ?_
  rintro e w1 ⟨ao, cap, rfl, hown, hb⟩
  obtain ⟨c0, c1, c2⟩ := boxCell hb
  have hT0 : 0 < X.1.length → ∃ b off, ao = some ⟨b, off, none⟩ ∧ TokIn w1 b off (tokD X.1 0) := fun h0 => by
    rcases toksAt_own hown with h | ⟨b, off, rfl, hc⟩
    · rw [h] at h0; exact absurd h0 (by simp)
    · exact ⟨b, off, rfl, by simpa using hc 0 h0⟩
  have hbel := below_box hb
  clear hown hb HS
  generalize tokD X.1 0 = x at *
  cases g1 : (X.2.2 == 0)
  · have HF : Hid (V = false) := by show _ = _; rw [HV.out, g1]; rfl
    clear HV
    go_wp2_with fail
    go_quiet (fail)
    go_wp2
    go_ret
    exact ⟨ret_bool HF.out.symm, below_drewN hbel _⟩
  · cases g2 : ((X.1.length : Int) == 1)
    · have HF : Hid (V = false) := by show _ = _; rw [HV.out, g2]; simp
      clear HV
      go_wp2_with fail
      go_quiet (fail)
      go_wp2
      go_ret
      exact ⟨ret_bool HF.out.symm, below_drewN hbel _⟩
    · have hpos : 0 < X.1.length := by have := beq_iff_eq.1 g2; omega
      obtain ⟨b, off, rfl, d0, d1, d2⟩ := hT0 hpos
      clear hT0
      cases g3 : (x.kind == t.kind)
      · have HF : Hid (V = false) := by show _ = _; rw [HV.out, g3]; simp
        clear HV
        go_wp2_with fail
        go_quiet (fail)
        go_wp2
        go_ret
        exact ⟨ret_bool HF.out.symm, below_drewN hbel _⟩
      · cases g4 : (x.text == t.text)
        · have HF : Hid (V = false) := by show _ = _; rw [HV.out, g4]; simp
          clear HV
          go_wp2_with fail
          go_quiet (fail)
          go_wp2
          go_ret
          exact ⟨ret_bool HF.out.symm, below_drewN hbel _⟩
        · have HF : Hid (V = true) := by show _ = _; rw [HV.out, g1, g2, g3, g4]; rfl
          clear HV
          go_wp2_with fail
          go_quiet (fail)
          go_wp2
          go_ret
          exact ⟨ret_bool HF.out.symm, below_drewN hbel _⟩

end Go.Proofs.Ytcfmjoidaehfkaa
