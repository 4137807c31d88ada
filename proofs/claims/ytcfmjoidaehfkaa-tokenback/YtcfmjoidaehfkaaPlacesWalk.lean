/- TokenPlaces: the walk of the statement's function. -/
import Derived.Test.YtcfmjoidaehfkaaScansWalk
namespace Go.Proofs.Ytcfmjoidaehfkaa
open Go.RowKit

/-- Each token stands where it is told, one behind the other, from a place on. -/
def Placed (L : List UInt8) : Nat → List Tk.Tok → Prop
  | _, [] => True
  | p, t :: r => ∃ q : Nat, t.at_ = q ∧ p ≤ q ∧ 1 ≤ t.text.length ∧ q + t.text.length ≤ L.length ∧ t.text = (L.drop q).take t.text.length ∧ Placed L (q + t.text.length) r

theorem placed_mono (L : List UInt8) (p p' : Nat) (l : List Tk.Tok) (h : p' ≤ p) (hp : Placed L p l) : Placed L p' l := by
  cases l with
  | nil => trivial
  | cons t r =>
    obtain ⟨q, h1, h2, r'⟩ := hp
    exact ⟨q, h1, by omega, r'⟩

theorem scanP_placed (L : List UInt8) : ∀ (f p : Nat) (acc : List Tk.Tok), (Tk.scanP L f p acc).2.2 = 0 → ∃ r, (Tk.scanP L f p acc).1 = acc ++ r ∧ Placed L p r := by
  intro f
  induction f with
  | zero => intro p acc _; exact ⟨[], by simp [Tk.scanP], trivial⟩
  | succ f ih =>
    intro p acc h
    rw [Tk.scanP] at h ⊢
    split
    · exact ⟨[], by simp, trivial⟩
    · rename_i h1
      rw [if_neg h1] at h
      split
      · rename_i h2
        rw [if_pos h2] at h
        obtain ⟨r, hr, hpl⟩ := ih _ _ h
        have g1 := Tk.lenOf_le (L.drop p)
        have g2 := Tk.lenOf_pos (L.drop p) (by intro e; have := congrArg List.length e; simp at this; omega) h2
        have hd : (L.drop p).length = L.length - p := List.length_drop
        have hl : (Tk.tokAt L p).text.length = Tk.lenOf (L.drop p) := by simp only [Tk.tokAt, List.length_take]; omega
        refine ⟨Tk.tokAt L p :: r, by rw [hr]; simp, p, rfl, Nat.le_refl _, by omega, by omega, ?_, ?_⟩
        · rw [hl]; rfl
        · rw [hl]; exact placed_mono L _ _ r (by omega) hpl
      · rename_i h2
        rw [if_neg h2] at h
        exact absurd h h2

theorem scan_placed (L : List UInt8) (h : (Tk.scan L).2.2 = 0) : Placed L 0 (Tk.scan L).1 := by
  unfold Tk.scan at h ⊢
  split
  · trivial
  · rename_i h1
    rw [if_neg h1] at h
    obtain ⟨r, hr, hp⟩ := scanP_placed L _ _ _ h
    rw [hr]
    exact placed_mono L _ _ r (Nat.zero_le _) hp

theorem scanP_wrong (L : List UInt8) : ∀ (f p : Nat) (acc : List Tk.Tok), ¬ (Tk.scanP L f p acc).2.2 = 0 → (Tk.scanP L f p acc).1 = [] := by
  intro f
  induction f with
  | zero => intro p acc h; exact absurd rfl h
  | succ f ih =>
    intro p acc h
    rw [Tk.scanP] at h ⊢
    split
    · rename_i h1; rw [if_pos h1] at h; exact absurd rfl h
    · rename_i h1
      rw [if_neg h1] at h
      split
      · rename_i h2; rw [if_pos h2] at h; exact ih _ _ h
      · rfl
theorem scan_wrong (L : List UInt8) (h : ¬ (Tk.scan L).2.2 = 0) : (Tk.scan L).1 = [] := by
  unfold Tk.scan at h ⊢
  split
  · rfl
  · rename_i h1
    rw [if_neg h1] at h
    exact scanP_wrong L _ _ _ h

theorem scan_short5 (L : List UInt8) (h : (Tk.scan L).2.2 = 0) : L.length ≤ 5000 := by
  by_cases h5 : 5000 < L.length
  · rw [Tk.scan, if_pos h5] at h; exact absurd h (by decide)
  · omega

theorem placed_drop {L : List UInt8} {a k : Nat} {l : List Tk.Tok} (hk : k < l.length) (h : Placed L a (l.drop k)) :
    ∃ q : Nat, (tokD l k).at_ = q ∧ a ≤ q ∧ 1 ≤ (tokD l k).text.length ∧ q + (tokD l k).text.length ≤ L.length ∧ (tokD l k).text = (L.drop q).take (tokD l k).text.length ∧ Placed L (q + (tokD l k).text.length) (l.drop (k + 1)) := by
  rw [drop_tok l k hk] at h
  exact h

set_option maxRecDepth 100000 in
set_option maxHeartbeats 2000000 in
theorem law_places (s : ByteArray) (w : World) : Calls Try.prog 6 #[.string s] w fun e w' => e = .returned (.bool true) ∧ Below w.heap.size w w' := by
  have hmany := scan_many s.data.toList
  have HP : Hid ((Tk.scan s.data.toList).2.2 = 0 → Placed s.data.toList 0 (Tk.scan s.data.toList).1) := scan_placed s.data.toList
  have H5 : Hid ((Tk.scan s.data.toList).2.2 = 0 → s.data.toList.length ≤ 5000) := scan_short5 s.data.toList
  have HW : Hid (¬ (Tk.scan s.data.toList).2.2 = 0 → (Tk.scan s.data.toList).1 = []) := scan_wrong s.data.toList
  have HA : Hid (∀ w, Calls Try.prog 7 #[.string s] w (ScanTop s.data.toList w)) := fun w => Scan_any s w
  unfold ScanTop at HA
  generalize Tk.scan s.data.toList = X at *
  go_enter Try.func6, Try.ntmps6
  go_wp2_with fail
  refine Calls.mono (HA.out _) ?_
  rintro e w1 ⟨ao, cap, rfl, hown, hb⟩
  have hT := toksAt_own hown
  clear hown
  go_wp2_with fail
  refine (begun_any _).mono ?_
  rintro e w2 ⟨rfl, hb2⟩
  have hT2 := toksAt_below hT hb2
  have hbel := hb.trans (hb2.mono hb.size)
  clear hT hb hb2 HA
  cases g1 : (X.2.2 != 0)
  · have HPl : Hid (Placed s.data.toList 0 X.1) := HP.out (by simpa using g1)
    have hs5 : s.size ≤ 5000 := by have := H5.out (by simpa using g1); simpa using this
    clear HP HW H5
    go_wp2_with fail
    go_loopw [6, 7] (fun at_ i wr => ∃ k a nq : Nat, k ≤ X.1.length ∧ a ≤ s.size ∧ at_ = .int .i64 a ∧ i = .int .i64 k ∧ Placed s.data.toList a (X.1.drop k) ∧ wr = w2.drewN nq) (fun _ i _ => X.1.length - (intOf i).toNat)
    case atStart => exact ⟨0, 0, 0, Nat.zero_le _, Nat.zero_le _, rfl, rfl, HPl.out, rfl⟩
    case round =>
      obtain ⟨k, a, nq, hk, ha, rfl, rfl, hpl, rfl⟩ := hrel
      have HPk : Hid (Placed s.data.toList a (X.1.drop k)) := hpl
      clear hpl HPl
      by_cases hlt : k < X.1.length
      · rcases hT2 with h | ⟨b, off, rfl, hc⟩
        · rw [h] at hlt; exact absurd hlt (by simp)
        obtain ⟨a0, a1, a2⟩ := hc k hlt
        obtain ⟨q, p1, p2, p3, p4, p5, p6⟩ := placed_drop hlt HPk.out
        have HP6 : Hid (Placed s.data.toList (q + (tokD X.1 k).text.length) (X.1.drop (k + 1))) := p6
        rw [p1] at a1
        have hsz : s.data.toList.length = s.size := by simp
        rw [hsz] at p4
        have htx : ((s.extract q (q + (tokD X.1 k).text.length)).toList == (tokD X.1 k).text) = true := by
          rw [Lib.extract_toList, Nat.add_sub_cancel_left]
          exact beq_iff_eq.2 p5.symm
        clear p1 p5 p6 hc HPk hsz
        generalize tokD X.1 k = t at *
        have d1 : decide (q < a) = false := decide_eq_false (by omega)
        have d2 : ((t.text.length : Int) == 0) = false := beq_eq_false_iff_ne.2 (by omega)
        have d3 : decide (s.size < q) = false := decide_eq_false (by omega)
        have d4 : decide ((s.size : Int) - (q : Int) < (t.text.length : Int)) = false := decide_eq_false (by omega)
        go_wp2_with fail
        go_quiet (fail)
        go_wp2
        go_roundw
        case rel => exact ⟨k + 1, q + t.text.length, _, by omega, by omega, by go_num, by go_num, HP6.out, rfl⟩
        case measure => simp [intOf]; omega
      · go_wp2_with fail
        go_ret
        exact ⟨rfl, below_drewN hbel _⟩
  · have hX : X.1 = [] := HW.out (by simpa using g1)
    have hl : ((X.1.length : Int) == 0) = true := by rw [hX]; rfl
    clear hX HP HW H5
    go_wp2_with fail
    go_ret
    exact ⟨rfl, hbel⟩

end Go.Proofs.Ytcfmjoidaehfkaa
