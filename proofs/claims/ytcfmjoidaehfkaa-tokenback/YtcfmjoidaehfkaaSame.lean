/- The document's comparison of two lists of tokens. -/
import Derived.Test.YtcfmjoidaehfkaaScanTop
import Derived.Deep.QuietTactic
import Derived.BigQuiet
namespace Go.Proofs.Ytcfmjoidaehfkaa
open Go.RowKit

namespace Tk
def sameOne (q : Bool) (x y : Tok) : Bool := (x.kind == y.kind) && (x.text == y.text) && (!q || x.at_ == y.at_)
/-- Are two lists of tokens the same? but for where they begin, if q is false. -/
def same (q : Bool) : List Tok → List Tok → Bool
  | [], [] => true
  | x :: a, y :: b => sameOne q x y && same q a b
  | _, _ => false
end Tk

theorem ret_bool {a b : Bool} (h : a = b) : Ending.returned (.bool a) = .returned (.bool b) := by rw [h]

theorem drewN_two (w : World) (a b : Nat) : (w.drewN a).drewN b = w.drewN (a + b) := by simp [World.drewN, Nat.add_assoc]

/-- A token's three cells. -/
def TokIn (w : World) (b off : Nat) (t : Tk.Tok) : Prop :=
  w.cell? ⟨b, off, none⟩ = some (.int .i64 t.kind) ∧ w.cell? ⟨b, off + 1, none⟩ = some (.int .i64 t.at_) ∧ w.cell? ⟨b, off + 2, none⟩ = some (.string ⟨t.text.toArray⟩)

def tokD (l : List Tk.Tok) (i : Nat) : Tk.Tok := l.getD i ⟨0, 0, []⟩
theorem drop_tok (l : List Tk.Tok) (k : Nat) (h : k < l.length) : l.drop k = tokD l k :: l.drop (k + 1) := by
  rw [List.drop_eq_getElem_cons h, tokD, List.getD_eq_getElem?_getD, List.getElem?_eq_getElem h]
  rfl

theorem allCells_get : ∀ (l : List Tk.Tok) (i j : Nat), i < l.length → j < 3 → (allCells l)[i * 3 + j]? = (tokCells (tokD l i))[j]? := by
  intro l
  induction l with
  | nil => intro i j h; exact absurd h (by simp)
  | cons t r ih =>
    intro i j hi hj
    have e : allCells (t :: r) = tokCells t ++ allCells r := by simp [allCells]
    have hl : (tokCells t).length = 3 := rfl
    rw [e]
    cases i with
    | zero => rw [Nat.zero_mul, Nat.zero_add, List.getElem?_append_left (by omega)]; rfl
    | succ i =>
      rw [List.getElem?_append_right (by omega), hl, show (i + 1) * 3 + j - 3 = i * 3 + j from by omega, ih i j (by simpa using hi) hj]
      rfl

/-- A list of tokens behind a slice. -/
def ToksAt (w : World) (ao : Option Addr) (l : List Tk.Tok) : Prop :=
  l = [] ∨ ∃ b off, ao = some ⟨b, off, none⟩ ∧ ∀ i, i < l.length → TokIn w b (off + i * 3) (tokD l i)

set_option maxRecDepth 100000 in
set_option maxHeartbeats 1000000 in
theorem same_loop (la lb : List Tk.Tok) (q : Bool) (w : World) (n ca cb ba oa bb ob : Nat) (hna : la.length = n) (hnb : lb.length = n) (hmax : n ≤ 140737488355328)
    (hA : ∀ i, i < n → TokIn w ba (oa + i * 3) (tokD la i)) (hB : ∀ i, i < n → TokIn w bb (ob + i * 3) (tokD lb i)) :
    Calls Try.prog 10 #[.slice (some ⟨ba, oa, none⟩) n ca, .slice (some ⟨bb, ob, none⟩) n cb, .bool q] w fun e w' => e = .returned (.bool (Tk.same q la lb)) ∧ ∃ k, w' = w.drewN k := by
  have HA : Hid (la.length = n) := hna
  have HB : Hid (lb.length = n) := hnb
  clear hna hnb
  have hne : ((n : Int) != (n : Int)) = false := by simp
  go_enter Try.func10, Try.ntmps10
  go_wp2
  go_loopw [7] (fun i wr => ∃ k nq : Nat, k ≤ n ∧ i = .int .i64 k ∧ Tk.same q la lb = Tk.same q (la.drop k) (lb.drop k) ∧ wr = w.drewN nq) (fun i _ => n - (intOf i).toNat)
  case atStart => exact ⟨0, 0, Nat.zero_le _, rfl, rfl, rfl⟩
  case round =>
    obtain ⟨k, nq, hk, rfl, hsame, rfl⟩ := hrel
    have HS : Hid (Tk.same q la lb = Tk.same q (la.drop k) (lb.drop k)) := hsame
    clear hsame
    by_cases hlt : k < n
    · obtain ⟨a0, a1, a2⟩ := hA k hlt
      obtain ⟨b0, b1, b2⟩ := hB k hlt
      have HD : Hid (Tk.same q la lb = (Tk.sameOne q (tokD la k) (tokD lb k) && Tk.same q (la.drop (k + 1)) (lb.drop (k + 1)))) := by
        show _ = _
        rw [HS.out, drop_tok la k (by rw [HA.out]; exact hlt), drop_tok lb k (by rw [HB.out]; exact hlt)]
        rfl
      clear hA hB HS
      generalize tokD la k = x at *
      generalize tokD lb k = y at *
      cases h1 : (x.kind != y.kind)
      · cases h2 : (x.text == y.text)
        · have HV : Hid (Tk.same q la lb = false) := by show _ = _; rw [HD.out, Tk.sameOne, h2]; simp
          clear HD
          go_wp2_with fail
          go_quiet (fail)
          go_wp2
          go_ret
          exact ⟨ret_bool HV.out.symm, _, drewN_two _ _ _⟩
        · cases q
          · have HV : Hid (Tk.same false la lb = Tk.same false (la.drop (k + 1)) (lb.drop (k + 1))) := by
              show _ = _
              have hk : (x.kind == y.kind) = true := by simpa using h1
              rw [HD.out, Tk.sameOne, h2, hk]; rfl
            clear HD
            go_wp2_with fail
            go_quiet (fail)
            go_wp2
            go_roundw
            case rel => exact ⟨k + 1, _, by omega, by go_num, HV.out, rfl⟩
            case measure => simp [intOf]; omega
          · cases h3 : (x.at_ != y.at_)
            · have HV : Hid (Tk.same true la lb = Tk.same true (la.drop (k + 1)) (lb.drop (k + 1))) := by
                show _ = _
                have hk : (x.kind == y.kind) = true := by simpa using h1
                have ha : (x.at_ == y.at_) = true := by simpa using h3
                rw [HD.out, Tk.sameOne, h2, hk, ha]; rfl
              clear HD
              go_wp2_with fail
              go_quiet (fail)
              go_wp2
              go_roundw
              case rel => exact ⟨k + 1, _, by omega, by go_num, HV.out, rfl⟩
              case measure => simp [intOf]; omega
            · have HV : Hid (Tk.same true la lb = false) := by
                show _ = _
                have ha : (x.at_ == y.at_) = false := by simpa using h3
                rw [HD.out, Tk.sameOne, ha]; simp
              clear HD
              go_wp2_with fail
              go_quiet (fail)
              go_wp2
              go_ret
              exact ⟨ret_bool HV.out.symm, _, drewN_two _ _ _⟩
      · have HV : Hid (Tk.same q la lb = false) := by
          show _ = _
          have hk : (x.kind == y.kind) = false := by simpa using h1
          rw [HD.out, Tk.sameOne, hk]; rfl
        clear HD
        go_wp2_with fail
        go_quiet (fail)
        go_wp2
        go_ret
        exact ⟨ret_bool HV.out.symm, _, drewN_two _ _ _⟩
    · have HV : Hid (Tk.same q la lb = true) := by
        show _ = _
        rw [HS.out, List.drop_of_length_le (by rw [HA.out]; omega), List.drop_of_length_le (by rw [HB.out]; omega)]
        rfl
      clear HS hA hB
      go_wp2_with fail
      go_ret
      exact ⟨ret_bool HV.out.symm, _, rfl⟩

theorem same_len (q : Bool) : ∀ (la lb : List Tk.Tok), ¬ la.length = lb.length → Tk.same q la lb = false := by
  intro la
  induction la with
  | nil =>
    intro lb h
    cases lb with
    | nil => exact absurd rfl h
    | cons y b => rfl
  | cons x a ih =>
    intro lb h
    cases lb with
    | nil => rfl
    | cons y b => rw [Tk.same, ih b (by simpa using h), Bool.and_false]

set_option maxHeartbeats 400000 in
theorem same_diff (q : Bool) (w : World) (ao bo : Option Addr) (n m ca cb : Nat) (h : ¬ n = m) :
    Calls Try.prog 10 #[.slice ao n ca, .slice bo m cb, .bool q] w fun e w' => e = .returned (.bool false) ∧ ∃ k, w' = w.drewN k := by
  have hne : ((n : Int) != (m : Int)) = true := bne_iff_ne.2 (by omega)
  go_enter Try.func10, Try.ntmps10
  go_wp2
  go_ret
  exact ⟨rfl, 0, rfl⟩

set_option maxRecDepth 100000 in
set_option maxHeartbeats 400000 in
theorem same_none (q : Bool) (w : World) (ao bo : Option Addr) (ca cb : Nat) :
    Calls Try.prog 10 #[.slice ao 0 ca, .slice bo 0 cb, .bool q] w fun e w' => e = .returned (.bool true) ∧ ∃ k, w' = w.drewN k := by
  go_enter Try.func10, Try.ntmps10
  go_wp2
  refine wp_loop_rounds 1 ?_
  rw [rounds_succ]
  go_wp2
  go_ret
  exact ⟨rfl, 0, rfl⟩

/-- SameTokens, whatever lists it is handed. -/
theorem same_any (la lb : List Tk.Tok) (q : Bool) (w : World) (ao bo : Option Addr) (ca cb : Nat) (hA : ToksAt w ao la) (hB : ToksAt w bo lb) (hmax : la.length ≤ 140737488355328) :
    Calls Try.prog 10 #[.slice ao la.length ca, .slice bo lb.length cb, .bool q] w fun e w' => e = .returned (.bool (Tk.same q la lb)) ∧ ∃ k, w' = w.drewN k := by
  by_cases h : la.length = lb.length
  · rcases hA with rfl | ⟨b, off, rfl, hA⟩
    · have hl : lb = [] := List.eq_nil_of_length_eq_zero h.symm
      subst hl
      exact same_none q w ao bo ca cb
    · rcases hB with rfl | ⟨b', off', rfl, hB⟩
      · have hl : la = [] := List.eq_nil_of_length_eq_zero h
        subst hl
        exact same_none q w _ bo ca cb
      · rw [← h]
        exact same_loop la lb q w la.length ca cb b off b' off' rfl h.symm hmax hA (by rw [h]; exact hB)
  · rw [same_len q la lb h]
    exact same_diff q w ao bo _ _ ca cb h

/-- A row of the call's own, read as tokens. -/
theorem toksAt_own {w : World} {base n : Nat} {ao : Option Addr} {cap : Nat} {l : List Tk.Tok} (h : w.ownsRow base 34 3 (.slice ao n cap) n (allCells l)) : ToksAt w ao l := by
  rcases h.2 with ⟨hv, h0⟩ | ⟨g, cap', cur, hv, hg, hbk, r⟩
  · left
    have h1 := h.1
    rw [h0, allCells_length] at h1
    exact List.eq_nil_of_length_eq_zero (by omega)
  · right
    have hv' : ao = some ⟨g, 0, none⟩ := by injection hv
    subst hv'
    refine ⟨g, 0, rfl, fun i hi => ?_⟩
    have hc := h.cells (g := g) rfl
    have hget : ∀ j, j < 3 → (allCells l)[i * 3 + j]? = (tokCells (tokD l i))[j]? := fun j hj => allCells_get l i j hi hj
    have hadd : ∀ k, ((⟨g, 0, none⟩ : Addr).add k) = ⟨g, 0 + k, none⟩ := fun _ => by simp [Addr.add]; exact fun h => h.symm
    refine ⟨?_, ?_, ?_⟩
    · have := hc (i * 3 + 0) _ ((hget 0 (by omega)).trans rfl)
      rw [hadd] at this
      simpa using this
    · have := hc (i * 3 + 1) _ ((hget 1 (by omega)).trans rfl)
      rw [hadd] at this
      simpa [Nat.add_assoc] using this
    · have := hc (i * 3 + 2) _ ((hget 2 (by omega)).trans rfl)
      rw [hadd] at this
      simpa [Nat.add_assoc] using this

end Go.Proofs.Ytcfmjoidaehfkaa
