/- Package token: Join answers the texts of tokens with a blank between, or why not. -/
import Derived.Test.YtcfmjoidaehfkaaAlone
import Derived.Test.YtcfmjoidaehfkaaBuild
import Derived.Lib.UnsafeStr
namespace Go.Proofs.Ytcfmjoidaehfkaa
open Go.RowKit

namespace Tk
/-- The texts of the first k tokens, a blank between. -/
def joinTo (l : List Tok) : Nat → List UInt8
  | 0 => []
  | k + 1 => (if k = 0 then [] else joinTo l k ++ [32]) ++ (tokD l k).text
/-- Are the first k tokens each the only one of its text? -/
def allTok (l : List Tok) (k : Nat) : Bool := (l.take k).all fun t => isTok t.kind t.text
/-- What Join answers. -/
def join (l : List Tok) : List UInt8 × Int :=
  if allTok l l.length then (if 5000 < (joinTo l l.length).length then ([], 2) else (joinTo l l.length, 0)) else ([], 1)

theorem allTok_snoc (l : List Tok) (k : Nat) (h : k < l.length) : allTok l (k + 1) = (allTok l k && isTok (tokD l k).kind (tokD l k).text) := by
  unfold allTok
  rw [List.take_succ_eq_append_getElem h, List.all_append]
  have e : tokD l k = l[k] := by rw [tokD, List.getD_eq_getElem?_getD, List.getElem?_eq_getElem h]; rfl
  rw [e]
  simp
theorem allTok_no (l : List Tok) (k : Nat) (h : k < l.length) (hk : isTok (tokD l k).kind (tokD l k).text = false) : allTok l l.length = false := by
  have e : tokD l k = l[k] := by rw [tokD, List.getD_eq_getElem?_getD, List.getElem?_eq_getElem h]; rfl
  rw [e] at hk
  unfold allTok
  rw [List.take_length]
  rw [← Bool.not_eq_true] at hk ⊢
  intro ha
  exact hk (List.all_eq_true.1 ha _ (List.getElem_mem h))
theorem isTok_len (k : Int) (t : List UInt8) (h : isTok k t = true) : t.length ≤ 12 := by
  have h := of_decide_eq_true h
  obtain ⟨h1, h2, h3, h4, h5⟩ := h
  match t, h1 with
  | c :: r, _ =>
    rcases tok_cases c r with ⟨c1, cE⟩ | ⟨c1, cK, c3, cE⟩ | ⟨c1, cK, c3, cE⟩ | ⟨c1, cK, c3, cE⟩ | ⟨c1, cK, c3, c4, c5, cE⟩ | ⟨c1, cK, c3, cE⟩ | ⟨c1, cK, c3, c4, c5, cE⟩ | ⟨c1, cK, cE⟩
    · omega
    · omega
    · omega
    · omega
    · omega
    · omega
    · omega
    · have e2 := lenOf_cons c r
      have e1 := kindOf_cons c r
      rw [cK] at e1
      cases g1 : Tk.small c.toNat
      · cases g2 : Tk.great c.toNat
        · cases g3 : Tk.digit c.toNat
          · rw [g1, g2, g3] at e2
            simp only [Bool.or_self, Bool.false_eq_true, if_false] at e2
            have e3 : Tk.signLen (c :: r) ≤ 2 := by
              unfold Tk.signLen
              split
              · omega
              · dsimp only; split <;> omega
            omega
          · rw [g1, g2, g3] at e1; simp at e1
        · rw [g1, g2] at e1; simp at e1
      · rw [g1] at e1; simp at e1
theorem joinTo_len (l : List Tok) : ∀ k, k ≤ l.length → allTok l k = true → (joinTo l k).length ≤ 13 * k := by
  intro k
  induction k with
  | zero => intro _ _; exact Nat.le_refl 0
  | succ k ih =>
    intro hk ha
    rw [allTok_snoc l k (by omega), Bool.and_eq_true] at ha
    have h1 := ih (by omega) ha.1
    have h2 := isTok_len _ _ ha.2
    rw [joinTo]
    split
    · simp; omega
    · simp; omega
end Tk

theorem builder_below {N : Nat} {bs : List Value} {w w' : World} (h : Lib.IsBuilder 44 5 N N bs w) (hb : Below w.heap.size w w') : Lib.IsBuilder 44 5 N N bs w' := by
  have key : ∀ p, Lib.BuilderAt 44 5 N N p bs w → Lib.BuilderAt 44 5 N N p bs w' := fun p h => by
    have hlt := h.lt
    obtain ⟨h1, v, h2, h3, h4⟩ := h
    exact ⟨h1, v, by rw [hb.block N hlt]; exact h2, ownsRow_below h3 hb, h4⟩
  rcases h with h | h
  · exact .inl (key _ h)
  · exact .inr (key _ h)

theorem builder_lt {N : Nat} {bs : List Value} {w : World} (h : Lib.IsBuilder 44 5 N N bs w) : N < w.heap.size := by
  rcases h with h | h
  · exact h.lt
  · exact h.lt

/-- A block of a token stands where the builder writes. -/
theorem kept_tok {N T : Nat} {t : Tk.Tok} {w w' : World} (hk : Lib.OthersKept 5 (some N) w w') (hne : ¬ T = N) (h : w.heap[T]? = some (tokObjOf t)) : w'.heap[T]? = some (tokObjOf t) := by
  refine hk T _ h (fun e => hne (Option.some.inj e)) ?_
  intro c fz e
  injection e with _ e2 _
  exact absurd e2 (by decide)

set_option maxRecDepth 100000 in
set_option maxHeartbeats 2000000 in
theorem Join_some (l : List Tk.Tok) (w : World) (n b off cap : Nat) (hn : l.length = n) (hmax : n ≤ 4398046511104)
    (hA : ∀ i, i < n → TokIn w b (off + i * 3) (tokD l i)) :
    Calls Try.prog 11 #[.slice (some ⟨b, off, none⟩) n cap] w fun e w' => e = .returned (.tuple #[.string ⟨(Tk.join l).1.toArray⟩, .int .i64 (Tk.join l).2]) ∧ Below w.heap.size w w' := by
  have HN : Hid (l.length = n) := hn
  clear hn
  go_enter Try.func11, Try.ntmps11
  go_wp2_with fail
  go_loopw [9] (fun i wr => ∃ k : Nat, k ≤ n ∧ i = .int .i64 k ∧ Tk.allTok l k = true ∧ Lib.IsBuilder 44 5 w.heap.size w.heap.size (Lib.byteCells (Tk.joinTo l k)) wr ∧ Below w.heap.size w wr) (fun i _ => n - (intOf i).toNat)
  case atStart => exact ⟨0, Nat.zero_le _, rfl, rfl, Lib.fresh_isBuilder 44 5 w, (Below.refl _ _).alloc (Nat.le_refl _) _⟩
  case round =>
    obtain ⟨k, hk, rfl, hall, hbu, hbel⟩ := hrel
    have HA : Hid (Tk.allTok l k = true) := hall
    clear hall
    have hNw := builder_lt hbu
    have hlen := Tk.joinTo_len l k (by rw [HN.out]; exact hk) HA.out
    by_cases hlt : k < n
    · obtain ⟨a0, a1, a2⟩ := hA k hlt
      have hbw : b < w.heap.size := World.block_lt_of_cell? w _ a0
      have a0' : wr.cell? ⟨b, off + k * 3, none⟩ = some (.int .i64 (tokD l k).kind) := (hbel.cell (p := ⟨b, _, none⟩) hbw).trans a0
      have a1' : wr.cell? ⟨b, off + k * 3 + 1, none⟩ = some (.int .i64 (tokD l k).at_) := (hbel.cell (p := ⟨b, _, none⟩) hbw).trans a1
      have a2' : wr.cell? ⟨b, off + k * 3 + 2, none⟩ = some (.string ⟨(tokD l k).text.toArray⟩) := (hbel.cell (p := ⟨b, _, none⟩) hbw).trans a2
      clear a0 a1 a2 hA
      go_wp2_with fail
      refine (alone_any (tokD l k) _).mono ?_
      rintro e w1 ⟨he, hb1⟩
      rw [alone_eq] at he
      subst he
      have hb0 : Below wr.heap.size wr w1 := below_box hb1
      have hbel1 : Below w.heap.size w w1 := hbel.trans (hb0.mono (by omega))
      cases hT : Tk.isTok (tokD l k).kind (tokD l k).text
      · have HF : Hid (Tk.join l = ([], 1)) := by
          show _ = _
          unfold Tk.join
          rw [if_neg (by rw [Tk.allTok_no l k (by rw [HN.out]; exact hlt) hT]; simp)]
        clear hT hb1 a0' a1' a2'
        go_wp2_with fail
        go_ret2
        refine ⟨?_, hbel1⟩
        rw [HF.out]
        rfl
      · have HT : Hid (Tk.allTok l (k + 1) = true) := by
          show _ = _
          rw [Tk.allTok_snoc l k (by rw [HN.out]; exact hlt), HA.out, hT]
          rfl
        have h12 := Tk.isTok_len _ _ hT
        have hbu1 := builder_below hbu hb0
        have hblk : w1.heap[wr.heap.size]? = some (tokObjOf (tokD l k)) := by
          rw [hb1.block wr.heap.size (by simp)]
          exact heap_alloc_new wr _
        obtain ⟨x0, x1, x2⟩ := boxCell hb1
        have hz1 : w.heap.size ≤ w1.heap.size := hbel1.size
        clear hT hb1 a0' a1' a2' hbu hb0
        by_cases hk0 : 0 < k
        · have HJ : Hid (Lib.byteCells (Tk.joinTo l k) ++ [.int .u8 32] ++ Lib.strCells ⟨(tokD l k).text.toArray⟩ = Lib.byteCells (Tk.joinTo l (k + 1))) := by
            show _ = _
            rw [Tk.joinTo, if_neg (by omega), Lib.byteCells_append, Lib.byteCells_append]
            rfl
          go_wp2_with fail
          refine (writeByte_any w.heap.size w.heap.size _ 32 _ hbu1 (by rw [Lib.byteCells_length]; omega) hz1).mono ?_
          rintro e w2 ⟨rfl, hB2, hbel2, hk2⟩
          have hblk2 := kept_tok hk2 (by omega) hblk
          have d2 : w2.cell? ⟨wr.heap.size, 2, none⟩ = some (.string ⟨(tokD l k).text.toArray⟩) := by rw [Lib.cell_of_heap hblk2]; rfl
          have hz2 : w.heap.size ≤ w2.heap.size := by have := hbel2.size; omega
          clear hk2 hblk hblk2 hbu1 x0 x1 x2
          go_wp2_with fail
          refine (writeString_any w.heap.size w.heap.size _ _ _ (.inr hB2) (by show _ + (tokD l k).text.toArray.size ≤ _; simp [Lib.byteCells_length]; omega) hz2).mono ?_
          rintro e w3 ⟨rfl, hB3, hbel3, _⟩
          rw [HJ.out] at hB3
          have hbel4 := (hbel1.trans hbel2).trans hbel3
          clear hB2 d2 HJ
          go_wp2
          go_roundw
          case rel => exact ⟨k + 1, by omega, by go_num, HT.out, .inr hB3, hbel4⟩
          case measure => simp [intOf]; omega
        · have hd : decide ((0 : Int) < (k : Int)) = false := by simp; omega
          have HJ : Hid (Lib.byteCells (Tk.joinTo l k) ++ Lib.strCells ⟨(tokD l k).text.toArray⟩ = Lib.byteCells (Tk.joinTo l (k + 1))) := by
            show _ = _
            have e0 : k = 0 := by omega
            rw [e0, Tk.joinTo, Tk.joinTo, if_pos rfl]
            rfl
          go_wp2_with fail
          refine (writeString_any w.heap.size w.heap.size _ _ _ hbu1 (by show _ + (tokD l k).text.toArray.size ≤ _; simp [Lib.byteCells_length]; omega) hz1).mono ?_
          rintro e w3 ⟨rfl, hB3, hbel3, _⟩
          rw [HJ.out] at hB3
          have hbel4 := hbel1.trans hbel3
          clear hbu1 HJ x0 x1 x2 hblk
          go_wp2
          go_roundw
          case rel => exact ⟨k + 1, by omega, by go_num, HT.out, .inr hB3, hbel4⟩
          case measure => simp [intOf]; omega
    · have hkn : k = n := by omega
      have HL : Hid (k = l.length) := by show _ = _; rw [HN.out]; exact hkn
      clear hkn
      have HA2 : Hid (Tk.allTok l l.length = true) := by have := HA.out; rw [HL.out] at this; exact this
      clear hA
      by_cases h5 : 5000 < (Tk.joinTo l k).length
      · have HF : Hid (Tk.join l = ([], 2)) := by
          show _ = _
          unfold Tk.join
          rw [if_pos HA2.out, if_pos (by rw [← HL.out]; exact h5)]
        go_wp2_with (go_at_call 18; refine (Try.Builder_Len _ _ _ _ hbu).mono ?_; rintro e w' ⟨rfl, rfl⟩; rw [Lib.byteCells_length])
        go_ret2
        refine ⟨?_, hbel⟩
        rw [HF.out]
        rfl
      · have HF : Hid (Tk.join l = (Tk.joinTo l k, 0)) := by
          show _ = _
          unfold Tk.join
          rw [if_pos HA2.out, if_neg (by rw [← HL.out]; exact h5), HL.out]
        go_wp2_with (first | (go_at_call 18; refine (Try.Builder_Len _ _ _ _ hbu).mono ?_; rintro e w' ⟨rfl, rfl⟩; rw [Lib.byteCells_length]) | (go_at_call 19; refine (Try.Builder_String_any _ _ _ _ hbu (by omega)).mono ?_; rintro e w2 ⟨rfl, hbel2⟩))
        go_ret2
        refine ⟨?_, hbel.trans hbel2⟩
        rw [HF.out]
        rfl

end Go.Proofs.Ytcfmjoidaehfkaa
