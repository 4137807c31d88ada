/- Own texts, one behind the other (part 2). -/
import Derived.Test.YtjbfbbhaagkagaaDoorBundleA
import Derived.Test.YtjbfbbhaagkagaaDoorRows
import Derived.Test.YtjbfbbhaagkagaaDoorCards
import Derived.Test.YtjbfbbhaagkagaaDoorTie
import Derived.Lib.UnsafeStr
import Derived.Deep.QuietTactic
import Derived.BigQuiet
import Derived.RegionTactic
import Derived.BigRegion
import Derived.Lib.AtoiBound
/- Package token: Join answers the texts of tokens with a blank between, or why not. -/
namespace Go.Proofs.YtjbfbbhaagkagaaDoor
open Go.RowKit

namespace Tk
/-- The texts of the first k tokens, a blank between. -/
def joinTo (l : List Tok) : Nat → List UInt8
  | 0 => []
  | k + 1 => (if k = 0 then [] else joinTo l k ++ [32]) ++ (tokD l k).text
/-- Are the first k tokens each the only one of its text? -/
def allTok (l : List Tok) (k : Nat) : Bool := (l.take k).all fun t => isTok t.kind t.text
/-- What Join answers. -/
def join (l : List Tok) : List UInt8 × Int :=
  if allTok l l.length then (if 5000 < (joinTo l l.length).length then ([], 2) else (joinTo l l.length, 0)) else ([], 1)

theorem allTok_snoc (l : List Tok) (k : Nat) (h : k < l.length) : allTok l (k + 1) = (allTok l k && isTok (tokD l k).kind (tokD l k).text) := by
  unfold allTok
  rw [List.take_succ_eq_append_getElem h, List.all_append]
  have e : tokD l k = l[k] := by rw [tokD, List.getD_eq_getElem?_getD, List.getElem?_eq_getElem h]; rfl
  rw [e]
  simp
theorem allTok_no (l : List Tok) (k : Nat) (h : k < l.length) (hk : isTok (tokD l k).kind (tokD l k).text = false) : allTok l l.length = false := by
  have e : tokD l k = l[k] := by rw [tokD, List.getD_eq_getElem?_getD, List.getElem?_eq_getElem h]; rfl
  rw [e] at hk
  unfold allTok
  rw [List.take_length]
  rw [← Bool.not_eq_true] at hk ⊢
  intro ha
  exact hk (List.all_eq_true.1 ha _ (List.getElem_mem h))
theorem isTok_len (k : Int) (t : List UInt8) (h : isTok k t = true) : t.length ≤ 12 := by
  have h := of_decide_eq_true h
  obtain ⟨h1, h2, h3, h4, h5⟩ := h
  match t, h1 with
  | c :: r, _ =>
    rcases tok_cases c r with ⟨c1, cE⟩ | ⟨c1, cK, c3, cE⟩ | ⟨c1, cK, c3, cE⟩ | ⟨c1, cK, c3, cE⟩ | ⟨c1, cK, c3, c4, c5, cE⟩ | ⟨c1, cK, c3, cE⟩ | ⟨c1, cK, c3, c4, c5, cE⟩ | ⟨c1, cK, cE⟩
    · omega
    · omega
    · omega
    · omega
    · omega
    · omega
    · omega
    · have e2 := lenOf_cons c r
      have e1 := kindOf_cons c r
      rw [cK] at e1
      cases g1 : Tk.small c.toNat
      · cases g2 : Tk.great c.toNat
        · cases g3 : Tk.digit c.toNat
          · rw [g1, g2, g3] at e2
            simp only [Bool.or_self, Bool.false_eq_true, if_false] at e2
            have e3 : Tk.signLen (c :: r) ≤ 2 := by
              unfold Tk.signLen
              split
              · omega
              · dsimp only; split <;> omega
            omega
          · rw [g1, g2, g3] at e1; simp at e1
        · rw [g1, g2] at e1; simp at e1
      · rw [g1] at e1; simp at e1
theorem joinTo_len (l : List Tok) : ∀ k, k ≤ l.length → allTok l k = true → (joinTo l k).length ≤ 13 * k := by
  intro k
  induction k with
  | zero => intro _ _; exact Nat.le_refl 0
  | succ k ih =>
    intro hk ha
    rw [allTok_snoc l k (by omega), Bool.and_eq_true] at ha
    have h1 := ih (by omega) ha.1
    have h2 := isTok_len _ _ ha.2
    rw [joinTo]
    split
    · simp; omega
    · simp; omega
end Tk

theorem builder_below {N : Nat} {bs : List Value} {w w' : World} (h : Lib.IsBuilder 55 5 N N bs w) (hb : Below w.heap.size w w') : Lib.IsBuilder 55 5 N N bs w' := by
  have key : ∀ p, Lib.BuilderAt 55 5 N N p bs w → Lib.BuilderAt 55 5 N N p bs w' := fun p h => by
    have hlt := h.lt
    obtain ⟨h1, v, h2, h3, h4⟩ := h
    exact ⟨h1, v, by rw [hb.block N hlt]; exact h2, ownsRow_below h3 hb, h4⟩
  rcases h with h | h
  · exact .inl (key _ h)
  · exact .inr (key _ h)

theorem builder_lt {N : Nat} {bs : List Value} {w : World} (h : Lib.IsBuilder 55 5 N N bs w) : N < w.heap.size := by
  rcases h with h | h
  · exact h.lt
  · exact h.lt

/-- A block of a token stands where the builder writes. -/
theorem kept_tok {N T : Nat} {t : Tk.Tok} {w w' : World} (hk : Lib.OthersKept 5 (some N) w w') (hne : ¬ T = N) (h : w.heap[T]? = some (tokObjOf t)) : w'.heap[T]? = some (tokObjOf t) := by
  refine hk T _ h (fun e => hne (Option.some.inj e)) ?_
  intro c fz e
  injection e with _ e2 _
  exact absurd e2 (by decide)

set_option maxRecDepth 100000 in
set_option maxHeartbeats 2000000 in
theorem Join_some (l : List Tk.Tok) (w : World) (n b off cap : Nat) (hn : l.length = n) (hmax : n ≤ 4398046511104)
    (hA : ∀ i, i < n → TokIn w b (off + i * 3) (tokD l i)) :
    Calls Tryd.prog 9 #[.slice (some ⟨b, off, none⟩) n cap] w fun e w' => e = .returned (.tuple #[.string ⟨(Tk.join l).1.toArray⟩, .int .i64 (Tk.join l).2]) ∧ Below w.heap.size w w' := by
  have HN : Hid (l.length = n) := hn
  clear hn
  go_enter Tryd.func9, Tryd.ntmps9
  go_wp2_with fail
  go_loopw [9] (fun i wr => ∃ k : Nat, k ≤ n ∧ i = .int .i64 k ∧ Tk.allTok l k = true ∧ Lib.IsBuilder 55 5 w.heap.size w.heap.size (Lib.byteCells (Tk.joinTo l k)) wr ∧ Below w.heap.size w wr) (fun i _ => n - (intOf i).toNat)
  case atStart => exact ⟨0, Nat.zero_le _, rfl, rfl, Lib.fresh_isBuilder 55 5 w, (Below.refl _ _).alloc (Nat.le_refl _) _⟩
  case round =>
    obtain ⟨k, hk, rfl, hall, hbu, hbel⟩ := hrel
    have HA : Hid (Tk.allTok l k = true) := hall
    clear hall
    have hNw := builder_lt hbu
    have hlen := Tk.joinTo_len l k (by rw [HN.out]; exact hk) HA.out
    by_cases hlt : k < n
    · obtain ⟨a0, a1, a2⟩ := hA k hlt
      have hbw : b < w.heap.size := World.block_lt_of_cell? w _ a0
      have a0' : wr.cell? ⟨b, off + k * 3, none⟩ = some (.int .i64 (tokD l k).kind) := (hbel.cell (p := ⟨b, _, none⟩) hbw).trans a0
      have a1' : wr.cell? ⟨b, off + k * 3 + 1, none⟩ = some (.int .i64 (tokD l k).at_) := (hbel.cell (p := ⟨b, _, none⟩) hbw).trans a1
      have a2' : wr.cell? ⟨b, off + k * 3 + 2, none⟩ = some (.string ⟨(tokD l k).text.toArray⟩) := (hbel.cell (p := ⟨b, _, none⟩) hbw).trans a2
      clear a0 a1 a2 hA
      go_wp2_with fail
      refine (alone_any (tokD l k) _).mono ?_
      rintro e w1 ⟨he, hb1⟩
      rw [alone_eq] at he
      subst he
      have hb0 : Below wr.heap.size wr w1 := below_box hb1
      have hbel1 : Below w.heap.size w w1 := hbel.trans (hb0.mono (by omega))
      cases hT : Tk.isTok (tokD l k).kind (tokD l k).text
      · have HF : Hid (Tk.join l = ([], 1)) := by
          show _ = _
          unfold Tk.join
          rw [if_neg (by rw [Tk.allTok_no l k (by rw [HN.out]; exact hlt) hT]; simp)]
        clear hT hb1 a0' a1' a2'
        go_wp2_with fail
        go_ret2
        refine ⟨?_, hbel1⟩
        rw [HF.out]
        rfl
      · have HT : Hid (Tk.allTok l (k + 1) = true) := by
          show _ = _
          rw [Tk.allTok_snoc l k (by rw [HN.out]; exact hlt), HA.out, hT]
          rfl
        have h12 := Tk.isTok_len _ _ hT
        have hbu1 := builder_below hbu hb0
        have hblk : w1.heap[wr.heap.size]? = some (tokObjOf (tokD l k)) := by
          rw [hb1.block wr.heap.size (by simp)]
          exact heap_alloc_new wr _
        obtain ⟨x0, x1, x2⟩ := boxCell hb1
        have hz1 : w.heap.size ≤ w1.heap.size := hbel1.size
        clear hT hb1 a0' a1' a2' hbu hb0
        by_cases hk0 : 0 < k
        · have HJ : Hid (Lib.byteCells (Tk.joinTo l k) ++ [.int .u8 32] ++ Lib.strCells ⟨(tokD l k).text.toArray⟩ = Lib.byteCells (Tk.joinTo l (k + 1))) := by
            show _ = _
            rw [Tk.joinTo, if_neg (by omega), Lib.byteCells_append, Lib.byteCells_append]
            rfl
          go_wp2_with fail
          refine (writeByte_any w.heap.size w.heap.size _ 32 _ hbu1 (by rw [Lib.byteCells_length]; omega) hz1).mono ?_
          rintro e w2 ⟨rfl, hB2, hbel2, hk2⟩
          have hblk2 := kept_tok hk2 (by omega) hblk
          have d2 : w2.cell? ⟨wr.heap.size, 2, none⟩ = some (.string ⟨(tokD l k).text.toArray⟩) := by rw [Lib.cell_of_heap hblk2]; rfl
          have hz2 : w.heap.size ≤ w2.heap.size := by have := hbel2.size; omega
          clear hk2 hblk hblk2 hbu1 x0 x1 x2
          go_wp2_with fail
          refine (writeString_any w.heap.size w.heap.size _ _ _ (.inr hB2) (by show _ + (tokD l k).text.toArray.size ≤ _; simp [Lib.byteCells_length]; omega) hz2).mono ?_
          rintro e w3 ⟨rfl, hB3, hbel3, _⟩
          rw [HJ.out] at hB3
          have hbel4 := (hbel1.trans hbel2).trans hbel3
          clear hB2 d2 HJ
          go_wp2
          go_roundw
          case rel => exact ⟨k + 1, by omega, by go_num, HT.out, .inr hB3, hbel4⟩
          case measure => simp [intOf]; omega
        · have hd : decide ((0 : Int) < (k : Int)) = false := by simp; omega
          have HJ : Hid (Lib.byteCells (Tk.joinTo l k) ++ Lib.strCells ⟨(tokD l k).text.toArray⟩ = Lib.byteCells (Tk.joinTo l (k + 1))) := by
            show _ = _
            have e0 : k = 0 := by omega
            rw [e0, Tk.joinTo, Tk.joinTo, if_pos rfl]
            rfl
          go_wp2_with fail
          refine (writeString_any w.heap.size w.heap.size _ _ _ hbu1 (by show _ + (tokD l k).text.toArray.size ≤ _; simp [Lib.byteCells_length]; omega) hz1).mono ?_
          rintro e w3 ⟨rfl, hB3, hbel3, _⟩
          rw [HJ.out] at hB3
          have hbel4 := hbel1.trans hbel3
          clear hbu1 HJ x0 x1 x2 hblk
          go_wp2
          go_roundw
          case rel => exact ⟨k + 1, by omega, by go_num, HT.out, .inr hB3, hbel4⟩
          case measure => simp [intOf]; omega
    · have hkn : k = n := by omega
      have HL : Hid (k = l.length) := by show _ = _; rw [HN.out]; exact hkn
      clear hkn
      have HA2 : Hid (Tk.allTok l l.length = true) := by have := HA.out; rw [HL.out] at this; exact this
      clear hA
      by_cases h5 : 5000 < (Tk.joinTo l k).length
      · have HF : Hid (Tk.join l = ([], 2)) := by
          show _ = _
          unfold Tk.join
          rw [if_pos HA2.out, if_pos (by rw [← HL.out]; exact h5)]
        go_wp2_with (go_at_call 18; refine (Tryd.Builder_Len _ _ _ _ hbu).mono ?_; rintro e w' ⟨rfl, rfl⟩; rw [Lib.byteCells_length])
        go_ret2
        refine ⟨?_, hbel⟩
        rw [HF.out]
        rfl
      · have HF : Hid (Tk.join l = (Tk.joinTo l k, 0)) := by
          show _ = _
          unfold Tk.join
          rw [if_pos HA2.out, if_neg (by rw [← HL.out]; exact h5), HL.out]
        go_wp2_with (first | (go_at_call 18; refine (Tryd.Builder_Len _ _ _ _ hbu).mono ?_; rintro e w' ⟨rfl, rfl⟩; rw [Lib.byteCells_length]) | (go_at_call 19; refine (Tryd.Builder_String_any _ _ _ _ hbu (by omega)).mono ?_; rintro e w2 ⟨rfl, hbel2⟩))
        go_ret2
        refine ⟨?_, hbel.trans hbel2⟩
        rw [HF.out]
        rfl

end Go.Proofs.YtjbfbbhaagkagaaDoor

/- What is joined is scanned as it was, and what is scanned is joined: plain lists of bytes. -/
namespace Go.Proofs.YtjbfbbhaagkagaaDoor
open Go.RowKit

theorem pre_take (p : Int → Bool) (l : List UInt8) : Tk.pre p (l.take (Tk.pre p l)) = Tk.pre p l := by
  induction l with
  | nil => rfl
  | cons c r ih =>
    by_cases h : p c.toNat = true
    · rw [Tk.pre, if_pos h, List.take_succ_cons, Tk.pre, if_pos h, ih]
    · rw [Tk.pre, if_neg h]; rfl

/-- All of it is such, and what follows is not. -/
theorem pre_append (p : Int → Bool) : ∀ (t r : List UInt8), Tk.pre p t = t.length → (∀ c s, r = c :: s → p c.toNat = false) → Tk.pre p (t ++ r) = t.length := by
  intro t
  induction t with
  | nil =>
    intro r _ hr
    cases r with
    | nil => rfl
    | cons c s => rw [List.nil_append, Tk.pre, if_neg (by simp [hr c s rfl])]; rfl
  | cons c t ih =>
    intro r ht hr
    by_cases h : p c.toNat = true
    · rw [Tk.pre, if_pos h] at ht
      rw [List.cons_append, Tk.pre, if_pos h, ih r (by simpa using ht) hr]
      rfl
    · rw [Tk.pre, if_neg h] at ht
      exact absurd ht (by simp)

theorem sign_cases (c : UInt8) (r : List UInt8) : (Tk.signLen (c :: r) = 2 ∧ ∃ d s, r = d :: s ∧ ((c = 58 ∧ d = 45) ∨ (c = 60 ∧ d = 61) ∨ (c = 33 ∧ d = 61))) ∨
    (¬ (∃ d s, r = d :: s ∧ ((c = 58 ∧ d = 45) ∨ (c = 60 ∧ d = 61) ∨ (c = 33 ∧ d = 61))) ∧ Tk.signLen (c :: r) = if Tk.isSign c then 1 else 0) := by
  have key : ∀ a b : UInt8, [a, b].isPrefixOf (c :: r) = true ↔ ∃ d s, r = d :: s ∧ c = a ∧ d = b := by
    intro a b
    cases r with
    | nil => simp [List.isPrefixOf]
    | cons d s =>
      simp only [List.isPrefixOf, Bool.and_true, Bool.and_eq_true, beq_iff_eq]
      constructor
      · rintro ⟨rfl, rfl⟩; exact ⟨_, _, rfl, rfl, rfl⟩
      · rintro ⟨d', s', e, rfl, rfl⟩
        injection e with e1 _
        exact ⟨rfl, e1.symm⟩
  by_cases h : ([58, 45].isPrefixOf (c :: r) || [60, 61].isPrefixOf (c :: r) || [33, 61].isPrefixOf (c :: r)) = true
  · left
    refine ⟨by rw [Tk.signLen, if_pos h], ?_⟩
    simp only [Bool.or_eq_true] at h
    rcases h with (h | h) | h
    · obtain ⟨d, s, e, h1, h2⟩ := (key _ _).1 h; exact ⟨d, s, e, .inl ⟨h1, h2⟩⟩
    · obtain ⟨d, s, e, h1, h2⟩ := (key _ _).1 h; exact ⟨d, s, e, .inr (.inl ⟨h1, h2⟩)⟩
    · obtain ⟨d, s, e, h1, h2⟩ := (key _ _).1 h; exact ⟨d, s, e, .inr (.inr ⟨h1, h2⟩)⟩
  · right
    refine ⟨?_, by rw [Tk.signLen, if_neg h]⟩
    rintro ⟨d, s, e, h1 | h1 | h1⟩
    · exact h (by rw [(key 58 45).2 ⟨d, s, e, h1⟩]; rfl)
    · exact h (by rw [(key 60 61).2 ⟨d, s, e, h1⟩]; simp)
    · exact h (by rw [(key 33 61).2 ⟨d, s, e, h1⟩]; simp)

/-- A token stands alone as it stood in the text. -/
theorem tok_take (c : UInt8) (r : List UInt8) (he : Tk.errOf (c :: r) = 0) : Tk.isTok (Tk.kindOf (c :: r)) ((c :: r).take (Tk.lenOf (c :: r))) = true := by
  have hpos := Tk.lenOf_pos (c :: r) (by simp) he
  have hle := Tk.lenOf_le (c :: r)
  obtain ⟨n, hn⟩ : ∃ n, Tk.lenOf (c :: r) = n + 1 := ⟨Tk.lenOf (c :: r) - 1, by omega⟩
  have ht : (c :: r).take (Tk.lenOf (c :: r)) = c :: r.take n := by rw [hn, List.take_succ_cons]
  have hlt : (c :: r.take n).length = Tk.lenOf (c :: r) := by rw [← ht, List.length_take]; omega
  have hlen : Tk.lenOf (c :: r.take n) = Tk.lenOf (c :: r) := by
    rw [lenOf_cons, lenOf_cons] at *
    by_cases h1 : (Tk.small c.toNat || Tk.great c.toNat) = true
    · rw [if_pos h1] at *
      rw [if_pos h1]
      have := pre_take Tk.alnum (c :: r)
      rw [hn, List.take_succ_cons] at this
      rw [this, hn]
    · rw [if_neg h1] at *
      rw [if_neg h1]
      by_cases h2 : Tk.digit c.toNat = true
      · rw [if_pos h2] at *
        rw [if_pos h2]
        have := pre_take Tk.digit (c :: r)
        rw [hn, List.take_succ_cons] at this
        rw [this, hn]
      · rw [if_neg h2] at *
        rw [if_neg h2]
        rcases sign_cases c r with ⟨g1, d, s, rfl, g2⟩ | ⟨g1, g2⟩
        · rw [g1] at hn
          have hn1 : n = 1 := by omega
          subst hn1
          rcases sign_cases c ((d :: s).take 1) with ⟨k1, _⟩ | ⟨k1, _⟩
          · rw [k1, g1]
          · exact absurd ⟨d, [], rfl, g2⟩ k1
        · have hs : Tk.isSign c = true := by
            by_cases hs : Tk.isSign c = true
            · exact hs
            · rw [if_neg hs] at g2; omega
          rw [if_pos hs] at g2
          rw [g2] at hn
          have hn0 : n = 0 := by omega
          subst hn0
          rcases sign_cases c (r.take 0) with ⟨_, d, s, e, _⟩ | ⟨_, k2⟩
          · exact absurd e (by simp)
          · rw [k2, if_pos hs, g2]
  have herr : Tk.errOf (c :: r.take n) = 0 := by
    rw [lenOf_cons, lenOf_cons] at hlen
    rw [errOf_cons] at he ⊢
    by_cases h1 : (Tk.small c.toNat || Tk.great c.toNat) = true
    · rw [if_pos h1] at he ⊢
      rw [if_pos h1, if_pos h1] at hlen
      rw [hlen]; exact he
    · rw [if_neg h1] at he ⊢
      rw [if_neg h1, if_neg h1] at hlen
      by_cases h2 : Tk.digit c.toNat = true
      · rw [if_pos h2] at he ⊢
        rw [if_pos h2, if_pos h2] at hlen
        rw [hlen]; exact he
      · rw [if_neg h2] at he ⊢
        rw [if_neg h2, if_neg h2] at hlen
        rw [hlen]; exact he
  rw [ht]
  refine decide_eq_true ⟨by simp, ?_, herr, ?_, by rw [hlen, hlt]⟩
  · rw [hlt]
    rcases tok_cases c r with ⟨c1, cE⟩ | ⟨c1, cK, c3, cE⟩ | ⟨c1, cK, c3, cE⟩ | ⟨c1, cK, c3, cE⟩ | ⟨c1, cK, c3, c4, c5, cE⟩ | ⟨c1, cK, c3, cE⟩ | ⟨c1, cK, c3, c4, c5, cE⟩ | ⟨c1, cK, cE⟩
    · omega
    · omega
    · omega
    · omega
    · omega
    · omega
    · omega
    · have e2 := lenOf_cons c r
      have e1 := kindOf_cons c r
      rw [cK] at e1
      cases g1 : Tk.small c.toNat
      · cases g2 : Tk.great c.toNat
        · cases g3 : Tk.digit c.toNat
          · rw [g1, g2, g3] at e2
            simp only [Bool.or_self, Bool.false_eq_true, if_false] at e2
            rcases sign_cases c r with ⟨k1, _⟩ | ⟨_, k1⟩
            · omega
            · rw [k1] at e2; split at e2 <;> omega
          · rw [g1, g2, g3] at e1; simp at e1
        · rw [g1, g2] at e1; simp at e1
      · rw [g1] at e1; simp at e1
  · rw [kindOf_cons, kindOf_cons]

/-- What is scanned is a list of such tokens. -/
theorem scanP_toks (L : List UInt8) : ∀ (f p : Nat) (acc : List Tk.Tok), (Tk.scanP L f p acc).2.2 = 0 → ∃ r, (Tk.scanP L f p acc).1 = acc ++ r ∧ (r.all fun t => Tk.isTok t.kind t.text) = true := by
  intro f
  induction f with
  | zero => intro p acc _; exact ⟨[], by simp [Tk.scanP], rfl⟩
  | succ f ih =>
    intro p acc h
    rw [Tk.scanP] at h ⊢
    split
    · exact ⟨[], by simp, rfl⟩
    · rename_i h1
      rw [if_neg h1] at h
      split
      · rename_i h2
        rw [if_pos h2] at h
        obtain ⟨r, hr, ha⟩ := ih _ _ h
        refine ⟨Tk.tokAt L p :: r, by rw [hr]; simp, ?_⟩
        rw [List.all_cons, ha, Bool.and_true]
        have hd := Tk.drop_cons L p (by omega)
        rw [hd] at h2
        show Tk.isTok (Tk.kindOf (L.drop p)) ((L.drop p).take (Tk.lenOf (L.drop p))) = true
        rw [hd]
        exact tok_take _ _ h2
      · rename_i h2
        rw [if_neg h2] at h
        exact absurd h h2
theorem scan_toks (L : List UInt8) (h : (Tk.scan L).2.2 = 0) : Tk.allTok (Tk.scan L).1 (Tk.scan L).1.length = true := by
  unfold Tk.allTok
  rw [List.take_length]
  unfold Tk.scan at h ⊢
  split
  · rfl
  · rename_i h1
    rw [if_neg h1] at h
    obtain ⟨r, hr, ha⟩ := scanP_toks L _ _ _ h
    rw [hr, List.nil_append]
    exact ha

/-- A token with nothing, or a blank, behind it. -/
theorem tok_blank (t r : List UInt8) (k : Int) (h : Tk.isTok k t = true) (hr : ∀ c s, r = c :: s → c = 32) :
    Tk.errOf (t ++ r) = 0 ∧ Tk.kindOf (t ++ r) = k ∧ Tk.lenOf (t ++ r) = t.length ∧ Tk.sep false (t ++ r) = 0 := by
  have h := of_decide_eq_true h
  obtain ⟨h1, h2, h3, h4, h5⟩ := h
  match t, h1 with
  | c :: q, _ =>
    have hp : ∀ p : Int → Bool, p 32 = false → ∀ c s, r = c :: s → p c.toNat = false := fun p hp c s e => by rw [hr c s e]; exact hp
    have hk : Tk.kindOf (c :: (q ++ r)) = k := by rw [kindOf_cons]; rw [kindOf_cons] at h4; exact h4
    have hlen : Tk.lenOf (c :: (q ++ r)) = (c :: q).length := by
      rw [lenOf_cons] at h5 ⊢
      by_cases g1 : (Tk.small c.toNat || Tk.great c.toNat) = true
      · rw [if_pos g1] at h5 ⊢
        exact pre_append Tk.alnum (c :: q) r h5 (hp _ rfl)
      · rw [if_neg g1] at h5 ⊢
        by_cases g2 : Tk.digit c.toNat = true
        · rw [if_pos g2] at h5 ⊢
          exact pre_append Tk.digit (c :: q) r h5 (hp _ rfl)
        · rw [if_neg g2] at h5 ⊢
          rcases sign_cases c q with ⟨k1, d, s, rfl, k2⟩ | ⟨k1, k2⟩
          · rcases sign_cases c (d :: s ++ r) with ⟨m1, _⟩ | ⟨m1, _⟩
            · rw [m1, ← h5, k1]
            · exact absurd ⟨d, s ++ r, rfl, k2⟩ m1
          · have hl : 1 ≤ (c :: q).length := by simp
            have hs : Tk.isSign c = true := by
              by_cases hs : Tk.isSign c = true
              · exact hs
              · rw [if_neg hs] at k2; omega
            rw [if_pos hs] at k2
            rw [k2] at h5
            have hq : q = [] := List.eq_nil_of_length_eq_zero (by simpa using h5.symm)
            subst hq
            rcases sign_cases c ([] ++ r) with ⟨_, d, s, e, m2⟩ | ⟨_, m2⟩
            · have hd : d = 32 := hr d s (by simpa using e)
              subst hd
              rcases m2 with ⟨_, m⟩ | ⟨_, m⟩ | ⟨_, m⟩
              · exact absurd m (by decide)
              · exact absurd m (by decide)
              · exact absurd m (by decide)
            · rw [m2, if_pos hs]; rfl
    have herr : Tk.errOf (c :: (q ++ r)) = 0 := by
      rw [lenOf_cons] at hlen
      rw [lenOf_cons] at h5
      rw [errOf_cons] at h3 ⊢
      by_cases g1 : (Tk.small c.toNat || Tk.great c.toNat) = true
      · rw [if_pos g1] at h3 ⊢
        rw [if_pos g1] at hlen h5
        rw [hlen, ← h5]; exact h3
      · rw [if_neg g1] at h3 ⊢
        rw [if_neg g1] at hlen h5
        by_cases g2 : Tk.digit c.toNat = true
        · rw [if_pos g2] at h3 ⊢
          rw [if_pos g2] at hlen h5
          rw [hlen, ← h5]; exact h3
        · rw [if_neg g2] at h3 ⊢
          rw [if_neg g2] at hlen h5
          rw [hlen, ← h5]; exact h3
    exact ⟨herr, hk, hlen, sep_zero _ _ herr⟩

/-- The texts of tokens, a blank between, from the front. -/
def jn : List Tk.Tok → List UInt8
  | [] => []
  | t :: r => t.text ++ (match r with | [] => [] | _ :: _ => 32 :: jn r)

theorem jn_one (t : Tk.Tok) : jn [t] = t.text := by simp [jn]
theorem jn_more (t u : Tk.Tok) (r : List Tk.Tok) : jn (t :: u :: r) = t.text ++ 32 :: jn (u :: r) := by rw [jn]

theorem jn_snoc : ∀ (l : List Tk.Tok) (t : Tk.Tok), jn (l ++ [t]) = (if l = [] then [] else jn l ++ [32]) ++ t.text := by
  intro l
  induction l with
  | nil => intro t; simp [jn]
  | cons x l ih =>
    intro t
    cases l with
    | nil => simp [jn]
    | cons y l =>
      have := ih t
      rw [if_neg (by simp)] at this ⊢
      rw [List.cons_append, List.cons_append, jn_more, ← List.cons_append, this, jn_more]
      simp

theorem joinTo_jn (l : List Tk.Tok) : ∀ k, k ≤ l.length → Tk.joinTo l k = jn (l.take k) := by
  intro k
  induction k with
  | zero => intro _; rfl
  | succ k ih =>
    intro hk
    have e : tokD l k = l[k]'(by omega) := by rw [tokD, List.getD_eq_getElem?_getD, List.getElem?_eq_getElem (by omega)]; rfl
    rw [List.take_succ_eq_append_getElem (by omega), jn_snoc, Tk.joinTo, ih (by omega), e]
    by_cases h0 : k = 0
    · subst h0; simp
    · rw [if_neg h0, if_neg]
      intro hn
      have := congrArg List.length hn
      rw [List.length_take, List.length_nil] at this
      omega

/-- What is joined is scanned as it was. -/
theorem scan_jn (L : List UInt8) : ∀ (l : List Tk.Tok), (l.all fun t => Tk.isTok t.kind t.text) = true → ∀ (f p : Nat) (acc : List Tk.Tok), L.drop p = jn l → L.length ≤ p + f → ∃ m, Tk.scanP L f p acc = (acc ++ m, 0, 0) ∧ Tk.same false l m = true := by
  intro l
  induction l with
  | nil =>
    intro _ f p acc hd _
    have hl : L.length ≤ p := by
      have := congrArg List.length hd
      rw [List.length_drop] at this
      simp [jn] at this
      omega
    exact ⟨[], by rw [Tk.scanP_end _ _ _ _ hl, List.append_nil], rfl⟩
  | cons t l ih =>
    intro ha f p acc hd hf
    rw [List.all_cons, Bool.and_eq_true] at ha
    obtain ⟨r, hr, hr32, hnext⟩ : ∃ r, jn (t :: l) = t.text ++ r ∧ (∀ c s, r = c :: s → c = 32) ∧ (l = [] ∧ r = [] ∨ r = 32 :: jn l ∧ l ≠ []) := by
      cases l with
      | nil => exact ⟨[], by simp [jn], fun c s e => (by cases e), .inl ⟨rfl, rfl⟩⟩
      | cons u l => exact ⟨32 :: jn (u :: l), jn_more t u l, fun c s e => (by injection e with e1 _; exact e1.symm), .inr ⟨rfl, by simp⟩⟩
    obtain ⟨b1, b2, b3, b4⟩ := tok_blank t.text r t.kind ha.1 hr32
    rw [hr] at hd
    have hpos : 1 ≤ t.text.length := by
      have := of_decide_eq_true ha.1
      rcases hh : t.text with _ | ⟨c, q⟩
      · exact absurd hh this.1
      · simp
    have hlen : L.length = p + t.text.length + r.length := by
      have := congrArg List.length hd
      rw [List.length_drop, List.length_append] at this
      omega
    obtain ⟨f, rfl⟩ : ∃ f', f = f' + 1 := ⟨f - 1, by omega⟩
    have hlt : p < L.length := by omega
    rw [← hd] at b1 b2 b3
    rw [Tk.scanP_yes L f p acc hlt b1, b3]
    have hdr : L.drop (p + t.text.length) = r := by
      rw [← List.drop_drop, hd, List.drop_left]
    have htok : Tk.tokAt L p = ⟨t.kind, p, t.text⟩ := by
      unfold Tk.tokAt
      rw [b2, b3, hd, List.take_left]
    rw [hdr, htok]
    have hone : Tk.sameOne false t ⟨t.kind, p, t.text⟩ = true := by simp [Tk.sameOne]
    rcases hnext with ⟨rfl, rfl⟩ | ⟨rfl, hne⟩
    · have hs0 : Tk.sep false [] = 0 := rfl
      rw [hs0, Tk.scanP_end _ _ _ _ (by rw [hlen]; simp)]
      exact ⟨[⟨t.kind, p, t.text⟩], rfl, by rw [Tk.same, hone]; rfl⟩
    · have hsep : Tk.sep false (32 :: jn l) = 1 := by
        rw [Tk.sep, if_neg (by decide), if_pos (by decide)]
        have : Tk.sep false (jn l) = 0 := by
          cases l with
          | nil => exact absurd rfl hne
          | cons u l =>
            rw [List.all_cons, Bool.and_eq_true] at ha
            obtain ⟨r', hr', hr32'⟩ : ∃ r, jn (u :: l) = u.text ++ r ∧ (∀ c s, r = c :: s → c = 32) := by
              cases l with
              | nil => exact ⟨[], by simp [jn], fun c s e => by cases e⟩
              | cons v l => exact ⟨32 :: jn (v :: l), jn_more u v l, fun c s e => by injection e with e1 _; exact e1.symm⟩
            rw [hr']
            exact (tok_blank u.text r' u.kind ha.2.1 hr32').2.2.2
        rw [this]
      rw [hsep]
      have hdr2 : L.drop (p + t.text.length + 1) = jn l := by
        rw [← List.drop_drop, hdr]; rfl
      obtain ⟨m, hm, hsame⟩ := ih ha.2 f (p + t.text.length + 1) (acc ++ [⟨t.kind, p, t.text⟩]) hdr2 (by omega)
      refine ⟨⟨t.kind, p, t.text⟩ :: m, by rw [hm]; simp, ?_⟩
      rw [Tk.same, hone, hsame]
      rfl

/-- Join, then Scan. -/
theorem join_scan (l : List Tk.Tok) (h : (Tk.join l).2 = 0) : (Tk.scan (Tk.join l).1).2.2 = 0 ∧ Tk.same false l (Tk.scan (Tk.join l).1).1 = true := by
  unfold Tk.join at h ⊢
  by_cases h1 : Tk.allTok l l.length = true
  · rw [if_pos h1] at h ⊢
    by_cases h2 : 5000 < (Tk.joinTo l l.length).length
    · rw [if_pos h2] at h; exact absurd h (by decide)
    · rw [if_neg h2]
      show (Tk.scan (Tk.joinTo l l.length)).2.2 = 0 ∧ Tk.same false l (Tk.scan (Tk.joinTo l l.length)).1 = true
      have hall : (l.all fun t => Tk.isTok t.kind t.text) = true := by
        unfold Tk.allTok at h1; rw [List.take_length] at h1; exact h1
      have hj : Tk.joinTo l l.length = jn l := by rw [joinTo_jn l l.length (Nat.le_refl _), List.take_length]
      rw [hj] at h2 ⊢
      have hsep : Tk.sep false (jn l) = 0 := by
        cases l with
        | nil => rfl
        | cons u l =>
          rw [List.all_cons, Bool.and_eq_true] at hall
          obtain ⟨r', hr', hr32'⟩ : ∃ r, jn (u :: l) = u.text ++ r ∧ (∀ c s, r = c :: s → c = 32) := by
            cases l with
            | nil => exact ⟨[], by simp [jn], fun c s e => by cases e⟩
            | cons v l => exact ⟨32 :: jn (v :: l), jn_more u v l, fun c s e => by injection e with e1 _; exact e1.symm⟩
          rw [hr']
          exact (tok_blank u.text r' u.kind hall.1 hr32').2.2.2
      obtain ⟨m, hm, hs⟩ := scan_jn (jn l) l hall (jn l).length 0 [] rfl (by omega)
      have hsc : Tk.scan (jn l) = (m, 0, 0) := by
        unfold Tk.scan
        rw [if_neg h2, hsep, hm]
        rfl
      rw [hsc]
      exact ⟨rfl, hs⟩
  · rw [if_neg h1] at h; exact absurd h (by decide)

/-- What is scanned is joined, if it is not too long. -/
theorem scan_join (L : List UInt8) (h : (Tk.scan L).2.2 = 0) (h2 : ¬ (Tk.join (Tk.scan L).1).2 = 0) : (Tk.join (Tk.scan L).1).2 = 2 := by
  have ha := scan_toks L h
  unfold Tk.join at h2 ⊢
  rw [if_pos ha] at h2 ⊢
  by_cases h3 : 5000 < (Tk.joinTo (Tk.scan L).1 (Tk.scan L).1.length).length
  · rw [if_pos h3]
  · rw [if_neg h3] at h2; exact absurd rfl h2

end Go.Proofs.YtjbfbbhaagkagaaDoor

/- The document's scan of any text; lists of tokens that are kept. -/
namespace Go.Proofs.YtjbfbbhaagkagaaDoor
open Go.RowKit

theorem toksAt_below {w w' : World} {ao : Option Addr} {l : List Tk.Tok} (h : ToksAt w ao l) (hb : Below w.heap.size w w') : ToksAt w' ao l := by
  rcases h with h | ⟨b, off, rfl, hc⟩
  · exact .inl h
  · refine .inr ⟨b, off, rfl, fun i hi => ?_⟩
    obtain ⟨a0, a1, a2⟩ := hc i hi
    have hbw : b < w.heap.size := World.block_lt_of_cell? w _ a0
    exact ⟨(hb.cell (p := ⟨b, _, none⟩) hbw).trans a0, (hb.cell (p := ⟨b, _, none⟩) hbw).trans a1, (hb.cell (p := ⟨b, _, none⟩) hbw).trans a2⟩

/-- No more tokens than bytes. -/
theorem scanP_many (L : List UInt8) : ∀ (f p : Nat) (acc : List Tk.Tok), acc.length ≤ p → p ≤ L.length → (Tk.scanP L f p acc).1.length ≤ L.length := by
  intro f
  induction f with
  | zero => intro p acc h1 h2; rw [Tk.scanP]; exact Nat.le_trans h1 h2
  | succ f ih =>
    intro p acc h1 h2
    rw [Tk.scanP]
    split
    · exact Nat.le_trans h1 h2
    · split
      · rename_i h3 h4
        have g1 := Tk.lenOf_le (L.drop p)
        have g2 := Tk.lenOf_pos (L.drop p) (by intro e; have := congrArg List.length e; simp at this; omega) h4
        rw [List.length_drop] at g1
        have g3 := Tk.sep_le false (L.drop (p + Tk.lenOf (L.drop p)))
        rw [List.length_drop] at g3
        refine ih _ _ ?_ ?_
        · rw [List.length_append]; simp; omega
        · omega
      · simp
theorem scan_many (L : List UInt8) : (Tk.scan L).1.length ≤ 5000 := by
  unfold Tk.scan
  split
  · simp
  · have := scanP_many L L.length (Tk.sep false L) [] (Nat.zero_le _) (Tk.sep_le false L)
    omega

end Go.Proofs.YtjbfbbhaagkagaaDoor

/- Trees in memory: what is read behind a slice. -/
namespace Go.Proofs.YtjbfbbhaagkagaaDoor
open Go.RowKit

def TermIn (w : World) (b off : Nat) (t : Tr.Term) : Prop :=
  w.cell? ⟨b, off, none⟩ = some (.string ⟨t.var.toArray⟩) ∧ w.cell? ⟨b, off + 1, none⟩ = some (.int .i64 t.n)
def TermsAt (w : World) (ao : Option Addr) (l : List Tr.Term) : Prop :=
  l = [] ∨ ∃ b off, ao = some ⟨b, off, none⟩ ∧ ∀ i, i < l.length → TermIn w b (off + i * 2) (Tr.termD l i)
/-- A slice value with terms behind it. -/
def TermsV (w : World) (v : Value) (l : List Tr.Term) : Prop := ∃ ao cap, v = .slice ao l.length cap ∧ TermsAt w ao l
def LitIn (w : World) (b off : Nat) (x : Tr.Lit) : Prop :=
  w.cell? ⟨b, off, none⟩ = some (.int .i64 x.kind) ∧ w.cell? ⟨b, off + 1, none⟩ = some (.int .i64 x.at_) ∧ w.cell? ⟨b, off + 2, none⟩ = some (.int .i64 x.op) ∧ w.cell? ⟨b, off + 3, none⟩ = some (.string ⟨x.name.toArray⟩) ∧
    ∃ v, w.cell? ⟨b, off + 4, none⟩ = some v ∧ TermsV w v x.terms
def LitsAt (w : World) (ao : Option Addr) (l : List Tr.Lit) : Prop :=
  l = [] ∨ ∃ b off, ao = some ⟨b, off, none⟩ ∧ ∀ i, i < l.length → LitIn w b (off + i * 5) (Tr.litD l i)
def LitsV (w : World) (v : Value) (l : List Tr.Lit) : Prop := ∃ ao cap, v = .slice ao l.length cap ∧ LitsAt w ao l
def RuleIn (w : World) (b off : Nat) (r : Tr.Rule) : Prop :=
  w.cell? ⟨b, off, none⟩ = some (.int .i64 r.at_) ∧ w.cell? ⟨b, off + 1, none⟩ = some (.string ⟨r.name.toArray⟩) ∧ (∃ v, w.cell? ⟨b, off + 2, none⟩ = some v ∧ TermsV w v r.terms) ∧ w.cell? ⟨b, off + 3, none⟩ = some (.int .i64 r.fold) ∧
    ∃ v, w.cell? ⟨b, off + 4, none⟩ = some v ∧ LitsV w v r.body
def RulesAt (w : World) (ao : Option Addr) (l : List Tr.Rule) : Prop :=
  l = [] ∨ ∃ b off, ao = some ⟨b, off, none⟩ ∧ ∀ i, i < l.length → RuleIn w b (off + i * 5) (Tr.ruleD l i)
def RulesV (w : World) (v : Value) (l : List Tr.Rule) : Prop := ∃ ao cap, v = .slice ao l.length cap ∧ RulesAt w ao l

theorem cell_below {w w' : World} (hb : Below w.heap.size w w') {b o : Nat} {v : Value} (h : w.cell? ⟨b, o, none⟩ = some v) : w'.cell? ⟨b, o, none⟩ = some v :=
  (hb.cell (p := ⟨b, o, none⟩) (World.block_lt_of_cell? w _ h)).trans h

theorem termsAt_below {w w' : World} {ao : Option Addr} {l : List Tr.Term} (h : TermsAt w ao l) (hb : Below w.heap.size w w') : TermsAt w' ao l := by
  rcases h with h | ⟨b, off, rfl, hc⟩
  · exact .inl h
  · exact .inr ⟨b, off, rfl, fun i hi => ⟨cell_below hb (hc i hi).1, cell_below hb (hc i hi).2⟩⟩
theorem termsV_below {w w' : World} {v : Value} {l : List Tr.Term} (h : TermsV w v l) (hb : Below w.heap.size w w') : TermsV w' v l := by
  obtain ⟨ao, cap, rfl, h⟩ := h
  exact ⟨ao, cap, rfl, termsAt_below h hb⟩
theorem litIn_below {w w' : World} {b off : Nat} {x : Tr.Lit} (h : LitIn w b off x) (hb : Below w.heap.size w w') : LitIn w' b off x := by
  obtain ⟨h0, h1, h2, h3, v, h4, h5⟩ := h
  exact ⟨cell_below hb h0, cell_below hb h1, cell_below hb h2, cell_below hb h3, v, cell_below hb h4, termsV_below h5 hb⟩
theorem litsAt_below {w w' : World} {ao : Option Addr} {l : List Tr.Lit} (h : LitsAt w ao l) (hb : Below w.heap.size w w') : LitsAt w' ao l := by
  rcases h with h | ⟨b, off, rfl, hc⟩
  · exact .inl h
  · exact .inr ⟨b, off, rfl, fun i hi => litIn_below (hc i hi) hb⟩
theorem litsV_below {w w' : World} {v : Value} {l : List Tr.Lit} (h : LitsV w v l) (hb : Below w.heap.size w w') : LitsV w' v l := by
  obtain ⟨ao, cap, rfl, h⟩ := h
  exact ⟨ao, cap, rfl, litsAt_below h hb⟩
theorem ruleIn_below {w w' : World} {b off : Nat} {x : Tr.Rule} (h : RuleIn w b off x) (hb : Below w.heap.size w w') : RuleIn w' b off x := by
  obtain ⟨h0, h1, ⟨v, h2, h3⟩, h4, u, h5, h6⟩ := h
  exact ⟨cell_below hb h0, cell_below hb h1, ⟨v, cell_below hb h2, termsV_below h3 hb⟩, cell_below hb h4, u, cell_below hb h5, litsV_below h6 hb⟩
theorem rulesAt_below {w w' : World} {ao : Option Addr} {l : List Tr.Rule} (h : RulesAt w ao l) (hb : Below w.heap.size w w') : RulesAt w' ao l := by
  rcases h with h | ⟨b, off, rfl, hc⟩
  · exact .inl h
  · exact .inr ⟨b, off, rfl, fun i hi => ruleIn_below (hc i hi) hb⟩
theorem rulesV_below {w w' : World} {v : Value} {l : List Tr.Rule} (h : RulesV w v l) (hb : Below w.heap.size w w') : RulesV w' v l := by
  obtain ⟨ao, cap, rfl, h⟩ := h
  exact ⟨ao, cap, rfl, rulesAt_below h hb⟩

/-- The values of a struct that is handed on. -/
abbrev termVal (t : Tr.Term) : Value := .agg #[.string ⟨t.var.toArray⟩, .int .i64 t.n]
abbrev litVal (x : Tr.Lit) (v : Value) : Value := .agg #[.int .i64 x.kind, .int .i64 x.at_, .int .i64 x.op, .string ⟨x.name.toArray⟩, v]
abbrev ruleVal (r : Tr.Rule) (v u : Value) : Value := .agg #[.int .i64 r.at_, .string ⟨r.name.toArray⟩, v, .int .i64 r.fold, u]

end Go.Proofs.YtjbfbbhaagkagaaDoor

/- The document's comparison of two lists of terms. -/
namespace Go.Proofs.YtjbfbbhaagkagaaDoor
open Go.RowKit

namespace Tr
/-- Two lists, thing by thing. -/
def listEq {α : Type} (f : α → α → Bool) : List α → List α → Bool
  | [], [] => true
  | a :: l, b :: m => f a b && listEq f l m
  | _, _ => false
theorem listEq_len {α : Type} (f : α → α → Bool) : ∀ (l m : List α), ¬ l.length = m.length → listEq f l m = false := by
  intro l
  induction l with
  | nil =>
    intro m h
    cases m with
    | nil => exact absurd rfl h
    | cons y b => rfl
  | cons x a ih =>
    intro m h
    cases m with
    | nil => rfl
    | cons y b => rw [listEq, ih b (by simpa using h), Bool.and_false]
theorem listEq_drop {α : Type} (f : α → α → Bool) (d : α) (l m : List α) (i : Nat) (h : i < l.length) (h2 : i < m.length) :
    listEq f (l.drop i) (m.drop i) = (f (l.getD i d) (m.getD i d) && listEq f (l.drop (i + 1)) (m.drop (i + 1))) := by
  rw [List.drop_eq_getElem_cons h, List.drop_eq_getElem_cons h2, listEq]
  simp [List.getD_eq_getElem?_getD, List.getElem?_eq_getElem h, List.getElem?_eq_getElem h2]
def termEq (a b : Term) : Bool := (a.var == b.var) && (a.n == b.n)
def termsEq (l m : List Term) : Bool := listEq termEq l m
end Tr

set_option maxRecDepth 100000 in
set_option maxHeartbeats 1000000 in
theorem sameTerms_loop (la lb : List Tr.Term) (w : World) (n ca cb ba oa bb ob : Nat) (hna : la.length = n) (hnb : lb.length = n) (hmax : n ≤ 140737488355328)
    (hA : ∀ i, i < n → TermIn w ba (oa + i * 2) (Tr.termD la i)) (hB : ∀ i, i < n → TermIn w bb (ob + i * 2) (Tr.termD lb i)) :
    Calls Tryd.prog 20 #[.slice (some ⟨ba, oa, none⟩) n ca, .slice (some ⟨bb, ob, none⟩) n cb] w fun e w' => e = .returned (.bool (Tr.termsEq la lb)) ∧ ∃ k, w' = w.drewN k := by
  have HA : Hid (la.length = n) := hna
  have HB : Hid (lb.length = n) := hnb
  clear hna hnb
  have hne : ((n : Int) != (n : Int)) = false := by simp
  go_enter Tryd.func20, Tryd.ntmps20
  go_wp2
  go_loopw [5] (fun i wr => ∃ k nq : Nat, k ≤ n ∧ i = .int .i64 k ∧ Tr.termsEq la lb = Tr.termsEq (la.drop k) (lb.drop k) ∧ wr = w.drewN nq) (fun i _ => n - (intOf i).toNat)
  case atStart => exact ⟨0, 0, Nat.zero_le _, rfl, rfl, rfl⟩
  case round =>
    obtain ⟨k, nq, hk, rfl, hsame, rfl⟩ := hrel
    have HS : Hid (Tr.termsEq la lb = Tr.termsEq (la.drop k) (lb.drop k)) := hsame
    clear hsame
    by_cases hlt : k < n
    · obtain ⟨a0, a1⟩ := hA k hlt
      obtain ⟨b0, b1⟩ := hB k hlt
      have HD : Hid (Tr.termsEq la lb = (Tr.termEq (Tr.termD la k) (Tr.termD lb k) && Tr.termsEq (la.drop (k + 1)) (lb.drop (k + 1)))) := by
        show _ = _
        rw [HS.out]
        exact Tr.listEq_drop _ _ _ _ _ (by rw [HA.out]; exact hlt) (by rw [HB.out]; exact hlt)
      clear hA hB HS
      generalize Tr.termD la k = x at *
      generalize Tr.termD lb k = y at *
      cases h1 : (x.var == y.var)
      · have HV : Hid (Tr.termsEq la lb = false) := by show _ = _; rw [HD.out, Tr.termEq, h1]; rfl
        clear HD
        go_wp2_with fail
        go_quiet (fail)
        go_wp2
        go_ret
        exact ⟨ret_bool HV.out.symm, _, drewN_two _ _ _⟩
      · cases h2 : (x.n == y.n)
        · have HV : Hid (Tr.termsEq la lb = false) := by show _ = _; rw [HD.out, Tr.termEq, h1, h2]; rfl
          clear HD
          go_wp2_with fail
          go_quiet (fail)
          go_wp2
          go_ret
          exact ⟨ret_bool HV.out.symm, _, drewN_two _ _ _⟩
        · have HV : Hid (Tr.termsEq la lb = Tr.termsEq (la.drop (k + 1)) (lb.drop (k + 1))) := by show _ = _; rw [HD.out, Tr.termEq, h1, h2]; rfl
          clear HD
          go_wp2_with fail
          go_quiet (fail)
          go_wp2
          go_roundw
          case rel => exact ⟨k + 1, _, by omega, by go_num, HV.out, rfl⟩
          case measure => simp [intOf]; omega
    · have HV : Hid (Tr.termsEq la lb = true) := by
        show _ = _
        rw [HS.out, List.drop_of_length_le (by rw [HA.out]; omega), List.drop_of_length_le (by rw [HB.out]; omega)]
        rfl
      clear HS hA hB
      go_wp2_with fail
      go_ret
      exact ⟨ret_bool HV.out.symm, _, rfl⟩

set_option maxRecDepth 100000 in
set_option maxHeartbeats 400000 in
theorem sameTerms_diff (w : World) (ao bo : Option Addr) (n m ca cb : Nat) (h : ¬ n = m) :
    Calls Tryd.prog 20 #[.slice ao n ca, .slice bo m cb] w fun e w' => e = .returned (.bool false) ∧ ∃ k, w' = w.drewN k := by
  have hne : ((n : Int) != (m : Int)) = true := bne_iff_ne.2 (by omega)
  go_enter Tryd.func20, Tryd.ntmps20
  go_wp2
  go_ret
  exact ⟨rfl, 0, rfl⟩

set_option maxRecDepth 100000 in
set_option maxHeartbeats 400000 in
theorem sameTerms_none (w : World) (ao bo : Option Addr) (ca cb : Nat) :
    Calls Tryd.prog 20 #[.slice ao 0 ca, .slice bo 0 cb] w fun e w' => e = .returned (.bool true) ∧ ∃ k, w' = w.drewN k := by
  go_enter Tryd.func20, Tryd.ntmps20
  go_wp2
  refine wp_loop_rounds 1 ?_
  rw [rounds_succ]
  go_wp2
  go_ret
  exact ⟨rfl, 0, rfl⟩

/-- sameTerms, whatever lists it is handed. -/
theorem sameTerms_any (la lb : List Tr.Term) (w : World) (va vb : Value) (hA : TermsV w va la) (hB : TermsV w vb lb) (hmax : la.length ≤ 140737488355328) :
    Calls Tryd.prog 20 #[va, vb] w fun e w' => e = .returned (.bool (Tr.termsEq la lb)) ∧ ∃ k, w' = w.drewN k := by
  obtain ⟨ao, ca, rfl, hA⟩ := hA
  obtain ⟨bo, cb, rfl, hB⟩ := hB
  by_cases h : la.length = lb.length
  · rcases hA with rfl | ⟨b, off, rfl, hA⟩
    · have hl : lb = [] := List.eq_nil_of_length_eq_zero h.symm
      subst hl
      exact sameTerms_none w ao bo ca cb
    · rcases hB with rfl | ⟨b', off', rfl, hB⟩
      · have hl : la = [] := List.eq_nil_of_length_eq_zero h
        subst hl
        exact sameTerms_none w _ bo ca cb
      · rw [← h]
        exact sameTerms_loop la lb w la.length ca cb b off b' off' rfl h.symm hmax hA (by rw [h]; exact hB)
  · rw [show Tr.termsEq la lb = false from Tr.listEq_len _ la lb h]
    exact sameTerms_diff w ao bo _ _ ca cb h

end Go.Proofs.YtjbfbbhaagkagaaDoor

/- Package token: Join, whatever tokens it is handed. -/
namespace Go.Proofs.YtjbfbbhaagkagaaDoor
open Go.RowKit

set_option maxRecDepth 100000 in
set_option maxHeartbeats 400000 in
theorem Join_none (w : World) (ao : Option Addr) (cap : Nat) :
    Calls Tryd.prog 9 #[.slice ao 0 cap] w fun e w' => e = .returned (.tuple #[.string ⟨#[]⟩, .int .i64 0]) ∧ Below w.heap.size w w' := by
  have hbu : Lib.IsBuilder 55 5 w.heap.size w.heap.size (Lib.byteCells []) (w.alloc (.cells #[.pointer none, .slice none 0 0] 55)) := Lib.fresh_isBuilder 55 5 w
  have hbel : Below w.heap.size w (w.alloc (.cells #[.pointer none, .slice none 0 0] 55)) := (Below.refl _ _).alloc (Nat.le_refl _) _
  go_enter Tryd.func9, Tryd.ntmps9
  go_wp2_with fail
  refine wp_loop_rounds 1 ?_
  rw [rounds_succ]
  go_wp2_with (first | (go_at_call 18; refine (Tryd.Builder_Len _ _ _ _ hbu).mono ?_; rintro e w' ⟨rfl, rfl⟩; rw [Lib.byteCells_length]) | (go_at_call 19; refine (Tryd.Builder_String_any _ _ _ _ hbu (by simp)).mono ?_; rintro e w2 ⟨rfl, hbel2⟩))
  go_ret2
  exact ⟨rfl, hbel.trans hbel2⟩

/-- Join, whatever tokens it is handed. -/
theorem Join_any (l : List Tk.Tok) (w : World) (ao : Option Addr) (cap : Nat) (hmax : l.length ≤ 4398046511104) (hA : ToksAt w ao l) :
    Calls Tryd.prog 9 #[.slice ao l.length cap] w fun e w' => e = .returned (.tuple #[.string ⟨(Tk.join l).1.toArray⟩, .int .i64 (Tk.join l).2]) ∧ Below w.heap.size w w' := by
  rcases hA with rfl | ⟨b, off, rfl, hA⟩
  · exact Join_none w ao cap
  · exact Join_some l w l.length b off cap rfl hmax hA

end Go.Proofs.YtjbfbbhaagkagaaDoor

/- Package tree: words, names and terms. -/
namespace Go.Proofs.YtjbfbbhaagkagaaDoor
open Go.RowKit

set_option maxRecDepth 100000 in
set_option maxHeartbeats 400000 in
theorem foldOf_any (s : List UInt8) (w : World) : Calls Tryd.prog 55 #[.string ⟨s.toArray⟩] w fun e w' => e = .returned (.int .i64 (Tr.foldOf s)) ∧ w' = w := by
  unfold Tr.foldOf
  cases h1 : (s == [99, 111, 117, 110, 116])
  · cases h2 : (s == [115, 117, 109])
    · cases h3 : (s == [108, 101, 97, 115, 116])
      · cases h4 : (s == [109, 111, 115, 116])
        · go_enter Tryd.func55, Tryd.ntmps55
          go_wp2
          go_ret
          exact ⟨rfl, rfl⟩
        · go_enter Tryd.func55, Tryd.ntmps55
          go_wp2
          go_ret
          exact ⟨rfl, rfl⟩
      · go_enter Tryd.func55, Tryd.ntmps55
        go_wp2
        go_ret
        exact ⟨rfl, rfl⟩
    · go_enter Tryd.func55, Tryd.ntmps55
      go_wp2
      go_ret
      exact ⟨rfl, rfl⟩
  · go_enter Tryd.func55, Tryd.ntmps55
    go_wp2
    go_ret
    exact ⟨rfl, rfl⟩

set_option maxRecDepth 100000 in
set_option maxHeartbeats 400000 in
theorem isWord_any (s : List UInt8) (w : World) : Calls Tryd.prog 38 #[.string ⟨s.toArray⟩] w fun e w' => e = .returned (.bool (Tr.isWord s)) ∧ w' = w := by
  unfold Tr.isWord
  cases h1 : (s == [110, 111, 116])
  · go_enter Tryd.func38, Tryd.ntmps38
    go_wp2_with (go_at_call 55; refine (foldOf_any _ _).mono ?_; rintro e w' ⟨rfl, rfl⟩)
    go_ret
    exact ⟨rfl, rfl⟩
  · go_enter Tryd.func38, Tryd.ntmps38
    go_wp2
    go_ret
    exact ⟨rfl, rfl⟩

set_option maxRecDepth 100000 in
set_option maxHeartbeats 400000 in
theorem isTest_any (n : Int) (w : World) : Calls Tryd.prog 40 #[.int .i64 n] w fun e w' => e = .returned (.bool (Tr.between n 1 4)) ∧ w' = w := by
  unfold Tr.between
  by_cases h : 1 ≤ n
  · go_enter Tryd.func40, Tryd.ntmps40
    go_wp2
    go_ret
    exact ⟨by simp [h], rfl⟩
  · have hd : decide (1 ≤ n) = false := by simpa using h
    go_enter Tryd.func40, Tryd.ntmps40
    go_wp2
    go_ret
    exact ⟨rfl, rfl⟩

set_option maxRecDepth 100000 in
set_option maxHeartbeats 400000 in
theorem isCalc_any (n : Int) (w : World) : Calls Tryd.prog 41 #[.int .i64 n] w fun e w' => e = .returned (.bool (Tr.between n 5 7)) ∧ w' = w := by
  unfold Tr.between
  by_cases h : 5 ≤ n
  · go_enter Tryd.func41, Tryd.ntmps41
    go_wp2
    go_ret
    exact ⟨by simp [h], rfl⟩
  · have hd : decide (5 ≤ n) = false := by simpa using h
    go_enter Tryd.func41, Tryd.ntmps41
    go_wp2
    go_ret
    exact ⟨rfl, rfl⟩

theorem join_one (k : Int) (s : List UInt8) : ((Tk.join [⟨k, 0, s⟩]).2 == 0) = Tk.isTok k s := by
  have e1 : Tk.allTok [⟨k, 0, s⟩] 1 = Tk.isTok k s := by simp [Tk.allTok]
  have e2 : Tk.joinTo [⟨k, 0, s⟩] 1 = s := by simp [Tk.joinTo, tokD]
  unfold Tk.join
  rw [List.length_singleton, e1, e2]
  cases h : Tk.isTok k s
  · rfl
  · have := Tk.isTok_len k s h
    rw [if_pos rfl, if_neg (by omega)]
    rfl

set_option maxRecDepth 100000 in
set_option maxHeartbeats 400000 in
theorem isToken_any (s : List UInt8) (k : Int) (w : World) : Calls Tryd.prog 37 #[.string ⟨s.toArray⟩, .int .i64 k] w fun e w' => e = .returned (.bool (Tk.isTok k s)) ∧ Below w.heap.size w w' := by
  have HJ := join_one k s
  have hA : ToksAt (w.alloc (.cells #[.int .i64 k, .int .i64 0, .string ⟨s.toArray⟩] 44)) (some ⟨w.heap.size, 0, none⟩) [⟨k, 0, s⟩] := by
    refine .inr ⟨w.heap.size, 0, rfl, fun i hi => ?_⟩
    have : i = 0 := by simpa using hi
    subst this
    exact ⟨by simp [go_sem, tokD], by simp [go_sem, tokD], by simp [go_sem, tokD]⟩
  have HC : Hid (_) := Join_any [⟨k, 0, s⟩] _ _ 1 (by simp) hA
  rw [← HJ]
  generalize Tk.join [⟨k, 0, s⟩] = J at *
  clear hA HJ
  go_enter Tryd.func37, Tryd.ntmps37
  go_wp2_with fail
  refine Calls.mono HC.out ?_
  rintro e w1 ⟨rfl, hb⟩
  go_wp2
  go_ret
  exact ⟨rfl, below_box hb⟩

set_option maxRecDepth 100000 in
set_option maxHeartbeats 400000 in
theorem isName_any (s : List UInt8) (w : World) : Calls Tryd.prog 23 #[.string ⟨s.toArray⟩] w fun e w' => e = .returned (.bool (Tr.isName s)) ∧ Below w.heap.size w w' := by
  unfold Tr.isName
  cases h1 : Tk.isTok 1 s
  · go_enter Tryd.func23, Tryd.ntmps23
    go_wp2_with fail
    refine (isToken_any s 1 w).mono ?_
    rintro e w1 ⟨he, hb⟩
    rw [h1] at he
    subst he
    go_wp2
    go_ret
    exact ⟨rfl, hb⟩
  · go_enter Tryd.func23, Tryd.ntmps23
    go_wp2_with fail
    refine (isToken_any s 1 w).mono ?_
    rintro e w1 ⟨he, hb⟩
    rw [h1] at he
    subst he
    go_wp2_with (go_at_call 38; refine (isWord_any _ _).mono ?_; rintro e w' ⟨rfl, rfl⟩)
    go_ret
    exact ⟨rfl, hb⟩

end Go.Proofs.YtjbfbbhaagkagaaDoor

/- Package tree: terms that are right. -/
namespace Go.Proofs.YtjbfbbhaagkagaaDoor
open Go.RowKit

set_option maxRecDepth 100000 in
set_option maxHeartbeats 400000 in
theorem termIsRight_any (t : Tr.Term) (w : World) : Calls Tryd.prog 39 #[termVal t] w fun e w' => e = .returned (.bool (Tr.termOk t)) ∧ Below w.heap.size w w' := by
  unfold Tr.termOk
  cases h1 : t.var.isEmpty
  · cases h2 : (t.n == 0)
    · go_enter Tryd.func39, Tryd.ntmps39
      go_wp2
      go_ret
      exact ⟨rfl, (Below.refl _ _).alloc (Nat.le_refl _) _⟩
    · go_enter Tryd.func39, Tryd.ntmps39
      go_wp2_with fail
      refine (isToken_any t.var 2 _).mono ?_
      rintro e w1 ⟨rfl, hb⟩
      go_wp2
      go_ret
      exact ⟨rfl, below_box hb⟩
  · unfold Tr.between
    by_cases h : -9999999 ≤ t.n
    · go_enter Tryd.func39, Tryd.ntmps39
      go_wp2
      go_ret
      exact ⟨by simp, (Below.refl _ _).alloc (Nat.le_refl _) _⟩
    · have hd : decide (-9999999 ≤ t.n) = false := by simpa using h
      go_enter Tryd.func39, Tryd.ntmps39
      go_wp2
      go_ret
      exact ⟨rfl, (Below.refl _ _).alloc (Nat.le_refl _) _⟩

set_option maxRecDepth 100000 in
set_option maxHeartbeats 400000 in
theorem termsAreRight_none (w : World) (ao : Option Addr) (cap : Nat) : Calls Tryd.prog 24 #[.slice ao 0 cap] w fun e w' => e = .returned (.bool true) ∧ Below w.heap.size w w' := by
  go_enter Tryd.func24, Tryd.ntmps24
  go_wp2_with fail
  refine wp_loop_rounds 1 ?_
  rw [rounds_succ]
  go_wp2_with fail
  go_ret
  exact ⟨rfl, Below.refl _ _⟩

set_option maxRecDepth 100000 in
set_option maxHeartbeats 400000 in
theorem termsAreRight_some (l : List Tr.Term) (w : World) (n b off cap : Nat) (hn : l.length = n) (hmax : n ≤ 140737488355328) (hA : ∀ i, i < n → TermIn w b (off + i * 2) (Tr.termD l i)) :
    Calls Tryd.prog 24 #[.slice (some ⟨b, off, none⟩) n cap] w fun e w' => e = .returned (.bool (Tr.termsOk l)) ∧ Below w.heap.size w w' := by
  have HN : Hid (l.length = n) := hn
  clear hn
  go_enter Tryd.func24, Tryd.ntmps24
  go_wp2_with fail
  go_loopw [7] (fun i wr => ∃ k : Nat, k ≤ n ∧ i = .int .i64 k ∧ Tr.termsOk l = (l.drop k).all Tr.termOk ∧ Below w.heap.size w wr) (fun i _ => n - (intOf i).toNat)
  case atStart => exact ⟨0, Nat.zero_le _, rfl, rfl, Below.refl _ _⟩
  case round =>
    obtain ⟨k, hk, rfl, hall, hbel⟩ := hrel
    have HA : Hid (Tr.termsOk l = (l.drop k).all Tr.termOk) := hall
    clear hall
    by_cases hlt : k < n
    · obtain ⟨a0, a1⟩ := hA k hlt
      have hbw : b < w.heap.size := World.block_lt_of_cell? w _ a0
      have a0' := (hbel.cell (p := ⟨b, off + k * 2, none⟩) hbw).trans a0
      have a1' := (hbel.cell (p := ⟨b, off + k * 2 + 1, none⟩) hbw).trans a1
      have HD : Hid (Tr.termsOk l = (Tr.termOk (Tr.termD l k) && (l.drop (k + 1)).all Tr.termOk)) := HA.out.trans (all_drop _ _ _ k (by rw [HN.out]; exact hlt))
      clear a0 a1 hA HA
      generalize Tr.termD l k = t at *
      cases hT : Tr.termOk t
      · have HV : Hid (Tr.termsOk l = false) := by show _ = _; rw [HD.out, hT]; rfl
        go_wp2_with fail
        refine (termIsRight_any t _).mono ?_
        rintro e w1 ⟨he, hb1⟩
        rw [hT] at he
        subst he
        have hb2 := hbel.trans ((below_box hb1).mono hbel.size)
        go_wp2_with fail
        go_ret
        exact ⟨ret_bool HV.out.symm, hb2⟩
      · have HV : Hid (Tr.termsOk l = (l.drop (k + 1)).all Tr.termOk) := by show _ = _; rw [HD.out, hT]; rfl
        go_wp2_with fail
        refine (termIsRight_any t _).mono ?_
        rintro e w1 ⟨he, hb1⟩
        rw [hT] at he
        subst he
        have hb2 := hbel.trans ((below_box hb1).mono hbel.size)
        clear hb1 hT HD
        go_wp2_with fail
        go_roundw
        case rel => exact ⟨k + 1, by omega, by go_num, HV.out, hb2⟩
        case measure => simp [intOf]; omega
    · have HV : Hid (Tr.termsOk l = true) := by show _ = _; rw [HA.out, List.drop_of_length_le (by rw [HN.out]; omega)]; rfl
      clear hA
      go_wp2_with fail
      go_ret
      exact ⟨ret_bool HV.out.symm, hbel⟩

theorem termsAreRight_any (l : List Tr.Term) (v : Value) (w : World) (hmax : l.length ≤ 140737488355328) (hA : TermsV w v l) :
    Calls Tryd.prog 24 #[v] w fun e w' => e = .returned (.bool (Tr.termsOk l)) ∧ Below w.heap.size w w' := by
  obtain ⟨ao, cap, rfl, hA⟩ := hA
  rcases hA with rfl | ⟨b, off, rfl, hA⟩
  · exact termsAreRight_none w ao cap
  · exact termsAreRight_some l w l.length b off cap rfl hmax hA

end Go.Proofs.YtjbfbbhaagkagaaDoor

/- Package tree: literals and rules that are right. -/
namespace Go.Proofs.YtjbfbbhaagkagaaDoor
open Go.RowKit

abbrev litObj (x : Tr.Lit) (v : Value) : Obj := .cells #[.int .i64 x.kind, .int .i64 x.at_, .int .i64 x.op, .string ⟨x.name.toArray⟩, v] 42
abbrev ruleObj (r : Tr.Rule) (v u : Value) : Obj := .cells #[.int .i64 r.at_, .string ⟨r.name.toArray⟩, v, .int .i64 r.fold, u] 40

theorem litBox {w w1 : World} {x : Tr.Lit} {v : Value} (hb : Below (w.alloc (litObj x v)).heap.size (w.alloc (litObj x v)) w1) :
    w1.cell? ⟨w.heap.size, 0, none⟩ = some (.int .i64 x.kind) ∧ w1.cell? ⟨w.heap.size, 1, none⟩ = some (.int .i64 x.at_) ∧ w1.cell? ⟨w.heap.size, 2, none⟩ = some (.int .i64 x.op) ∧
    w1.cell? ⟨w.heap.size, 3, none⟩ = some (.string ⟨x.name.toArray⟩) ∧ w1.cell? ⟨w.heap.size, 4, none⟩ = some v := by
  obtain ⟨hc, hf⟩ := bcell hb
  have h : w.heap.size < (w.alloc (litObj x v)).heap.size := by simp
  refine ⟨?_, ?_, ?_, ?_, ?_⟩
  · rw [hc _ _ h]; simp [go_sem]
  · rw [hc _ _ h]; simp [go_sem]
  · rw [hc _ _ h]; simp [go_sem]
  · rw [hc _ _ h]; simp [go_sem]
  · rw [hc _ _ h]; simp [go_sem]
theorem ruleBox {w w1 : World} {r : Tr.Rule} {v u : Value} (hb : Below (w.alloc (ruleObj r v u)).heap.size (w.alloc (ruleObj r v u)) w1) :
    w1.cell? ⟨w.heap.size, 0, none⟩ = some (.int .i64 r.at_) ∧ w1.cell? ⟨w.heap.size, 1, none⟩ = some (.string ⟨r.name.toArray⟩) ∧ w1.cell? ⟨w.heap.size, 2, none⟩ = some v ∧
    w1.cell? ⟨w.heap.size, 3, none⟩ = some (.int .i64 r.fold) ∧ w1.cell? ⟨w.heap.size, 4, none⟩ = some u := by
  obtain ⟨hc, hf⟩ := bcell hb
  have h : w.heap.size < (w.alloc (ruleObj r v u)).heap.size := by simp
  refine ⟨?_, ?_, ?_, ?_, ?_⟩
  · rw [hc _ _ h]; simp [go_sem]
  · rw [hc _ _ h]; simp [go_sem]
  · rw [hc _ _ h]; simp [go_sem]
  · rw [hc _ _ h]; simp [go_sem]
  · rw [hc _ _ h]; simp [go_sem]
theorem below_alloc (w : World) (o : Obj) : Below w.heap.size w (w.alloc o) := (Below.refl _ _).alloc (Nat.le_refl _) _

set_option maxRecDepth 100000 in
set_option maxHeartbeats 1000000 in
theorem litIsRight_any (x : Tr.Lit) (v : Value) (w : World) (hmax : x.terms.length ≤ 140737488355328) (hA : TermsV w v x.terms) :
    Calls Tryd.prog 26 #[litVal x v] w fun e w' => e = .returned (.bool (Tr.litOk x)) ∧ Below w.heap.size w w' := by
  have HC : Hid (_) := termsAreRight_any x.terms v (w.alloc (litObj x v)) hmax (termsV_below hA (below_alloc _ _))
  obtain ⟨ao, cap, rfl, _⟩ := hA
  have HV : Hid (Tr.litOk x = (Tr.termsOk x.terms && (if x.kind = 1 ∨ x.kind = 2 then (x.op == 0) && Tr.isName x.name
    else if x.kind = 3 then Tr.between x.op 1 4 && x.name.isEmpty && ((x.terms.length : Int) == 2)
    else if x.kind = 4 then Tr.between x.op 5 7 && x.name.isEmpty && ((x.terms.length : Int) == 3) else false))) := rfl
  generalize Tr.litOk x = V at *
  cases hT : Tr.termsOk x.terms
  · have HF : Hid (V = false) := by show _ = _; rw [HV.out, hT]; rfl
    clear HV
    go_enter Tryd.func26, Tryd.ntmps26
    go_wp2_with fail
    refine Calls.mono HC.out ?_
    rintro e w1 ⟨he, hb⟩
    rw [hT] at he
    subst he
    go_wp2_with fail
    go_ret
    exact ⟨ret_bool HF.out.symm, below_box hb⟩
  · rw [hT, Bool.true_and] at HV
    by_cases k12 : x.kind = 1 ∨ x.kind = 2
    · rw [if_pos k12] at HV
      cases g0 : (x.op == 0)
      · have HF : Hid (V = false) := by show _ = _; rw [HV.out, g0]; rfl
        clear HV
        rcases k12 with k1 | k2
        · have t1 : (x.kind == 1) = true := beq_iff_eq.2 k1
          clear k1
          go_enter Tryd.func26, Tryd.ntmps26
          go_wp2_with fail
          refine Calls.mono HC.out ?_
          rintro e w1 ⟨he, hb⟩
          rw [hT] at he
          subst he
          obtain ⟨c0, c1, c2, c3, c4⟩ := litBox hb
          go_wp2_with fail
          go_ret
          exact ⟨ret_bool HF.out.symm, below_box hb⟩
        · have t1 : (x.kind == 1) = false := beq_eq_false_iff_ne.2 (by omega)
          have t2 : (x.kind == 2) = true := beq_iff_eq.2 k2
          clear k2
          go_enter Tryd.func26, Tryd.ntmps26
          go_wp2_with fail
          refine Calls.mono HC.out ?_
          rintro e w1 ⟨he, hb⟩
          rw [hT] at he
          subst he
          obtain ⟨c0, c1, c2, c3, c4⟩ := litBox hb
          go_wp2_with fail
          go_ret
          exact ⟨ret_bool HF.out.symm, below_box hb⟩
      · have HF : Hid (V = Tr.isName x.name) := by show _ = _; rw [HV.out, g0]; rfl
        clear HV
        rcases k12 with k1 | k2
        · have t1 : (x.kind == 1) = true := beq_iff_eq.2 k1
          clear k1
          go_enter Tryd.func26, Tryd.ntmps26
          go_wp2_with fail
          refine Calls.mono HC.out ?_
          rintro e w1 ⟨he, hb⟩
          rw [hT] at he
          subst he
          obtain ⟨c0, c1, c2, c3, c4⟩ := litBox hb
          go_wp2_with fail
          refine (isName_any x.name _).mono ?_
          rintro e w2 ⟨rfl, hb2⟩
          go_wp2_with fail
          go_ret
          exact ⟨ret_bool HF.out.symm, (below_box hb).trans (hb2.mono (below_box hb).size)⟩
        · have t1 : (x.kind == 1) = false := beq_eq_false_iff_ne.2 (by omega)
          have t2 : (x.kind == 2) = true := beq_iff_eq.2 k2
          clear k2
          go_enter Tryd.func26, Tryd.ntmps26
          go_wp2_with fail
          refine Calls.mono HC.out ?_
          rintro e w1 ⟨he, hb⟩
          rw [hT] at he
          subst he
          obtain ⟨c0, c1, c2, c3, c4⟩ := litBox hb
          go_wp2_with fail
          refine (isName_any x.name _).mono ?_
          rintro e w2 ⟨rfl, hb2⟩
          go_wp2_with fail
          go_ret
          exact ⟨ret_bool HF.out.symm, (below_box hb).trans (hb2.mono (below_box hb).size)⟩
    · rw [if_neg k12] at HV
      have t1 : (x.kind == 1) = false := beq_eq_false_iff_ne.2 (fun h => k12 (.inl h))
      have t2 : (x.kind == 2) = false := beq_eq_false_iff_ne.2 (fun h => k12 (.inr h))
      clear k12
      by_cases k3 : x.kind = 3
      · rw [if_pos k3] at HV
        have t3 : (x.kind == 3) = true := beq_iff_eq.2 k3
        clear k3
        cases g0 : Tr.between x.op 1 4
        · have HF : Hid (V = false) := by show _ = _; rw [HV.out, g0]; rfl
          clear HV
          go_enter Tryd.func26, Tryd.ntmps26
          go_wp2_with fail
          refine Calls.mono HC.out ?_
          rintro e w1 ⟨he, hb⟩
          rw [hT] at he
          subst he
          obtain ⟨c0, c1, c2, c3, c4⟩ := litBox hb
          go_wp2_with (go_at_call 40; refine (isTest_any _ _).mono ?_; rintro e w' ⟨rfl, rfl⟩)
          go_ret
          exact ⟨ret_bool HF.out.symm, below_box hb⟩
        · cases g1 : x.name.isEmpty
          · have HF : Hid (V = false) := by show _ = _; rw [HV.out, g1]; simp
            clear HV
            go_enter Tryd.func26, Tryd.ntmps26
            go_wp2_with fail
            refine Calls.mono HC.out ?_
            rintro e w1 ⟨he, hb⟩
            rw [hT] at he
            subst he
            obtain ⟨c0, c1, c2, c3, c4⟩ := litBox hb
            go_wp2_with (go_at_call 40; refine (isTest_any _ _).mono ?_; rintro e w' ⟨rfl, rfl⟩)
            go_ret
            exact ⟨ret_bool HF.out.symm, below_box hb⟩
          · have HF : Hid (V = ((x.terms.length : Int) == 2)) := by show _ = _; rw [HV.out, g0, g1]; rfl
            clear HV
            go_enter Tryd.func26, Tryd.ntmps26
            go_wp2_with fail
            refine Calls.mono HC.out ?_
            rintro e w1 ⟨he, hb⟩
            rw [hT] at he
            subst he
            obtain ⟨c0, c1, c2, c3, c4⟩ := litBox hb
            go_wp2_with (go_at_call 40; refine (isTest_any _ _).mono ?_; rintro e w' ⟨rfl, rfl⟩)
            go_ret
            exact ⟨ret_bool HF.out.symm, below_box hb⟩
      · rw [if_neg k3] at HV
        have t3 : (x.kind == 3) = false := beq_eq_false_iff_ne.2 k3
        clear k3
        by_cases k4 : x.kind = 4
        · rw [if_pos k4] at HV
          have t4 : (x.kind == 4) = true := beq_iff_eq.2 k4
          clear k4
          cases g0 : Tr.between x.op 5 7
          · have HF : Hid (V = false) := by show _ = _; rw [HV.out, g0]; rfl
            clear HV
            go_enter Tryd.func26, Tryd.ntmps26
            go_wp2_with fail
            refine Calls.mono HC.out ?_
            rintro e w1 ⟨he, hb⟩
            rw [hT] at he
            subst he
            obtain ⟨c0, c1, c2, c3, c4⟩ := litBox hb
            go_wp2_with (go_at_call 41; refine (isCalc_any _ _).mono ?_; rintro e w' ⟨rfl, rfl⟩)
            go_ret
            exact ⟨ret_bool HF.out.symm, below_box hb⟩
          · cases g1 : x.name.isEmpty
            · have HF : Hid (V = false) := by show _ = _; rw [HV.out, g1]; simp
              clear HV
              go_enter Tryd.func26, Tryd.ntmps26
              go_wp2_with fail
              refine Calls.mono HC.out ?_
              rintro e w1 ⟨he, hb⟩
              rw [hT] at he
              subst he
              obtain ⟨c0, c1, c2, c3, c4⟩ := litBox hb
              go_wp2_with (go_at_call 41; refine (isCalc_any _ _).mono ?_; rintro e w' ⟨rfl, rfl⟩)
              go_ret
              exact ⟨ret_bool HF.out.symm, below_box hb⟩
            · have HF : Hid (V = ((x.terms.length : Int) == 3)) := by show _ = _; rw [HV.out, g0, g1]; rfl
              clear HV
              go_enter Tryd.func26, Tryd.ntmps26
              go_wp2_with fail
              refine Calls.mono HC.out ?_
              rintro e w1 ⟨he, hb⟩
              rw [hT] at he
              subst he
              obtain ⟨c0, c1, c2, c3, c4⟩ := litBox hb
              go_wp2_with (go_at_call 41; refine (isCalc_any _ _).mono ?_; rintro e w' ⟨rfl, rfl⟩)
              go_ret
              exact ⟨ret_bool HF.out.symm, below_box hb⟩
        · rw [if_neg k4] at HV
          have t4 : (x.kind == 4) = false := beq_eq_false_iff_ne.2 k4
          have HF : Hid (V = false) := HV.out
          clear k4 HV
          go_enter Tryd.func26, Tryd.ntmps26
          go_wp2_with fail
          refine Calls.mono HC.out ?_
          rintro e w1 ⟨he, hb⟩
          rw [hT] at he
          subst he
          obtain ⟨c0, c1, c2, c3, c4⟩ := litBox hb
          go_wp2_with fail
          go_ret
          exact ⟨ret_bool HF.out.symm, below_box hb⟩

set_option maxRecDepth 100000 in
set_option maxHeartbeats 1000000 in
theorem foldIsRight_any (r : Tr.Rule) (ao bo : Option Addr) (ca cb : Nat) (w : World) :
    Calls Tryd.prog 25 #[ruleVal r (.slice ao r.terms.length ca) (.slice bo r.body.length cb)] w fun e w' => e = .returned (.bool (Tr.foldOk r.fold r.terms.length r.body.length)) ∧ Below w.heap.size w w' := by
  have HV : Hid (Tr.foldOk r.fold r.terms.length r.body.length = ((r.fold == 0) || (decide (1 ≤ r.fold) && decide (r.fold ≤ 4) && decide (0 < r.terms.length) && decide (0 < r.body.length)))) := rfl
  generalize Tr.foldOk r.fold r.terms.length r.body.length = V at *
  cases g0 : (r.fold == 0)
  · cases g1 : decide (1 ≤ r.fold)
    · have HF : Hid (V = false) := by show _ = _; rw [HV.out, g0, g1]; rfl
      clear HV
      go_enter Tryd.func25, Tryd.ntmps25
      go_wp2
      go_ret
      exact ⟨ret_bool HF.out.symm, below_alloc _ _⟩
    · cases g2 : decide (r.fold ≤ 4)
      · have HF : Hid (V = false) := by show _ = _; rw [HV.out, g0, g1, g2]; rfl
        clear HV
        go_enter Tryd.func25, Tryd.ntmps25
        go_wp2
        go_ret
        exact ⟨ret_bool HF.out.symm, below_alloc _ _⟩
      · cases g3 : decide (0 < r.terms.length)
        · have HF : Hid (V = false) := by show _ = _; rw [HV.out, g0, g1, g2, g3]; rfl
          clear HV
          go_enter Tryd.func25, Tryd.ntmps25
          go_wp2
          go_ret
          exact ⟨ret_bool HF.out.symm, below_alloc _ _⟩
        · have HF : Hid (V = decide (0 < r.body.length)) := by show _ = _; rw [HV.out, g0, g1, g2, g3]; rfl
          clear HV
          go_enter Tryd.func25, Tryd.ntmps25
          go_wp2
          go_ret
          exact ⟨ret_bool (by rw [HF.out]), below_alloc _ _⟩
  · have HF : Hid (V = true) := by show _ = _; rw [HV.out, g0]; rfl
    clear HV
    go_enter Tryd.func25, Tryd.ntmps25
    go_wp2
    go_ret
    exact ⟨ret_bool HF.out.symm, below_alloc _ _⟩

end Go.Proofs.YtjbfbbhaagkagaaDoor

/- Package tree: rules, and what is too many. -/
namespace Go.Proofs.YtjbfbbhaagkagaaDoor
open Go.RowKit

/-- Terms of literals are not too many to count. -/
def Fits (l : List Tr.Lit) : Prop := ∀ i, i < l.length → (Tr.litD l i).terms.length ≤ 140737488355328

set_option maxRecDepth 100000 in
set_option maxHeartbeats 2000000 in
theorem ruleIsRight_any (r : Tr.Rule) (v u : Value) (w : World) (hm1 : r.terms.length ≤ 140737488355328) (hm2 : r.body.length ≤ 140737488355328) (hm3 : Fits r.body) (hA : TermsV w v r.terms) (hB : LitsV w u r.body) :
    Calls Tryd.prog 13 #[ruleVal r v u] w fun e w' => e = .returned (.bool (Tr.ruleOk r)) ∧ Below w.heap.size w w' := by
  have hA0 := termsV_below hA (below_alloc w (ruleObj r v u))
  have hB0 := litsV_below hB (below_alloc w (ruleObj r v u))
  obtain ⟨ao, ca, rfl, _⟩ := hA
  obtain ⟨bo, cb, rfl, _⟩ := hB
  have HV : Hid (Tr.ruleOk r = (Tr.isName r.name && Tr.termsOk r.terms && Tr.foldOk r.fold r.terms.length r.body.length && Tr.litsOk r.body)) := rfl
  generalize Tr.ruleOk r = V at *
  go_enter Tryd.func13, Tryd.ntmps13
  go_wp2_with fail
  refine (isName_any r.name _).mono ?_
  rintro e w1 ⟨he, hb1⟩
  have hbel1 : Below w.heap.size w w1 := below_box hb1
  obtain ⟨c0, c1, c2, c3, c4⟩ := ruleBox hb1
  have hA1 := termsV_below hA0 hb1
  have hB1 := litsV_below hB0 hb1
  cases g1 : Tr.isName r.name
  · have HF : Hid (V = false) := by show _ = _; rw [HV.out, g1]; rfl
    rw [g1] at he
    subst he
    clear HV hA0 hB0 hA1 hB1
    go_wp2_with fail
    go_ret
    exact ⟨ret_bool HF.out.symm, hbel1⟩
  · rw [g1] at he
    subst he
    go_wp2_with fail
    refine (termsAreRight_any r.terms _ _ hm1 hA1).mono ?_
    rintro e w2 ⟨he, hb2⟩
    have hbel2 := hbel1.trans (hb2.mono hbel1.size)
    have hB2 := litsV_below hB1 hb2
    have c0 := cell_below hb2 c0
    have c1 := cell_below hb2 c1
    have c2 := cell_below hb2 c2
    have c3 := cell_below hb2 c3
    have c4 := cell_below hb2 c4
    clear hA0 hB0 hA1 hB1
    cases g2 : Tr.termsOk r.terms
    · have HF : Hid (V = false) := by show _ = _; rw [HV.out, g2]; simp
      rw [g2] at he
      subst he
      go_wp2_with fail
      go_ret
      exact ⟨ret_bool HF.out.symm, hbel2⟩
    · rw [g2] at he
      subst he
      go_wp2_with fail
      refine (foldIsRight_any r ao bo ca cb _).mono ?_
      rintro e w3 ⟨he, hb3⟩
      have hbel3 := hbel2.trans (hb3.mono hbel2.size)
      have hB3 := litsV_below hB2 hb3
      have c4 := cell_below hb3 c4
      cases g3 : Tr.foldOk r.fold r.terms.length r.body.length
      · have HF : Hid (V = false) := by show _ = _; rw [HV.out, g3]; simp
        rw [g3] at he
        subst he
        go_wp2_with fail
        go_ret
        exact ⟨ret_bool HF.out.symm, hbel3⟩
      · rw [g3] at he
        subst he
        have HW : Hid (V = Tr.litsOk r.body) := by show _ = _; rw [HV.out, g1, g2, g3]; rfl
        clear HV g1 g2 g3 hb1 hb2 hb3 hB2 hbel1 hbel2
        go_wp2_with fail
        go_loopw [23] (fun i wr => ∃ k : Nat, k ≤ r.body.length ∧ i = .int .i64 k ∧ Tr.litsOk r.body = (r.body.drop k).all Tr.litOk ∧ Below w3.heap.size w3 wr) (fun i _ => r.body.length - (intOf i).toNat)
        case atStart => exact ⟨0, Nat.zero_le _, rfl, rfl, Below.refl _ _⟩
        case round =>
          obtain ⟨k, hk, rfl, hall, hbelr⟩ := hrel
          have HA : Hid (Tr.litsOk r.body = (r.body.drop k).all Tr.litOk) := hall
          clear hall
          by_cases hlt : k < r.body.length
          · obtain ⟨bo', cb', hv, hL⟩ := litsV_below hB3 hbelr
            rcases hL with h | ⟨b, off, rfl, hc⟩
            · rw [h] at hlt; exact absurd hlt (by simp)
            injection hv with e1 _ e3
            subst e1 e3
            obtain ⟨a0, a1, a2, a3, v4, a4, hT⟩ := hc k hlt
            have HD : Hid (Tr.litsOk r.body = (Tr.litOk (Tr.litD r.body k) && (r.body.drop (k + 1)).all Tr.litOk)) := HA.out.trans (all_drop _ _ _ k hlt)
            have hfit := hm3 k hlt
            clear hc HA hB3
            generalize Tr.litD r.body k = x at *
            have HC : Hid (_) := litIsRight_any x v4 (wr.alloc (litObj x v4)) hfit (termsV_below hT (below_alloc _ _))
            obtain ⟨ao4, ca4, rfl, _⟩ := hT
            cases g : Tr.litOk x
            · have HF : Hid (V = false) := by show _ = _; rw [HW.out, HD.out, g]; rfl
              clear HD HW
              go_wp2_with fail
              refine Calls.mono HC.out ?_
              rintro e w4 ⟨he, hb4⟩
              rw [g] at he
              subst he
              have hbel4 := hbel3.trans ((hbelr.trans ((below_box hb4).mono hbelr.size)).mono hbel3.size)
              go_wp2_with fail
              go_ret
              exact ⟨ret_bool HF.out.symm, hbel4⟩
            · have HN : Hid (Tr.litsOk r.body = (r.body.drop (k + 1)).all Tr.litOk) := by show _ = _; rw [HD.out, g]; rfl
              clear HD
              go_wp2_with fail
              refine Calls.mono HC.out ?_
              rintro e w4 ⟨he, hb4⟩
              rw [g] at he
              subst he
              have hbel4 := hbelr.trans ((below_box hb4).mono hbelr.size)
              clear hb4 HC g a0 a1 a2 a3 a4
              go_wp2_with fail
              go_roundw
              case rel => exact ⟨k + 1, by omega, by go_num, HN.out, hbel4⟩
              case measure => simp [intOf]; omega
          · have HF : Hid (V = true) := by show _ = _; rw [HW.out, HA.out, List.drop_of_length_le (by omega)]; rfl
            have hbel4 := hbel3.trans (hbelr.mono hbel3.size)
            clear hB3 HA
            go_wp2_with fail
            go_ret
            exact ⟨ret_bool HF.out.symm, hbel4⟩

end Go.Proofs.YtjbfbbhaagkagaaDoor

/- Package tree: Check. -/
namespace Go.Proofs.YtjbfbbhaagkagaaDoor
open Go.RowKit

abbrev treeVal (v : Value) : Value := .agg #[v]

set_option maxRecDepth 100000 in
set_option maxHeartbeats 2000000 in
theorem tooMany_any (l : List Tr.Rule) (v : Value) (w : World) (hA : RulesV w v l) :
    Calls Tryd.prog 12 #[treeVal v] w fun e w' => e = .returned (.bool (Tr.many l)) ∧ Below w.heap.size w w' := by
  have hA0 := rulesV_below hA (below_alloc w (.cells #[v] 25))
  have hbel0 := below_alloc w (.cells #[v] 25)
  obtain ⟨ao, ca, rfl, _⟩ := hA
  by_cases h12 : 12 < l.length
  · have HF : Hid (Tr.many l = true) := by show _ = _; unfold Tr.many; rw [decide_eq_true h12]; rfl
    go_enter Tryd.func12, Tryd.ntmps12
    go_wp2_with fail
    go_ret
    exact ⟨ret_bool HF.out.symm, hbel0⟩
  · have HV : Hid (Tr.many l = l.any Tr.ruleMany) := by show _ = _; unfold Tr.many; rw [decide_eq_false h12]; rfl
    go_enter Tryd.func12, Tryd.ntmps12
    go_wp2_with fail
    generalize (w.alloc (.cells #[.slice ao l.length ca] 25)) = w0 at *
    go_loopw [14] (fun i wr => ∃ k : Nat, k ≤ l.length ∧ i = .int .i64 k ∧ Tr.many l = (l.drop k).any Tr.ruleMany ∧ Below w0.heap.size w0 wr) (fun i _ => l.length - (intOf i).toNat)
    case atStart => exact ⟨0, Nat.zero_le _, rfl, HV.out, Below.refl _ _⟩
    case round =>
      obtain ⟨k, hk, rfl, hany, hbelr⟩ := hrel
      have HA : Hid (Tr.many l = (l.drop k).any Tr.ruleMany) := hany
      clear hany HV
      by_cases hlt : k < l.length
      · obtain ⟨ao', ca', hv, hR⟩ := rulesV_below hA0 hbelr
        rcases hR with h | ⟨b, off, rfl, hc⟩
        · rw [h] at hlt; exact absurd hlt (by simp)
        injection hv with e1 _ e3
        subst e1 e3
        obtain ⟨a0, a1, ⟨v2, a2, hT⟩, a3, v4, a4, hL⟩ := hc k hlt
        have HD : Hid (Tr.many l = (Tr.ruleMany (Tr.ruleD l k) || (l.drop (k + 1)).any Tr.ruleMany)) := HA.out.trans (any_drop _ _ _ k hlt)
        clear hc HA
        generalize Tr.ruleD l k = r at *
        have hL0 := litsV_below hL (below_alloc wr (ruleObj r v2 v4))
        have hbel1 : Below w.heap.size w (wr.alloc (ruleObj r v2 v4)) := (hbel0.trans (hbelr.mono hbel0.size)).trans ((below_alloc wr _).mono (hbel0.trans (hbelr.mono hbel0.size)).size)
        have hbelr1 : Below w0.heap.size w0 (wr.alloc (ruleObj r v2 v4)) := hbelr.trans ((below_alloc wr _).mono hbelr.size)
        obtain ⟨ao2, ca2, rfl, _⟩ := hT
        obtain ⟨ao4, ca4, rfl, _⟩ := hL
        by_cases h4 : 4 < r.body.length
        rotate_left
        · have g1 : decide ((4 : Int) < (r.body.length : Int)) = false := decide_eq_false (by omega)
          by_cases h3 : 3 < r.terms.length
          rotate_left
          · have g2 : decide ((3 : Int) < (r.terms.length : Int)) = false := decide_eq_false (by omega)
            have HM : Hid (Tr.ruleMany r = Tr.litsMany r.body) := by show _ = _; unfold Tr.ruleMany; rw [decide_eq_false h4, decide_eq_false h3]; rfl
            go_wp2_with fail
            generalize (wr.alloc (ruleObj r (.slice ao2 r.terms.length ca2) (.slice ao4 r.body.length ca4))) = w1 at *
            go_loopw [31] (fun i wq => ∃ j : Nat, j ≤ r.body.length ∧ i = .int .i64 j ∧ Tr.litsMany r.body = (r.body.drop j).any (fun x => decide (3 < x.terms.length)) ∧ Below w1.heap.size w1 wq) (fun i _ => r.body.length - (intOf i).toNat)
            case atStart => exact ⟨0, Nat.zero_le _, rfl, rfl, Below.refl _ _⟩
            case round =>
              obtain ⟨j, hj, rfl, hany, hbelq⟩ := hrel
              have HB : Hid (Tr.litsMany r.body = (r.body.drop j).any (fun x => decide (3 < x.terms.length))) := hany
              clear hany
              by_cases hltj : j < r.body.length
              · obtain ⟨bo', cb', hv, hL⟩ := litsV_below hL0 hbelq
                rcases hL with h | ⟨b2, off2, rfl, hc⟩
                · rw [h] at hltj; exact absurd hltj (by simp)
                injection hv with e1 _ e3
                subst e1 e3
                obtain ⟨q0, q1, q2, q3, u4, q4, hT⟩ := hc j hltj
                have HE : Hid (Tr.litsMany r.body = (decide (3 < (Tr.litD r.body j).terms.length) || (r.body.drop (j + 1)).any (fun x => decide (3 < x.terms.length)))) := HB.out.trans (any_drop _ _ _ j hltj)
                clear hc HB hL0 hA0
                generalize Tr.litD r.body j = x at *
                obtain ⟨ao5, ca5, rfl, _⟩ := hT
                by_cases hx : 3 < x.terms.length
                rotate_left
                · have g : decide ((3 : Int) < (x.terms.length : Int)) = false := decide_eq_false (by omega)
                  have HN : Hid (Tr.litsMany r.body = (r.body.drop (j + 1)).any (fun x => decide (3 < x.terms.length))) := by show _ = _; rw [HE.out, decide_eq_false hx]; rfl
                  have hbq := hbelq.trans ((below_alloc _ (litObj x (.slice ao5 x.terms.length ca5))).mono hbelq.size)
                  clear HE
                  go_wp2_with fail
                  go_roundw
                  case rel => exact ⟨j + 1, by omega, by go_num, HN.out, hbq⟩
                  case measure => simp [intOf]; omega
                · have g : decide ((3 : Int) < (x.terms.length : Int)) = true := decide_eq_true (by omega)
                  have HF : Hid (Tr.many l = true) := by show _ = _; rw [HD.out, HM.out, HE.out, decide_eq_true hx]; rfl
                  have hbq := hbel1.trans ((hbelq.trans ((below_alloc _ (litObj x (.slice ao5 x.terms.length ca5))).mono hbelq.size)).mono hbel1.size)
                  clear HE HD HM
                  go_wp2_with fail
                  go_ret
                  exact ⟨ret_bool HF.out.symm, hbq⟩
              · have HN : Hid (Tr.many l = (l.drop (k + 1)).any Tr.ruleMany) := by
                  show _ = _
                  rw [HD.out, HM.out, HB.out, List.drop_of_length_le (by omega)]
                  rfl
                have hbq := hbelr1.trans (hbelq.mono hbelr1.size)
                clear HB HD HM hL0 hA0
                go_wp2_with fail
                go_roundw
                case rel => exact ⟨k + 1, by omega, by go_num, HN.out, hbq⟩
                case measure => simp [intOf]; omega
          · have g2 : decide ((3 : Int) < (r.terms.length : Int)) = true := decide_eq_true (by omega)
            have HF : Hid (Tr.many l = true) := by show _ = _; rw [HD.out]; unfold Tr.ruleMany; rw [decide_eq_true h3]; simp
            clear HD hA0 hL0
            go_wp2_with fail
            go_ret
            exact ⟨ret_bool HF.out.symm, hbel1⟩
        · have g1 : decide ((4 : Int) < (r.body.length : Int)) = true := decide_eq_true (by omega)
          have HF : Hid (Tr.many l = true) := by show _ = _; rw [HD.out]; unfold Tr.ruleMany; rw [decide_eq_true h4]; simp
          clear HD hA0 hL0
          go_wp2_with fail
          go_ret
          exact ⟨ret_bool HF.out.symm, hbel1⟩
      · have HF : Hid (Tr.many l = false) := by show _ = _; rw [HA.out, List.drop_of_length_le (by omega)]; rfl
        have hbq := hbel0.trans (hbelr.mono hbel0.size)
        clear hA0 HA
        go_wp2_with fail
        go_ret
        exact ⟨ret_bool HF.out.symm, hbq⟩

theorem ruleMany_no {r : Tr.Rule} (h : Tr.ruleMany r = false) : r.terms.length ≤ 3 ∧ r.body.length ≤ 4 ∧ Fits r.body := by
  unfold Tr.ruleMany at h
  simp only [Bool.or_eq_false_iff, decide_eq_false_iff_not] at h
  refine ⟨by omega, by omega, fun i hi => ?_⟩
  have hx := h.2
  unfold Tr.litsMany at hx
  rw [List.any_eq_false] at hx
  have e : Tr.litD r.body i = r.body[i] := by rw [Tr.litD, List.getD_eq_getElem?_getD, List.getElem?_eq_getElem hi]; rfl
  have := hx _ (List.getElem_mem hi)
  rw [e]
  simp at this
  omega

set_option maxRecDepth 100000 in
set_option maxHeartbeats 2000000 in
theorem Check_any (l : List Tr.Rule) (v : Value) (w : World) (hA : RulesV w v l) :
    Calls Tryd.prog 7 #[treeVal v] w fun e w' => e = .returned (.int .i64 (Tr.check l)) ∧ Below w.heap.size w w' := by
  have hA0 := rulesV_below hA (below_alloc w (.cells #[v] 25))
  have hbel0 := below_alloc w (.cells #[v] 25)
  have HT : Hid (_) := tooMany_any l v (w.alloc (.cells #[v] 25)) hA0
  obtain ⟨ao, ca, rfl, _⟩ := hA
  go_enter Tryd.func7, Tryd.ntmps7
  go_wp2_with fail
  refine Calls.mono HT.out ?_
  rintro e w1 ⟨he, hb1⟩
  have hbel1 := hbel0.trans (hb1.mono hbel0.size)
  have hA1 := rulesV_below hA0 hb1
  have c0 : w1.cell? ⟨w.heap.size, 0, none⟩ = some (.slice ao l.length ca) := cell_below hb1 (by simp [go_sem])
  clear HT hA0 hb1 hbel0
  cases gm : Tr.many l
  · rw [gm] at he
    subst he
    have hl12 : l.length ≤ 12 := by
      unfold Tr.many at gm
      simp only [Bool.or_eq_false_iff, decide_eq_false_iff_not] at gm
      omega
    have hMany : ∀ k, k < l.length → Tr.ruleMany (Tr.ruleD l k) = false := fun k hk => by
      unfold Tr.many at gm
      simp only [Bool.or_eq_false_iff] at gm
      have e : Tr.ruleD l k = l[k] := by rw [Tr.ruleD, List.getD_eq_getElem?_getD, List.getElem?_eq_getElem hk]; rfl
      rw [e]
      have := List.any_eq_false.1 gm.2 _ (List.getElem_mem hk)
      simpa using this
    have HM : Hid (∀ k, k < l.length → Tr.ruleMany (Tr.ruleD l k) = false) := hMany
    have HV : Hid (Tr.check l = if l.all Tr.ruleOk then 0 else 1) := by show _ = _; unfold Tr.check; rw [gm]; rfl
    clear hMany gm
    go_wp2_with fail
    go_loopw [10] (fun i wr => ∃ k : Nat, k ≤ l.length ∧ i = .int .i64 k ∧ l.all Tr.ruleOk = (l.drop k).all Tr.ruleOk ∧ Below w1.heap.size w1 wr) (fun i _ => l.length - (intOf i).toNat)
    case atStart => exact ⟨0, Nat.zero_le _, rfl, rfl, Below.refl _ _⟩
    case round =>
      obtain ⟨k, hk, rfl, hall, hbelr⟩ := hrel
      have HA : Hid (l.all Tr.ruleOk = (l.drop k).all Tr.ruleOk) := hall
      clear hall
      by_cases hlt : k < l.length
      · obtain ⟨ao', ca', hv, hR⟩ := rulesV_below hA1 hbelr
        rcases hR with h | ⟨b, off, rfl, hc⟩
        · rw [h] at hlt; exact absurd hlt (by simp)
        injection hv with e1 _ e3
        subst e1 e3
        obtain ⟨a0, a1, ⟨v2, a2, hT⟩, a3, v4, a4, hL⟩ := hc k hlt
        have HD : Hid (l.all Tr.ruleOk = (Tr.ruleOk (Tr.ruleD l k) && (l.drop (k + 1)).all Tr.ruleOk)) := HA.out.trans (all_drop _ _ _ k hlt)
        obtain ⟨f1, f2, f3⟩ := ruleMany_no (HM.out k hlt)
        clear hc HA hA1
        generalize Tr.ruleD l k = r at *
        have HC : Hid (_) := ruleIsRight_any r v2 v4 (wr.alloc (ruleObj r v2 v4)) (by omega) (by omega) f3 (termsV_below hT (below_alloc _ _)) (litsV_below hL (below_alloc _ _))
        obtain ⟨ao2, ca2, rfl, _⟩ := hT
        obtain ⟨ao4, ca4, rfl, _⟩ := hL
        clear f3
        cases g : Tr.ruleOk r
        · have HF : Hid (Tr.check l = 1) := by show _ = _; rw [HV.out, HD.out, g]; rfl
          clear HD HV
          go_wp2_with fail
          refine Calls.mono HC.out ?_
          rintro e w4 ⟨he, hb4⟩
          rw [g] at he
          subst he
          have hbel4 := hbel1.trans ((hbelr.trans ((below_box hb4).mono hbelr.size)).mono hbel1.size)
          go_wp2_with fail
          go_ret
          exact ⟨ret_int HF.out.symm, hbel4⟩
        · have HN : Hid (l.all Tr.ruleOk = (l.drop (k + 1)).all Tr.ruleOk) := by show _ = _; rw [HD.out, g]; rfl
          clear HD
          go_wp2_with fail
          refine Calls.mono HC.out ?_
          rintro e w4 ⟨he, hb4⟩
          rw [g] at he
          subst he
          have hbel4 := hbelr.trans ((below_box hb4).mono hbelr.size)
          clear hb4 HC g a0 a1 a2 a3 a4
          go_wp2_with fail
          go_roundw
          case rel => exact ⟨k + 1, by omega, by go_num, HN.out, hbel4⟩
          case measure => simp [intOf]; omega
      · have HF : Hid (Tr.check l = 0) := by show _ = _; rw [HV.out, HA.out, List.drop_of_length_le (by omega)]; rfl
        have hbel4 := hbel1.trans (hbelr.mono hbel1.size)
        clear hA1 HA HV
        go_wp2_with fail
        go_ret
        exact ⟨ret_int HF.out.symm, hbel4⟩
  · rw [gm] at he
    subst he
    have HF : Hid (Tr.check l = 2) := by show _ = _; unfold Tr.check; rw [gm]; rfl
    go_wp2_with fail
    go_ret
    exact ⟨ret_int HF.out.symm, hbel1⟩

end Go.Proofs.YtjbfbbhaagkagaaDoor

/- The parser in memory. -/
namespace Go.Proofs.YtjbfbbhaagkagaaDoor
open Go.RowKit

/-- The parser's block: its tokens, where it is, where the text ends. -/
def PS (w : World) (P : Nat) (L : List Tk.Tok) (nx : Nat) (en : Int) : Prop :=
  ∃ ao cap, w.heap[P]? = some (.cells #[.slice ao L.length cap, .int .i64 nx, .int .i64 en] 68 (0, 0)) ∧
    (L = [] ∨ ∃ b off, ao = some ⟨b, off, none⟩ ∧ b + 3 < P ∧ ∀ i, i < L.length → TokIn w b (off + i * 3) (tokD L i))

theorem PS.below {w w' : World} {P : Nat} {L : List Tk.Tok} {nx : Nat} {en : Int} (h : PS w P L nx en) (hb : Below w.heap.size w w') : PS w' P L nx en := by
  obtain ⟨ao, cap, h1, h2⟩ := h
  have hlt : P < w.heap.size := by
    rcases Nat.lt_or_ge P w.heap.size with h | h
    · exact h
    · rw [Array.getElem?_eq_none h] at h1; cases h1
  refine ⟨ao, cap, by rw [hb.block P hlt]; exact h1, ?_⟩
  rcases h2 with h2 | ⟨b, off, rfl, hne, hc⟩
  · exact .inl h2
  · exact .inr ⟨b, off, rfl, hne, fun i hi => ⟨cell_below hb (hc i hi).1, cell_below hb (hc i hi).2.1, cell_below hb (hc i hi).2.2⟩⟩
theorem PS.lt {w : World} {P : Nat} {L : List Tk.Tok} {nx : Nat} {en : Int} (h : PS w P L nx en) : P < w.heap.size := by
  obtain ⟨ao, cap, h1, h2⟩ := h
  rcases Nat.lt_or_ge P w.heap.size with h | h
  · exact h
  · rw [Array.getElem?_eq_none h] at h1; cases h1
/-- One token on. -/
theorem PS.next {w : World} {P : Nat} {L : List Tk.Tok} {nx : Nat} {en : Int} (h : PS w P L nx en) (m : Nat) : PS (w.setCell ⟨P, 1, none⟩ (.int .i64 m)) P L m en := by
  obtain ⟨ao, cap, h1, h2⟩ := h
  refine ⟨ao, cap, by simp [World.setCell, Array.getElem?_modify, h1], ?_⟩
  rcases h2 with h2 | ⟨b, off, rfl, hne, hc⟩
  · exact .inl h2
  · refine .inr ⟨b, off, rfl, hne, fun i hi => ?_⟩
    obtain ⟨c0, c1, c2⟩ := hc i hi
    have e : ∀ o, (w.setCell ⟨P, 1, none⟩ (.int .i64 m)).cell? ⟨b, o, none⟩ = w.cell? ⟨b, o, none⟩ := fun o =>
      World.cell?_of_block (a := ⟨b, o, none⟩) (Below.heap_setCell _ _ _ _ (show ¬ b = P by omega))
    exact ⟨(e _).trans c0, (e _).trans c1, (e _).trans c2⟩

/-- Tokens that a scan may answer: not too many, and numbers that are numbers. -/
def Fit (L : List Tk.Tok) : Prop := L.length ≤ 5000 ∧ ∀ t, t ∈ L → t.kind = 3 → t.text.length ≤ 18 ∧ ∃ n, Lib.atoi t.text = some n

/-- The parser stands before these tokens. -/
def At (w : World) (P : Nat) (L : List Tk.Tok) (en : Int) (r : List Tk.Tok) : Prop := ∃ nx, nx ≤ L.length ∧ L.drop nx = r ∧ Fit L ∧ PS w P L nx en
theorem At.below {w w' : World} {P : Nat} {L : List Tk.Tok} {en : Int} {r : List Tk.Tok} (h : At w P L en r) (hb : Below w.heap.size w w') : At w' P L en r := by
  obtain ⟨nx, h1, h2, hF, h3⟩ := h
  exact ⟨nx, h1, h2, hF, h3.below hb⟩
theorem At.lt {w : World} {P : Nat} {L : List Tk.Tok} {en : Int} {r : List Tk.Tok} (h : At w P L en r) : P < w.heap.size := by
  obtain ⟨nx, h1, h2, hF, h3⟩ := h
  exact h3.lt
/-- How far the parser is. -/
def nxOf (w : World) (P : Nat) : Nat := match w.cell? ⟨P, 1, none⟩ with | some (.int _ n) => n.toNat | _ => 0
theorem At.meas {w : World} {P : Nat} {L : List Tk.Tok} {en : Int} {r : List Tk.Tok} (h : At w P L en r) : L.length - nxOf w P = r.length ∧ r.length ≤ L.length ∧ L.length ≤ 5000 := by
  obtain ⟨nx, h1, rfl, hF, ao, cap, hbk, _⟩ := h
  have : w.cell? ⟨P, 1, none⟩ = some (.int .i64 nx) := by rw [Lib.cell_of_heap hbk]; rfl
  unfold nxOf
  rw [this]
  refine ⟨by simp, by simp, hF.1⟩
/-- What is done above the parser is not seen. -/
theorem At.keep2 {w w' : World} {P : Nat} {L : List Tk.Tok} {en : Int} {r : List Tk.Tok} (h : At w P L en r) (hk : ∀ k, (k = P ∨ k + 3 < P) → w'.heap[k]? = w.heap[k]?) : At w' P L en r := by
  obtain ⟨nx, h1, h2, hF, ao, cap, hbk, hT⟩ := h
  refine ⟨nx, h1, h2, hF, ao, cap, by rw [hk P (.inl rfl)]; exact hbk, ?_⟩
  rcases hT with h | ⟨b, off, rfl, hlt, hc⟩
  · exact .inl h
  · refine .inr ⟨b, off, rfl, hlt, fun i hi => ?_⟩
    have e : ∀ o, w'.cell? ⟨b, o, none⟩ = w.cell? ⟨b, o, none⟩ := fun o => World.cell?_of_block (a := ⟨b, o, none⟩) (hk b (.inr hlt))
    obtain ⟨c0, c1, c2⟩ := hc i hi
    exact ⟨(e _).trans c0, (e _).trans c1, (e _).trans c2⟩
theorem At.keep {w w' : World} {P : Nat} {L : List Tk.Tok} {en : Int} {r : List Tk.Tok} (h : At w P L en r) (hk : ∀ k, k ≤ P → w'.heap[k]? = w.heap[k]?) : At w' P L en r := h.keep2 fun k h => hk k (by omega)
theorem At.set {w : World} {P : Nat} {L : List Tk.Tok} {en : Int} {r : List Tk.Tok} (h : At w P L en r) {b : Nat} (hb : P < b) (o : Nat) (v : Value) : At (w.setCell ⟨b, o, none⟩ v) P L en r :=
  h.keep fun k hk => Below.heap_setCell _ _ _ _ (show ¬ k = b by omega)
/-- What a step reads and writes. -/
theorem At.step {w : World} {P : Nat} {L : List Tk.Tok} {en : Int} {r : List Tk.Tok} (h : At w P L en r) :
    ∃ nx : Nat, nx ≤ 5000 ∧ w.cell? ⟨P, 1, none⟩ = some (.int .i64 nx) ∧ w.frozen? ⟨P, 1, none⟩ = false ∧ (¬ r = [] → At (w.setCell ⟨P, 1, none⟩ (.int .i64 ((nx : Int) + 1))) P L en r.tail) := by
  obtain ⟨nx, h1, rfl, hF, h3⟩ := h
  have h3' := h3
  obtain ⟨ao, cap, hbk, _⟩ := h3'
  refine ⟨nx, Nat.le_trans h1 hF.1, by rw [Lib.cell_of_heap hbk]; rfl, by simp [World.frozen?, hbk], fun hr => ?_⟩
  have hlt : nx < L.length := by
    rcases Nat.lt_or_ge nx L.length with h | h
    · exact h
    · exact absurd (List.drop_of_length_le h) hr
  exact ⟨nx + 1, hlt, by rw [List.tail_drop], hF, h3.next (nx + 1)⟩
theorem At.num {w : World} {P : Nat} {L : List Tk.Tok} {en : Int} {r : List Tk.Tok} (h : At w P L en r) (hk : ((Pr.hd en r).kind == 3) = true) :
    (Pr.hd en r).text.length ≤ 18 ∧ Lib.atoi (Pr.hd en r).text = some (Pr.num (Pr.hd en r).text) := by
  obtain ⟨nx, h1, h2, hF, h3⟩ := h
  cases r with
  | nil => exact absurd (show ((0 : Int) == 3) = true from hk) (by decide)
  | cons t r =>
    have hm : t ∈ L := List.mem_of_mem_drop (i := nx) (by rw [h2]; exact List.mem_cons_self)
    obtain ⟨h4, n, h5⟩ := hF.2 t hm (by simpa [Pr.hd] using hk)
    refine ⟨h4, ?_⟩
    show Lib.atoi t.text = some (Pr.num t.text)
    unfold Pr.num
    rw [h5]; rfl

theorem grownBy_of_below {w w' : World} (h : Below w.heap.size w w') (row : Option Nat) : w.grownBy w' row :=
  ⟨h.os, h.tape, h.output, h.size, fun k hk _ => h.block k hk⟩
theorem grownBy_trans {a b c : World} {row : Option Nat} (h : a.grownBy b row) (k : b.grownBy c row) : a.grownBy c row :=
  ⟨k.os.trans h.os, k.tape.trans h.tape, k.output.trans h.output, Nat.le_trans h.size k.size, fun i hi hne => (k.block i (Nat.lt_of_lt_of_le hi h.size) hne).trans (h.block i hi hne)⟩
theorem grownBy_set {w : World} {P : Nat} (o : Nat) (v : Value) : w.grownBy (w.setCell ⟨P, o, none⟩ v) (some P) :=
  ⟨rfl, rfl, rfl, by simp [World.setCell], fun k _ hk => Below.heap_setCell _ _ _ _ (fun e => hk (by rw [e]))⟩
/-- What is set in a block that is new. -/
theorem grownBy_new {w w' : World} {row : Option Nat} {b : Nat} (h : w.grownBy w' row) (hb : w.heap.size ≤ b) (o : Nat) (v : Value) : w.grownBy (w'.setCell ⟨b, o, none⟩ v) row :=
  ⟨h.os, h.tape, h.output, by simpa [World.setCell] using h.size, fun k hk hne => (Below.heap_setCell _ _ _ _ (show ¬ k = b by omega)).trans (h.block k hk hne)⟩
theorem grownBy_cell {w w' : World} {P b o : Nat} {v : Value} (h : w.grownBy w' (some P)) (hne : ¬ b = P) (hc : w.cell? ⟨b, o, none⟩ = some v) : w'.cell? ⟨b, o, none⟩ = some v :=
  (World.cell?_of_block (a := ⟨b, o, none⟩) (h.block b (World.block_lt_of_cell? w _ hc) (by simpa using hne))).trans hc
theorem grownBy_frozen {w w' : World} {P b o : Nat} (h : w.grownBy w' (some P)) (hne : ¬ b = P) (hlt : b < w.heap.size) : w'.frozen? ⟨b, o, none⟩ = w.frozen? ⟨b, o, none⟩ := by
  have := h.block b hlt (by simpa using hne)
  simp [World.frozen?, this]
theorem grownBy_drewN {a b : World} {row : Option Nat} (h : a.grownBy b row) (n : Nat) : a.grownBy (b.drewN n) row := ⟨h.os, h.tape, h.output, h.size, h.block⟩

theorem below_drewN {B : Nat} {a w : World} (h : Below B a w) (n : Nat) : Below B a (w.drewN n) := ⟨h.os, h.tape, h.output, h.size, h.block⟩
theorem below_fresh {w : World} (o : Obj) (n : Nat) (a b c : Value) : Below w.heap.size w ((((((w.alloc o).drewN n).setCell ⟨w.heap.size, 0, none⟩ a)).setCell ⟨w.heap.size, 1, none⟩ b).setCell ⟨w.heap.size, 2, none⟩ c) :=
  (((below_drewN ((Below.refl _ _).alloc (Nat.le_refl _) _) n).setCell (p := ⟨w.heap.size, 0, none⟩) (Nat.le_refl _) _).setCell (p := ⟨w.heap.size, 1, none⟩) (Nat.le_refl _) _).setCell (p := ⟨w.heap.size, 2, none⟩) (Nat.le_refl _) _
abbrev gaveP (a : Int) : Ending := .panicked [{ v := .iface 65 (.int .i64 a), recovered := false }]

theorem hd_drop (L : List Tk.Tok) (en : Int) (nx : Nat) : Pr.hd en (L.drop nx) = if nx < L.length then tokD L nx else ⟨0, en, []⟩ := by
  by_cases h : nx < L.length
  · rw [if_pos h, drop_tok L nx h]; rfl
  · rw [if_neg h, List.drop_of_length_le (by omega)]; rfl

set_option maxRecDepth 100000 in
set_option maxHeartbeats 1000000 in
theorem peek_any (P : Nat) (L : List Tk.Tok) (en : Int) (r : List Tk.Tok) (w : World) (hA : At w P L en r) :
    Calls Tryd.prog 31 #[.pointer (some ⟨P, 0, none⟩)] w fun e w' => e = .returned (.agg #[.int .i64 (Pr.hd en r).kind, .int .i64 (Pr.hd en r).at_, .string ⟨(Pr.hd en r).text.toArray⟩]) ∧ Below w.heap.size w w' := by
  obtain ⟨nx, hnx, rfl, hF, hP⟩ := hA
  clear hF
  have hlt0 := hP.lt
  obtain ⟨ao, cap, hbk, hT⟩ := hP
  have q0 : w.cell? ⟨P, 0, none⟩ = some (.slice ao L.length cap) := by rw [Lib.cell_of_heap hbk]; rfl
  have q1 : w.cell? ⟨P, 1, none⟩ = some (.int .i64 nx) := by rw [Lib.cell_of_heap hbk]; rfl
  have q2 : w.cell? ⟨P, 2, none⟩ = some (.int .i64 en) := by rw [Lib.cell_of_heap hbk]; rfl
  rw [hd_drop]
  by_cases hlt : nx < L.length
  · rw [if_pos hlt]
    rcases hT with h | ⟨b, off, rfl, hne, hc⟩
    · rw [h] at hlt; exact absurd hlt (by simp)
    obtain ⟨a0, a1, a2⟩ := hc nx hlt
    have hbw : b < w.heap.size := World.block_lt_of_cell? w _ a0
    generalize tokD L nx = t at *
    clear hc hbk
    go_enter Tryd.func31, Tryd.ntmps31
    go_wp2_with fail
    go_quiet (fail)
    go_wp2_with fail
    go_region
    go_wp2
    exact bodyPost_ret (v := tokVal t) (by simp [results, Tryd.results31, go_sem]) rfl ⟨rfl, below_fresh _ _ _ _ _⟩
  · rw [if_neg hlt]
    have hd : decide ((nx : Int) < (L.length : Int)) = false := decide_eq_false (by omega)
    clear hT hbk
    go_enter Tryd.func31, Tryd.ntmps31
    go_wp2_with fail
    go_quiet (fail)
    go_wp2_with fail
    exact bodyPost_ret (v := tokVal ⟨0, en, []⟩) (by simp [results, Tryd.results31, go_sem]) rfl ⟨rfl, below_fresh _ _ _ _ _⟩

end Go.Proofs.YtjbfbbhaagkagaaDoor

/- The shelf of the parser (strconv.Atoi) lies with the rest. -/


/- The parser's small steps. -/
namespace Go.Proofs.YtjbfbbhaagkagaaDoor
open Go.RowKit

theorem fld0 (a b c : Value) (w : World) : (Instr.field 44 (.agg #[a, b, c]) 0).run Tryd.prog w = .ok a w := by kernel_rfl
theorem fld1 (a b c : Value) (w : World) : (Instr.field 44 (.agg #[a, b, c]) 1).run Tryd.prog w = .ok b w := by kernel_rfl
theorem fld2 (a b c : Value) (w : World) : (Instr.field 44 (.agg #[a, b, c]) 2).run Tryd.prog w = .ok c w := by kernel_rfl

set_option maxRecDepth 100000 in
set_option maxHeartbeats 400000 in
theorem giveUp_any (P : Nat) (L : List Tk.Tok) (en : Int) (r : List Tk.Tok) (w : World) (hA : At w P L en r) :
    Calls Tryd.prog 51 #[.pointer (some ⟨P, 0, none⟩)] w fun e w' => e = gaveP (Pr.hd en r).at_ ∧ Below w.heap.size w w' := by
  go_enter Tryd.func51, Tryd.ntmps51
  go_wp2_with fail
  refine (peek_any P L en r _ hA).mono ?_
  rintro e w1 ⟨rfl, hb⟩
  go_wp2_with fail
  simp only [fld1]
  go_wp2
  exact ⟨rfl, rfl, hb⟩

set_option maxRecDepth 100000 in
set_option maxHeartbeats 400000 in
theorem take_no (t : List UInt8) (P : Nat) (L : List Tk.Tok) (en : Int) (r : List Tk.Tok) (w : World) (hA : At w P L en r) (h : Pr.isText en r t = false) :
    Calls Tryd.prog 34 #[.pointer (some ⟨P, 0, none⟩), .string ⟨t.toArray⟩] w fun e w' => e = .returned (.bool false) ∧ Below w.heap.size w w' := by
  unfold Pr.isText at h
  go_enter Tryd.func34, Tryd.ntmps34
  go_wp2_with fail
  refine (peek_any P L en r _ hA).mono ?_
  generalize Pr.hd en r = x at *
  rintro e w1 ⟨rfl, hb⟩
  have h' : (x.text != t) = true := by simp [bne, h]
  go_wp2_with fail
  simp only [fld2]
  go_wp2
  go_ret
  exact ⟨rfl, hb⟩

theorem hd_ne {en : Int} {r : List Tk.Tok} {t : List UInt8} (ht : ¬ t = []) (h : Pr.isText en r t = true) : ¬ r = [] := by
  rintro rfl
  exact ht (eq_of_beq h).symm

set_option maxRecDepth 100000 in
set_option maxHeartbeats 400000 in
theorem take_yes (t : List UInt8) (P : Nat) (L : List Tk.Tok) (en : Int) (r : List Tk.Tok) (w : World) (hA : At w P L en r) (ht : ¬ t = []) (h : Pr.isText en r t = true) :
    Calls Tryd.prog 34 #[.pointer (some ⟨P, 0, none⟩), .string ⟨t.toArray⟩] w fun e w' => e = .returned (.bool true) ∧ w.grownBy w' (some P) ∧ At w' P L en r.tail := by
  have hr := hd_ne ht h
  unfold Pr.isText at h
  go_enter Tryd.func34, Tryd.ntmps34
  go_wp2_with fail
  refine (peek_any P L en r _ hA).mono ?_
  generalize Pr.hd en r = x at *
  rintro e w1 ⟨rfl, hb⟩
  have h' : (x.text != t) = false := by simp [bne, h]
  obtain ⟨nx, hnx, q1, qf, hst⟩ := (hA.below hb).step
  have hst := hst hr
  go_wp2_with fail
  simp only [fld2]
  go_wp2
  go_ret
  exact ⟨rfl, grownBy_trans (grownBy_of_below hb _) (grownBy_set _ _), hst⟩

theorem ground {w w' w1 : World} {P : Nat} (h : w.grownBy w1 (some P)) (hb : Below w1.heap.size w1 w') : w.grownBy w' (some P) := grownBy_trans h (grownBy_of_below hb _)

set_option maxRecDepth 100000 in
set_option maxHeartbeats 400000 in
theorem must_no (t : List UInt8) (P : Nat) (L : List Tk.Tok) (en : Int) (r : List Tk.Tok) (w : World) (hA : At w P L en r) (h : Pr.isText en r t = false) :
    Calls Tryd.prog 35 #[.pointer (some ⟨P, 0, none⟩), .string ⟨t.toArray⟩] w fun e w' => e = gaveP (Pr.hd en r).at_ ∧ Below w.heap.size w w' := by
  go_enter Tryd.func35, Tryd.ntmps35
  go_wp2_with fail
  refine (take_no t P L en r _ hA h).mono ?_
  rintro e w1 ⟨rfl, hb⟩
  go_wp2_with fail
  refine (giveUp_any P L en r _ (hA.below hb)).mono ?_
  rintro e w2 ⟨rfl, hb2⟩
  exact ⟨rfl, rfl, hb.trans (hb2.mono hb.size)⟩

set_option maxRecDepth 100000 in
set_option maxHeartbeats 400000 in
theorem must_yes (t : List UInt8) (P : Nat) (L : List Tk.Tok) (en : Int) (r : List Tk.Tok) (w : World) (hA : At w P L en r) (ht : ¬ t = []) (h : Pr.isText en r t = true) :
    Calls Tryd.prog 35 #[.pointer (some ⟨P, 0, none⟩), .string ⟨t.toArray⟩] w fun e w' => e = .returned (.tuple #[]) ∧ w.grownBy w' (some P) ∧ At w' P L en r.tail := by
  go_enter Tryd.func35, Tryd.ntmps35
  go_wp2_with fail
  refine (take_yes t P L en r _ hA ht h).mono ?_
  rintro e w1 ⟨rfl, hg, hA1⟩
  go_wp2
  exact ⟨rfl, .tuple #[], by simp [results, Tryd.results35], rfl, hg, hA1⟩

set_option maxRecDepth 100000 in
set_option maxHeartbeats 400000 in
theorem fold_no (P : Nat) (L : List Tk.Tok) (en : Int) (r : List Tk.Tok) (w : World) (hA : At w P L en r) (h : Tr.foldOf (Pr.hd en r).text = 0) :
    Calls Tryd.prog 52 #[.pointer (some ⟨P, 0, none⟩)] w fun e w' => e = .returned (.int .i64 0) ∧ Below w.heap.size w w' := by
  go_enter Tryd.func52, Tryd.ntmps52
  go_wp2_with fail
  refine (peek_any P L en r _ hA).mono ?_
  rintro e w1 ⟨rfl, hb⟩
  go_wp2_with fail
  simp only [fld2]
  go_wp2_with fail
  refine (foldOf_any _ _).mono ?_
  rintro e w2 ⟨rfl, rfl⟩
  rw [h]
  go_wp2
  go_ret
  exact ⟨rfl, hb⟩

theorem foldOf_nil : Tr.foldOf [] = 0 := rfl
theorem opOf_nil : Pr.opOf [] = 0 := rfl

set_option maxRecDepth 100000 in
set_option maxHeartbeats 400000 in
theorem fold_yes (P : Nat) (L : List Tk.Tok) (en : Int) (r : List Tk.Tok) (w : World) (hA : At w P L en r) (h : ¬ Tr.foldOf (Pr.hd en r).text = 0) :
    Calls Tryd.prog 52 #[.pointer (some ⟨P, 0, none⟩)] w fun e w' => e = .returned (.int .i64 (Tr.foldOf (Pr.hd en r).text)) ∧ w.grownBy w' (some P) ∧ At w' P L en r.tail := by
  have hr : ¬ r = [] := by rintro rfl; exact h rfl
  generalize hf : Tr.foldOf (Pr.hd en r).text = f at h ⊢
  go_enter Tryd.func52, Tryd.ntmps52
  go_wp2_with fail
  refine (peek_any P L en r _ hA).mono ?_
  rintro e w1 ⟨rfl, hb⟩
  go_wp2_with fail
  simp only [fld2]
  go_wp2_with fail
  refine (foldOf_any _ _).mono ?_
  rintro e w2 ⟨rfl, rfl⟩
  rw [hf]
  obtain ⟨nx, hnx, q1, qf, hst⟩ := (hA.below hb).step
  have hst := hst hr
  go_wp2
  go_ret
  exact ⟨rfl, grownBy_trans (grownBy_of_below hb _) (grownBy_set _ _), hst⟩

set_option maxRecDepth 100000 in
set_option maxHeartbeats 400000 in
theorem opOf_any (s : List UInt8) (w : World) : Calls Tryd.prog 65 #[.string ⟨s.toArray⟩] w fun e w' => e = .returned (.int .i64 (Pr.opOf s)) ∧ w' = w := by
  unfold Pr.opOf
  cases h1 : (s == [60])
  · cases h2 : (s == [60, 61])
    · cases h3 : (s == [61])
      · cases h4 : (s == [33, 61])
        · cases h5 : (s == [43])
          · cases h6 : (s == [45])
            · cases h7 : (s == [42])
              all_goals (go_enter Tryd.func65, Tryd.ntmps65; go_wp2; go_ret; exact ⟨rfl, rfl⟩)
            · go_enter Tryd.func65, Tryd.ntmps65
              go_wp2
              go_ret
              exact ⟨rfl, rfl⟩
          · go_enter Tryd.func65, Tryd.ntmps65
            go_wp2
            go_ret
            exact ⟨rfl, rfl⟩
        · go_enter Tryd.func65, Tryd.ntmps65
          go_wp2
          go_ret
          exact ⟨rfl, rfl⟩
      · go_enter Tryd.func65, Tryd.ntmps65
        go_wp2
        go_ret
        exact ⟨rfl, rfl⟩
    · go_enter Tryd.func65, Tryd.ntmps65
      go_wp2
      go_ret
      exact ⟨rfl, rfl⟩
  · go_enter Tryd.func65, Tryd.ntmps65
    go_wp2
    go_ret
    exact ⟨rfl, rfl⟩

set_option maxRecDepth 100000 in
set_option maxHeartbeats 400000 in
theorem op_no (P : Nat) (L : List Tk.Tok) (en : Int) (r : List Tk.Tok) (w : World) (hA : At w P L en r) (h : Pr.opOf (Pr.hd en r).text = 0) :
    Calls Tryd.prog 60 #[.pointer (some ⟨P, 0, none⟩)] w fun e w' => e = gaveP (Pr.hd en r).at_ ∧ Below w.heap.size w w' := by
  go_enter Tryd.func60, Tryd.ntmps60
  go_wp2_with fail
  refine (peek_any P L en r _ hA).mono ?_
  rintro e w1 ⟨rfl, hb⟩
  go_wp2_with fail
  simp only [fld2]
  go_wp2_with fail
  refine (opOf_any _ _).mono ?_
  rintro e w2 ⟨rfl, rfl⟩
  rw [h]
  go_wp2_with fail
  refine (giveUp_any P L en r _ (hA.below hb)).mono ?_
  rintro e w2 ⟨rfl, hb2⟩
  exact ⟨rfl, rfl, hb.trans (hb2.mono hb.size)⟩

set_option maxRecDepth 100000 in
set_option maxHeartbeats 400000 in
theorem op_yes (P : Nat) (L : List Tk.Tok) (en : Int) (r : List Tk.Tok) (w : World) (hA : At w P L en r) (h : ¬ Pr.opOf (Pr.hd en r).text = 0) :
    Calls Tryd.prog 60 #[.pointer (some ⟨P, 0, none⟩)] w fun e w' => e = .returned (.int .i64 (Pr.opOf (Pr.hd en r).text)) ∧ w.grownBy w' (some P) ∧ At w' P L en r.tail := by
  have hr : ¬ r = [] := by rintro rfl; exact h rfl
  generalize hf : Pr.opOf (Pr.hd en r).text = f at h ⊢
  go_enter Tryd.func60, Tryd.ntmps60
  go_wp2_with fail
  refine (peek_any P L en r _ hA).mono ?_
  rintro e w1 ⟨rfl, hb⟩
  go_wp2_with fail
  simp only [fld2]
  go_wp2_with fail
  refine (opOf_any _ _).mono ?_
  rintro e w2 ⟨rfl, rfl⟩
  rw [hf]
  obtain ⟨nx, hnx, q1, qf, hst⟩ := (hA.below hb).step
  have hst := hst hr
  go_wp2
  go_ret
  exact ⟨rfl, grownBy_trans (grownBy_of_below hb _) (grownBy_set _ _), hst⟩

end Go.Proofs.YtjbfbbhaagkagaaDoor

/- The parser's names, numbers and terms. -/
namespace Go.Proofs.YtjbfbbhaagkagaaDoor
open Go.RowKit

/-- A token that is laid aside. -/
abbrev putTok (w : World) (x : Tk.Tok) : World := w.alloc (.cells #[.int .i64 x.kind, .int .i64 x.at_, .string ⟨x.text.toArray⟩] 44)
theorem below_put {w w1 : World} (hb : Below w.heap.size w w1) (x : Tk.Tok) : Below w.heap.size w (putTok w1 x) := hb.alloc hb.size _
/-- Behind a step, with a token laid aside. -/
theorem went_set {w w1 : World} {P : Nat} {L : List Tk.Tok} {en : Int} {r : List Tk.Tok} {v : Value} (hb : Below w.heap.size w w1) (h : At (w1.setCell ⟨P, 1, none⟩ v) P L en r) (o : Obj) :
    w.grownBy ((w1.setCell ⟨P, 1, none⟩ v).alloc o) (some P) ∧ At ((w1.setCell ⟨P, 1, none⟩ v).alloc o) P L en r :=
  ⟨grownBy_trans (grownBy_of_below hb _) (grownBy_trans (grownBy_set _ _) (grownBy_of_below ((Below.refl _ _).alloc (Nat.le_refl _) _) _)), h.below ((Below.refl _ _).alloc (Nat.le_refl _) _)⟩

set_option maxRecDepth 100000 in
set_option maxHeartbeats 400000 in
theorem name_no (P : Nat) (L : List Tk.Tok) (en : Int) (r : List Tk.Tok) (w : World) (hA : At w P L en r) (h : (((Pr.hd en r).kind == 1) && !Tr.isWord (Pr.hd en r).text) = false) :
    Calls Tryd.prog 32 #[.pointer (some ⟨P, 0, none⟩)] w fun e w' => e = gaveP (Pr.hd en r).at_ ∧ Below w.heap.size w w' := by
  have hG : Hid (∀ w1, Below w.heap.size w w1 → Calls Tryd.prog 51 #[.pointer (some ⟨P, 0, none⟩)] w1 fun e w' => e = gaveP (Pr.hd en r).at_ ∧ Below w.heap.size w w') :=
    (fun w1 hb => (giveUp_any P L en r w1 (hA.below hb)).mono (by rintro e w2 ⟨rfl, hb2⟩; exact ⟨rfl, hb.trans (hb2.mono hb.size)⟩))
  have hpk := peek_any P L en r w hA
  generalize Pr.hd en r = x at *
  cases hk : (x.kind == 1)
  · have hk' : (x.kind != 1) = true := by simp [bne, hk]
    go_enter Tryd.func32, Tryd.ntmps32
    go_wp2_with fail
    refine hpk.mono ?_
    rintro e w1 ⟨rfl, hb⟩
    have hlt := Nat.lt_of_lt_of_le hA.lt hb.size
    go_wp2_with fail
    refine Calls.mono (hG.out _ (below_put hb x)) ?_
    rintro e w2 ⟨rfl, hb2⟩
    exact ⟨rfl, rfl, hb2⟩
  · have hw : Tr.isWord x.text = true := by simpa [hk] using h
    have hk' : (x.kind != 1) = false := by simp [bne, hk]
    go_enter Tryd.func32, Tryd.ntmps32
    go_wp2_with fail
    refine hpk.mono ?_
    rintro e w1 ⟨rfl, hb⟩
    have hlt := Nat.lt_of_lt_of_le hA.lt hb.size
    go_wp2_with fail
    refine (isWord_any _ _).mono ?_
    rintro e w2 ⟨rfl, rfl⟩
    rw [hw]
    go_wp2_with fail
    refine Calls.mono (hG.out _ (below_put hb x)) ?_
    rintro e w2 ⟨rfl, hb2⟩
    exact ⟨rfl, rfl, hb2⟩

set_option maxRecDepth 100000 in
set_option maxHeartbeats 400000 in
theorem name_yes (P : Nat) (L : List Tk.Tok) (en : Int) (r : List Tk.Tok) (w : World) (hA : At w P L en r) (h : (((Pr.hd en r).kind == 1) && !Tr.isWord (Pr.hd en r).text) = true) :
    Calls Tryd.prog 32 #[.pointer (some ⟨P, 0, none⟩)] w fun e w' => e = .returned (.string ⟨(Pr.hd en r).text.toArray⟩) ∧ w.grownBy w' (some P) ∧ At w' P L en r.tail := by
  have hr : ¬ r = [] := by rintro rfl; exact absurd h (by simp [Pr.hd])
  have hpk := peek_any P L en r w hA
  generalize Pr.hd en r = x at *
  have hk : (x.kind == 1) = true := by revert h; cases (x.kind == 1) <;> simp
  have hw : Tr.isWord x.text = false := by simpa [hk] using h
  have hk' : (x.kind != 1) = false := by simp [bne, hk]
  go_enter Tryd.func32, Tryd.ntmps32
  go_wp2_with fail
  refine hpk.mono ?_
  rintro e w1 ⟨rfl, hb⟩
  have hlt := Nat.lt_of_lt_of_le hA.lt hb.size
  go_wp2_with fail
  refine (isWord_any _ _).mono ?_
  rintro e w2 ⟨rfl, rfl⟩
  rw [hw]
  obtain ⟨nx, hnx, q1, qf, hst⟩ := (hA.below hb).step
  have hst := hst hr
  clear h hA hpk
  have hne : ¬ w1.heap.size = P := by omega
  have hne' : ¬ P = w1.heap.size := by omega
  go_wp2
  go_ret
  exact ⟨rfl, went_set hb hst _⟩

set_option maxRecDepth 100000 in
set_option maxHeartbeats 400000 in
theorem num_no (P : Nat) (L : List Tk.Tok) (en : Int) (r : List Tk.Tok) (w : World) (hA : At w P L en r) (h : ((Pr.hd en r).kind == 3) = false) :
    Calls Tryd.prog 59 #[.pointer (some ⟨P, 0, none⟩)] w fun e w' => e = gaveP (Pr.hd en r).at_ ∧ Below w.heap.size w w' := by
  have hG : Hid (∀ w1, Below w.heap.size w w1 → Calls Tryd.prog 51 #[.pointer (some ⟨P, 0, none⟩)] w1 fun e w' => e = gaveP (Pr.hd en r).at_ ∧ Below w.heap.size w w') :=
    (fun w1 hb => (giveUp_any P L en r w1 (hA.below hb)).mono (by rintro e w2 ⟨rfl, hb2⟩; exact ⟨rfl, hb.trans (hb2.mono hb.size)⟩))
  have hpk := peek_any P L en r w hA
  generalize Pr.hd en r = x at *
  have hk' : (x.kind != 3) = true := by simp [bne, h]
  go_enter Tryd.func59, Tryd.ntmps59
  go_wp2_with fail
  refine hpk.mono ?_
  rintro e w1 ⟨rfl, hb⟩
  have hlt := Nat.lt_of_lt_of_le hA.lt hb.size
  go_wp2_with fail
  refine Calls.mono (hG.out _ (below_put hb x)) ?_
  rintro e w2 ⟨rfl, hb2⟩
  exact ⟨rfl, rfl, hb2⟩

theorem below_bytes (w : World) (t : ByteArray) : Below w.heap.size w (Lib.bytesWorld w 5 t) :=
  ⟨rfl, rfl, rfl, by rw [Lib.bytesWorld_size]; omega, fun k hk => Lib.bytesWorld_at_old w 5 t k hk⟩

set_option maxRecDepth 100000 in
set_option maxHeartbeats 400000 in
theorem num_yes (P : Nat) (L : List Tk.Tok) (en : Int) (r : List Tk.Tok) (w : World) (hA : At w P L en r) (h : ((Pr.hd en r).kind == 3) = true) :
    Calls Tryd.prog 59 #[.pointer (some ⟨P, 0, none⟩)] w fun e w' => e = .returned (.int .i64 (Pr.num (Pr.hd en r).text)) ∧ w.grownBy w' (some P) ∧ At w' P L en r.tail := by
  have hr : ¬ r = [] := by rintro rfl; exact absurd (show ((0 : Int) == 3) = true from h) (by decide)
  obtain ⟨hl, hn⟩ := hA.num h
  have hpk := peek_any P L en r w hA
  generalize Pr.hd en r = x at *
  have hk' : (x.kind != 3) = false := by simp [bne, h]
  go_enter Tryd.func59, Tryd.ntmps59
  go_wp2_with fail
  refine hpk.mono ?_
  rintro e w1 ⟨rfl, hb⟩
  have hlt := Nat.lt_of_lt_of_le hA.lt hb.size
  obtain ⟨nx, hnx, q1, qf, hst⟩ := (hA.below hb).step
  have hst := hst hr
  clear h hA hpk
  have hne : ¬ w1.heap.size = P := by omega
  have hne' : ¬ P = w1.heap.size := by omega
  go_wp2_with fail
  refine (Tryd.strconv_Atoi _ (Pr.num x.text) ?_ ?_ _).mono ?_
  · simpa [ByteArray.size] using hl
  · simpa using hn
  rintro e w2 ⟨rfl, t, rfl⟩
  go_wp2
  go_ret
  have hq := went_set hb hst (.cells #[.int .i64 x.kind, .int .i64 x.at_, .string ⟨x.text.toArray⟩] 44)
  exact ⟨rfl, ground hq.1 (below_bytes _ _), hq.2.below (below_bytes _ _)⟩

end Go.Proofs.YtjbfbbhaagkagaaDoor

/- The parser's terms. -/
namespace Go.Proofs.YtjbfbbhaagkagaaDoor
open Go.RowKit

theorem peekAt (P : Nat) (L : List Tk.Tok) (en : Int) (r : List Tk.Tok) (w : World) (hA : At w P L en r) : ∀ w1, Below w.heap.size w w1 →
    Calls Tryd.prog 31 #[.pointer (some ⟨P, 0, none⟩)] w1 fun e w' => e = .returned (.agg #[.int .i64 (Pr.hd en r).kind, .int .i64 (Pr.hd en r).at_, .string ⟨(Pr.hd en r).text.toArray⟩]) ∧ Below w1.heap.size w1 w' := fun w1 hb => peek_any P L en r w1 (hA.below hb)

abbrev termObj : Obj := .cells #[.string { data := #[] }, .int .i64 0] 76
theorem fresh2 {w w1 : World} (hb : Below (w.alloc termObj).heap.size (w.alloc termObj) w1) :
    w1.cell? ⟨w.heap.size, 0, none⟩ = some (.string { data := #[] }) ∧ w1.cell? ⟨w.heap.size, 1, none⟩ = some (.int .i64 0) ∧ w1.frozen? ⟨w.heap.size, 0, none⟩ = false ∧ w1.frozen? ⟨w.heap.size, 1, none⟩ = false ∧ Below w.heap.size w w1 ∧ w.heap.size < w1.heap.size := by
  obtain ⟨hc, hf⟩ := bcell hb
  have h : w.heap.size < (w.alloc termObj).heap.size := by simp
  refine ⟨?_, ?_, ?_, ?_, ((Below.refl _ _).alloc (Nat.le_refl _) _).trans (hb.mono (by simp)), Nat.lt_of_lt_of_le h hb.size⟩
  · rw [hc _ _ h]; simp [go_sem]
  · rw [hc _ _ h]; simp [go_sem]
  · rw [hf _ _ h]; simp [go_sem]
  · rw [hf _ _ h]; simp [go_sem]

/-- The parser went on, and nothing else that was there has changed. -/
abbrev Went (w w' : World) (P : Nat) (L : List Tk.Tok) (en : Int) (r : List Tk.Tok) : Prop := w.grownBy w' (some P) ∧ At w' P L en r
theorem Went.set {w w' : World} {P : Nat} {L : List Tk.Tok} {en : Int} {r : List Tk.Tok} (h : Went w w' P L en r) (hP : P < w.heap.size) {b : Nat} (hb : w.heap.size ≤ b) (o : Nat) (v : Value) : Went w (w'.setCell ⟨b, o, none⟩ v) P L en r :=
  ⟨grownBy_new h.1 hb o v, h.2.set (Nat.lt_of_lt_of_le hP hb) o v⟩
theorem Went.below {w w1 w' : World} {P : Nat} {L : List Tk.Tok} {en : Int} {r : List Tk.Tok} (h : Went w w1 P L en r) (hb : Below w1.heap.size w1 w') : Went w w' P L en r := ⟨ground h.1 hb, h.2.below hb⟩
theorem Went.alloc {w w' : World} {P : Nat} {L : List Tk.Tok} {en : Int} {r : List Tk.Tok} (h : Went w w' P L en r) (o : Obj) : Went w (w'.alloc o) P L en r := h.below ((Below.refl _ _).alloc (Nat.le_refl _) _)
theorem Went.behind {w w1 w' : World} {P : Nat} {L : List Tk.Tok} {en : Int} {r : List Tk.Tok} (hb : Below w.heap.size w w1) (h : Went w1 w' P L en r) : Went w w' P L en r := ⟨grownBy_trans (grownBy_of_below hb _) h.1, h.2⟩
theorem Went.trans {w w1 w' : World} {P : Nat} {L : List Tk.Tok} {en : Int} {r r1 : List Tk.Tok} (h1 : Went w w1 P L en r1) (h : Went w1 w' P L en r) : Went w w' P L en r := ⟨grownBy_trans h1.1 h.1, h.2⟩
theorem Went.step {w w1 : World} {P : Nat} {L : List Tk.Tok} {en : Int} {r : List Tk.Tok} {v : Value} (hb : Below w.heap.size w w1) (h : At (w1.setCell ⟨P, 1, none⟩ v) P L en r) : Went w (w1.setCell ⟨P, 1, none⟩ v) P L en r := ⟨grownBy_trans (grownBy_of_below hb _) (grownBy_set _ _), h⟩

/-- The block of a result, behind calls that went on. -/
theorem kept2 {w w1 w2 : World} {P : Nat} (hP : P < w.heap.size) (hg : w1.grownBy w2 (some P)) (hs : w.heap.size < w1.heap.size) {u v : Value} (c0 : w1.cell? ⟨w.heap.size, 0, none⟩ = some u) (c1 : w1.cell? ⟨w.heap.size, 1, none⟩ = some v)
    (f0 : w1.frozen? ⟨w.heap.size, 0, none⟩ = false) (f1 : w1.frozen? ⟨w.heap.size, 1, none⟩ = false) :
    w2.cell? ⟨w.heap.size, 0, none⟩ = some u ∧ w2.cell? ⟨w.heap.size, 1, none⟩ = some v ∧ w2.frozen? ⟨w.heap.size, 0, none⟩ = false ∧ w2.frozen? ⟨w.heap.size, 1, none⟩ = false ∧ w.heap.size < w2.heap.size := by
  have hne : ¬ w.heap.size = P := by omega
  exact ⟨grownBy_cell hg hne c0, grownBy_cell hg hne c1, (grownBy_frozen hg hne hs).trans f0, (grownBy_frozen hg hne hs).trans f1, Nat.lt_of_lt_of_le hs hg.size⟩
theorem kept2b {w w1 w2 : World} (hb : Below w1.heap.size w1 w2) (hs : w.heap.size < w1.heap.size) {u v : Value} (c0 : w1.cell? ⟨w.heap.size, 0, none⟩ = some u) (c1 : w1.cell? ⟨w.heap.size, 1, none⟩ = some v)
    (f0 : w1.frozen? ⟨w.heap.size, 0, none⟩ = false) (f1 : w1.frozen? ⟨w.heap.size, 1, none⟩ = false) :
    w2.cell? ⟨w.heap.size, 0, none⟩ = some u ∧ w2.cell? ⟨w.heap.size, 1, none⟩ = some v ∧ w2.frozen? ⟨w.heap.size, 0, none⟩ = false ∧ w2.frozen? ⟨w.heap.size, 1, none⟩ = false ∧ w.heap.size < w2.heap.size := by
  obtain ⟨hc, hf⟩ := bcell hb
  exact ⟨(hc _ _ hs).trans c0, (hc _ _ hs).trans c1, (hf _ _ hs).trans f0, (hf _ _ hs).trans f1, Nat.lt_of_lt_of_le hs hb.size⟩

set_option maxRecDepth 100000 in
set_option maxHeartbeats 400000 in
theorem term_var (P : Nat) (L : List Tk.Tok) (en : Int) (r : List Tk.Tok) (w : World) (hA : At w P L en r) (h : ((Pr.hd en r).kind == 2) = true) :
    Calls Tryd.prog 53 #[.pointer (some ⟨P, 0, none⟩)] w fun e w' => e = .returned (termVal ⟨(Pr.hd en r).text, 0⟩) ∧ w.grownBy w' (some P) ∧ At w' P L en r.tail := by
  have hr : ¬ r = [] := by rintro rfl; exact absurd (show ((0 : Int) == 2) = true from h) (by decide)
  have hpk : Hid _ := peekAt P L en r w hA
  generalize Pr.hd en r = x at *
  have hlt := hA.lt
  go_enter Tryd.func53, Tryd.ntmps53
  go_wp2_with fail
  refine Calls.mono (hpk.out _ ((Below.refl _ _).alloc (Nat.le_refl _) _)) ?_
  rintro e w1 ⟨rfl, hb0⟩
  obtain ⟨c0, c1, f0, f1, hb, hsz⟩ := fresh2 hb0
  obtain ⟨nx, hnx, q1, qf, hst⟩ := (hA.below hb).step
  have hst := hst hr
  clear hb0
  have hlt1 : P < w1.heap.size := by omega
  have hne : ¬ w.heap.size = P := by omega
  have hne' : ¬ P = w.heap.size := by omega
  have hne1 : ¬ w1.heap.size = P := by omega
  have hne1' : ¬ P = w1.heap.size := by omega
  have hne2 : ¬ w1.heap.size = w.heap.size := by omega
  have hne2' : ¬ w.heap.size = w1.heap.size := by omega
  go_wp2
  exact bodyPost_ret (v := termVal ⟨x.text, 0⟩) (by simp [results, Tryd.results53, go_sem, c0, c1, hsz]) rfl ⟨rfl, (((Went.step hb hst).set hlt (Nat.le_refl _) _ _).set hlt (Nat.le_refl _) _ _).alloc _⟩

theorem ground' {w w1 w' : World} {P : Nat} (hb : Below w.heap.size w w1) (h : Below w1.heap.size w1 w') : w.grownBy w' (some P) := grownBy_of_below (hb.trans (h.mono hb.size)) _

set_option maxRecDepth 100000 in
set_option maxHeartbeats 400000 in
theorem term_num (P : Nat) (L : List Tk.Tok) (en : Int) (r : List Tk.Tok) (w : World) (hA : At w P L en r) (h : ((Pr.hd en r).kind == 3) = true) :
    Calls Tryd.prog 53 #[.pointer (some ⟨P, 0, none⟩)] w fun e w' => e = .returned (termVal ⟨[], Pr.num (Pr.hd en r).text⟩) ∧ Went w w' P L en r.tail := by
  have hpk : Hid _ := peekAt P L en r w hA
  have hnm : Hid (∀ w1, Below w.heap.size w w1 → _) := fun w1 hb => num_yes P L en r w1 (hA.below hb) h
  generalize Pr.hd en r = x at *
  have h2 : (x.kind == 2) = false := by rw [eq_of_beq h]; rfl
  have hlt := hA.lt
  go_enter Tryd.func53, Tryd.ntmps53
  go_wp2_with fail
  refine Calls.mono (hpk.out _ ((Below.refl _ _).alloc (Nat.le_refl _) _)) ?_
  rintro e w1 ⟨rfl, hb0⟩
  obtain ⟨c0, c1, f0, f1, hb, hsz⟩ := fresh2 hb0
  clear hb0
  go_wp2_with fail
  refine Calls.mono (hnm.out _ (below_put hb x)) ?_
  rintro e w2 ⟨rfl, hg, hA2⟩
  obtain ⟨c0, c1, f0, f1, hsz⟩ := kept2b ((Below.refl _ _).alloc (Nat.le_refl _) _) hsz c0 c1 f0 f1
  obtain ⟨d0, d1, g0, g1, hsz2⟩ := kept2 hlt hg hsz c0 c1 f0 f1
  have hW := Went.behind (below_put hb x) ⟨hg, hA2⟩
  clear c0 c1 f0 f1 hg
  go_wp2
  exact bodyPost_ret (v := termVal ⟨[], Pr.num x.text⟩) (by simp [results, Tryd.results53, go_sem, d0, d1]) rfl ⟨rfl, (hW.set hlt (Nat.le_refl _) _ _).set hlt (Nat.le_refl _) _ _⟩

set_option maxRecDepth 100000 in
set_option maxHeartbeats 400000 in
theorem term_off (P : Nat) (L : List Tk.Tok) (en : Int) (r : List Tk.Tok) (w : World) (hA : At w P L en r) (h2 : ((Pr.hd en r).kind == 2) = false) (h3 : ((Pr.hd en r).kind == 3) = false) (ht : Pr.isText en r [45] = false) :
    Calls Tryd.prog 53 #[.pointer (some ⟨P, 0, none⟩)] w fun e w' => e = gaveP (Pr.hd en r).at_ ∧ w.grownBy w' (some P) := by
  have hpk : Hid _ := peekAt P L en r w hA
  have hmu : Hid (∀ w1, Below w.heap.size w w1 → _) := fun w1 hb => must_no [45] P L en r w1 (hA.below hb) ht
  generalize Pr.hd en r = x at *
  go_enter Tryd.func53, Tryd.ntmps53
  go_wp2_with fail
  refine Calls.mono (hpk.out _ ((Below.refl _ _).alloc (Nat.le_refl _) _)) ?_
  rintro e w1 ⟨rfl, hb0⟩
  obtain ⟨c0, c1, f0, f1, hb, hsz⟩ := fresh2 hb0
  clear hb0
  go_wp2_with fail
  refine Calls.mono (hmu.out _ (below_put hb x)) ?_
  rintro e w2 ⟨rfl, hb2⟩
  exact ⟨rfl, rfl, ground' (below_put hb x) hb2⟩

set_option maxRecDepth 100000 in
set_option maxHeartbeats 400000 in
theorem term_zero (P : Nat) (L : List Tk.Tok) (en : Int) (r : List Tk.Tok) (w : World) (hA : At w P L en r) (h2 : ((Pr.hd en r).kind == 2) = false) (h3 : ((Pr.hd en r).kind == 3) = false) (ht : Pr.isText en r [45] = true)
    (h0 : ((Pr.hd en r.tail).text == [48]) = true) :
    Calls Tryd.prog 53 #[.pointer (some ⟨P, 0, none⟩)] w fun e w' => e = gaveP (Pr.hd en r.tail).at_ ∧ w.grownBy w' (some P) := by
  have hpk : Hid _ := peekAt P L en r w hA
  have hmu : Hid (∀ w1, Below w.heap.size w w1 → _) := fun w1 hb => must_yes [45] P L en r w1 (hA.below hb) (by simp) ht
  have hpk2 : Hid (∀ w3, At w3 P L en r.tail → _) := fun w3 h => peek_any P L en r.tail w3 h
  have hgu : Hid (∀ w3, At w3 P L en r.tail → _) := fun w3 h => giveUp_any P L en r.tail w3 h
  generalize Pr.hd en r.tail = y at *
  generalize Pr.hd en r = x at *
  go_enter Tryd.func53, Tryd.ntmps53
  go_wp2_with fail
  refine Calls.mono (hpk.out _ ((Below.refl _ _).alloc (Nat.le_refl _) _)) ?_
  rintro e w1 ⟨rfl, hb0⟩
  obtain ⟨c0, c1, f0, f1, hb, hsz⟩ := fresh2 hb0
  clear hb0
  go_wp2_with fail
  refine Calls.mono (hmu.out _ (below_put hb x)) ?_
  rintro e w2 ⟨rfl, hg, hA2⟩
  have hW := Went.behind (below_put hb x) ⟨hg, hA2⟩
  go_wp2_with fail
  refine Calls.mono (hpk2.out _ hA2) ?_
  rintro e w3 ⟨rfl, hb3⟩
  go_wp2_with fail
  simp only [fld2]
  go_wp2_with fail
  refine Calls.mono (hgu.out _ (hA2.below hb3)) ?_
  rintro e w4 ⟨rfl, hb4⟩
  exact ⟨rfl, rfl, ground (ground hW.1 hb3) hb4⟩

set_option maxRecDepth 100000 in
set_option maxHeartbeats 400000 in
theorem term_nonum (P : Nat) (L : List Tk.Tok) (en : Int) (r : List Tk.Tok) (w : World) (hA : At w P L en r) (h2 : ((Pr.hd en r).kind == 2) = false) (h3 : ((Pr.hd en r).kind == 3) = false) (ht : Pr.isText en r [45] = true)
    (h0 : ((Pr.hd en r.tail).text == [48]) = false) (hk : ((Pr.hd en r.tail).kind == 3) = false) :
    Calls Tryd.prog 53 #[.pointer (some ⟨P, 0, none⟩)] w fun e w' => e = gaveP (Pr.hd en r.tail).at_ ∧ w.grownBy w' (some P) := by
  have hpk : Hid _ := peekAt P L en r w hA
  have hmu : Hid (∀ w1, Below w.heap.size w w1 → _) := fun w1 hb => must_yes [45] P L en r w1 (hA.below hb) (by simp) ht
  have hpk2 : Hid (∀ w3, At w3 P L en r.tail → _) := fun w3 h => peek_any P L en r.tail w3 h
  have hgu : Hid (∀ w3, At w3 P L en r.tail → _) := fun w3 h => num_no P L en r.tail w3 h hk
  generalize Pr.hd en r.tail = y at *
  generalize Pr.hd en r = x at *
  go_enter Tryd.func53, Tryd.ntmps53
  go_wp2_with fail
  refine Calls.mono (hpk.out _ ((Below.refl _ _).alloc (Nat.le_refl _) _)) ?_
  rintro e w1 ⟨rfl, hb0⟩
  obtain ⟨c0, c1, f0, f1, hb, hsz⟩ := fresh2 hb0
  clear hb0
  go_wp2_with fail
  refine Calls.mono (hmu.out _ (below_put hb x)) ?_
  rintro e w2 ⟨rfl, hg, hA2⟩
  have hW := Went.behind (below_put hb x) ⟨hg, hA2⟩
  go_wp2_with fail
  refine Calls.mono (hpk2.out _ hA2) ?_
  rintro e w3 ⟨rfl, hb3⟩
  go_wp2_with fail
  simp only [fld2]
  go_wp2_with fail
  refine Calls.mono (hgu.out _ (hA2.below hb3)) ?_
  rintro e w4 ⟨rfl, hb4⟩
  exact ⟨rfl, rfl, ground (ground hW.1 hb3) hb4⟩

set_option maxRecDepth 100000 in
set_option maxHeartbeats 400000 in
theorem term_neg (P : Nat) (L : List Tk.Tok) (en : Int) (r : List Tk.Tok) (w : World) (hA : At w P L en r) (h2 : ((Pr.hd en r).kind == 2) = false) (h3 : ((Pr.hd en r).kind == 3) = false) (ht : Pr.isText en r [45] = true)
    (h0 : ((Pr.hd en r.tail).text == [48]) = false) (hk : ((Pr.hd en r.tail).kind == 3) = true) :
    Calls Tryd.prog 53 #[.pointer (some ⟨P, 0, none⟩)] w fun e w' => e = .returned (termVal ⟨[], -Pr.num (Pr.hd en r.tail).text⟩) ∧ Went w w' P L en r.tail.tail := by
  have hpk : Hid _ := peekAt P L en r w hA
  have hmu : Hid (∀ w1, Below w.heap.size w w1 → _) := fun w1 hb => must_yes [45] P L en r w1 (hA.below hb) (by simp) ht
  have hpk2 : Hid (∀ w3, At w3 P L en r.tail → _) := fun w3 h => peek_any P L en r.tail w3 h
  have hgu : Hid (∀ w3, At w3 P L en r.tail → _) := fun w3 h => num_yes P L en r.tail w3 h hk
  have hnn : Hid (∀ w3, At w3 P L en r.tail → _) := fun w3 h => h.num hk
  generalize Pr.hd en r.tail = y at *
  generalize Pr.hd en r = x at *
  have hlt := hA.lt
  go_enter Tryd.func53, Tryd.ntmps53
  go_wp2_with fail
  refine Calls.mono (hpk.out _ ((Below.refl _ _).alloc (Nat.le_refl _) _)) ?_
  rintro e w1 ⟨rfl, hb0⟩
  obtain ⟨c0, c1, f0, f1, hb, hsz⟩ := fresh2 hb0
  clear hb0
  go_wp2_with fail
  refine Calls.mono (hmu.out _ (below_put hb x)) ?_
  rintro e w2 ⟨rfl, hg, hA2⟩
  obtain ⟨c0, c1, f0, f1, hsz⟩ := kept2b ((Below.refl _ _).alloc (Nat.le_refl _) _) hsz c0 c1 f0 f1
  obtain ⟨c0, c1, f0, f1, hsz⟩ := kept2 hlt hg hsz c0 c1 f0 f1
  have hW := Went.behind (below_put hb x) ⟨hg, hA2⟩
  go_wp2_with fail
  refine Calls.mono (hpk2.out _ hA2) ?_
  obtain ⟨hl, hn⟩ := hnn.out _ hA2
  have hbd := Lib.atoi_bound hn hl
  rintro e w3 ⟨rfl, hb3⟩
  obtain ⟨c0, c1, f0, f1, hsz⟩ := kept2b hb3 hsz c0 c1 f0 f1
  go_wp2_with fail
  simp only [fld2]
  go_wp2_with fail
  refine Calls.mono (hgu.out _ (hA2.below hb3)) ?_
  rintro e w4 ⟨rfl, hg4, hA4⟩
  obtain ⟨d0, d1, g0, g1, hsz4⟩ := kept2 hlt hg4 hsz c0 c1 f0 f1
  have hW4 := Went.trans (hW.below hb3) ⟨hg4, hA4⟩
  clear c0 c1 f0 f1 hg hg4
  obtain ⟨hn1, hn2⟩ := hbd
  go_wp2
  exact bodyPost_ret (v := termVal ⟨[], -Pr.num y.text⟩) (by simp [results, Tryd.results53, go_sem, d0, d1]) rfl ⟨rfl, (hW4.set hlt (Nat.le_refl _) _ _).set hlt (Nat.le_refl _) _ _⟩

end Go.Proofs.YtjbfbbhaagkagaaDoor

/- Rows that the parser makes: of terms, of literals, of rules. -/
namespace Go.Proofs.YtjbfbbhaagkagaaDoor
open Go.RowKit

/-- A row of parts, each of k cells, in a block of its own at B or behind. -/
def RowP (B : Nat) (w : World) (e : TypeId) (k : Nat) (v : Value) (cs : List (List Value)) : Prop :=
  ∃ ao cap, v = .slice ao cs.length cap ∧ (cs = [] ∨ ∃ b cur fz, ao = some ⟨b, 0, none⟩ ∧ B ≤ b ∧ w.heap[b]? = some (.cells cur e fz) ∧ ∀ i c, cs[i]? = some c → ∀ j u, c[j]? = some u → w.cell? ⟨b, i * k + j, none⟩ = some u)

theorem flat_length (k : Nat) : ∀ cs : List (List Value), (∀ c, c ∈ cs → c.length = k) → cs.flatten.length = cs.length * k := by
  intro cs
  induction cs with
  | nil => intro _; simp
  | cons c r ih =>
    intro h
    rw [List.flatten_cons, List.length_append, ih (fun c hc => h c (List.mem_cons_of_mem _ hc)), h c List.mem_cons_self, List.length_cons, Nat.add_mul]
    omega
theorem flat_get (k : Nat) : ∀ (cs : List (List Value)), (∀ c, c ∈ cs → c.length = k) → ∀ i c j u, cs[i]? = some c → c[j]? = some u → cs.flatten[i * k + j]? = some u := by
  intro cs
  induction cs with
  | nil => intro _ i c j u h; simp at h
  | cons a r ih =>
    intro h i c j u hi hj
    have ha := h a List.mem_cons_self
    have hjk : j < c.length := by
      rcases Nat.lt_or_ge j c.length with h | h
      · exact h
      · rw [List.getElem?_eq_none h] at hj; cases hj
    rw [List.flatten_cons]
    cases i with
    | zero =>
      have hac : a = c := by simpa using hi
      subst hac
      rw [Nat.zero_mul, Nat.zero_add, List.getElem?_append_left hjk]
      exact hj
    | succ i =>
      rw [List.getElem?_append_right (by rw [ha, Nat.add_mul]; omega), ha, show (i + 1) * k + j - k = i * k + j from by rw [Nat.add_mul]; omega]
      exact ih (fun c hc => h c (List.mem_cons_of_mem _ hc)) i c j u (by simpa using hi) hj

theorem rowP_own {w : World} {base : Nat} {e : TypeId} {k : Nat} {v : Value} {cs : List (List Value)} (hl : ∀ c, c ∈ cs → c.length = k) (h : w.ownsRow base e k v cs.length cs.flatten) : RowP base w e k v cs := by
  rcases h.2 with ⟨hv, h0⟩ | ⟨g, cap, cur, hv, hg, hbk, r⟩
  · exact ⟨none, 0, by rw [hv, h0], .inl (List.eq_nil_of_length_eq_zero h0)⟩
  · refine ⟨some ⟨g, 0, none⟩, cap, hv, .inr ⟨g, cur, (0, 0), rfl, hg, hbk, fun i c hi j u hj => ?_⟩⟩
    subst hv
    have := h.cells (g := g) rfl _ _ (flat_get k cs hl i c j u hi hj)
    have hadd : ∀ k, ((⟨g, 0, none⟩ : Addr).add k) = ⟨g, 0 + k, none⟩ := fun _ => by simp [Addr.add]; exact fun h => h.symm
    rw [hadd] at this
    simpa using this

/-- Blocks of such rows are as they were. -/
def Keeps (B : Nat) (w w' : World) (E : TypeId → Prop) : Prop := ∀ b cur e fz, E e → B ≤ b → w.heap[b]? = some (.cells cur e fz) → w'.heap[b]? = w.heap[b]?
theorem Keeps.mono {B : Nat} {w w' : World} {E E' : TypeId → Prop} (h : Keeps B w w' E) (hE : ∀ e, E' e → E e) : Keeps B w w' E' := fun b cur e fz he hb hh => h b cur e fz (hE e he) hb hh
theorem Keeps.trans {B : Nat} {w w1 w' : World} {E : TypeId → Prop} (h : Keeps B w w1 E) (h1 : Keeps B w1 w' E) : Keeps B w w' E := fun b cur e fz he hb hh => (h1 b cur e fz he hb ((h b cur e fz he hb hh).trans hh)).trans (h b cur e fz he hb hh)
theorem heap_lt {w : World} {b : Nat} {o : Obj} (h : w.heap[b]? = some o) : b < w.heap.size := by
  rcases Nat.lt_or_ge b w.heap.size with h1 | h1
  · exact h1
  · rw [Array.getElem?_eq_none h1] at h; cases h
theorem keeps_grown {B P : Nat} {w w' : World} (E : TypeId → Prop) (h : w.grownBy w' (some P)) (hP : P < B) : Keeps B w w' E := fun b cur e fz _ hb hh => h.block b (heap_lt hh) (by intro h; injection h; omega)
theorem keeps_below {B : Nat} {w w' : World} (E : TypeId → Prop) (h : Below w.heap.size w w') : Keeps B w w' E := fun b _ _ _ _ _ hh => h.block b (heap_lt hh)
theorem keeps_set {B b : Nat} {w : World} (E : TypeId → Prop) (h : b < B) (o : Nat) (v : Value) : Keeps B w (w.setCell ⟨b, o, none⟩ v) E := fun b' _ _ _ _ hb _ => Below.heap_setCell _ _ _ _ (show ¬ b' = b by omega)
theorem keeps_own {B base k n : Nat} {w w' : World} {E : TypeId → Prop} {e1 : TypeId} {v : Value} {xs : List Value} (h : w.grownBy w' v.ownBlock) (hown : w.ownsRow base e1 k v n xs) (hE : ¬ E e1) : Keeps B w w' E := by
  intro b cur e fz he hb hh
  refine h.block b (heap_lt hh) ?_
  intro hv
  rcases hown.2 with ⟨rfl, h0⟩ | ⟨g, cap, cur', rfl, hg, hbk, r⟩
  · cases hv
  · have hbg : b = g := by simpa [Value.ownBlock] using hv
    subst hbg
    rw [hbk] at hh
    injection hh with hh
    injection hh with h1 h2 h3
    exact hE (h2 ▸ he)

theorem RowP.keep {B : Nat} {w w' : World} {E : TypeId → Prop} {e : TypeId} {k : Nat} {v : Value} {cs : List (List Value)} (h : RowP B w e k v cs) (hk : Keeps B w w' E) (he : E e) : RowP B w' e k v cs := by
  obtain ⟨ao, cap, hv, h⟩ := h
  refine ⟨ao, cap, hv, ?_⟩
  rcases h with h | ⟨b, cur, fz, rfl, hb, hh, hc⟩
  · exact .inl h
  · have hs := hk b cur e fz he hb hh
    exact .inr ⟨b, cur, fz, rfl, hb, hs.trans hh, fun i c hi j u hj => (World.cell?_of_block (a := ⟨b, _, none⟩) hs).trans (hc i c hi j u hj)⟩
theorem RowP.mono {B B' : Nat} {w : World} {e : TypeId} {k : Nat} {v : Value} {cs : List (List Value)} (h : RowP B w e k v cs) (hB : B' ≤ B) : RowP B' w e k v cs := by
  obtain ⟨ao, cap, hv, h⟩ := h
  refine ⟨ao, cap, hv, ?_⟩
  rcases h with h | ⟨b, cur, fz, rfl, hb, hh, hc⟩
  · exact .inl h
  · exact .inr ⟨b, cur, fz, rfl, Nat.le_trans hB hb, hh, hc⟩

def termCells (t : Tr.Term) : List Value := [.string ⟨t.var.toArray⟩, .int .i64 t.n]
def TermsP (B : Nat) (w : World) (v : Value) (l : List Tr.Term) : Prop := RowP B w 76 2 v (l.map termCells)
def litCells (x : Tr.Lit × Value) : List Value := [.int .i64 x.1.kind, .int .i64 x.1.at_, .int .i64 x.1.op, .string ⟨x.1.name.toArray⟩, x.2]
def LitsP (B : Nat) (w : World) (v : Value) (l : List Tr.Lit) : Prop := ∃ q : List (Tr.Lit × Value), q.map (·.1) = l ∧ RowP B w 42 5 v (q.map litCells) ∧ ∀ p, p ∈ q → TermsP B w p.2 p.1.terms
def ruleCells (x : Tr.Rule × Value × Value) : List Value := [.int .i64 x.1.at_, .string ⟨x.1.name.toArray⟩, x.2.1, .int .i64 x.1.fold, x.2.2]
def RulesP (B : Nat) (w : World) (v : Value) (l : List Tr.Rule) : Prop := ∃ q : List (Tr.Rule × Value × Value), q.map (·.1) = l ∧ RowP B w 40 5 v (q.map ruleCells) ∧ ∀ p, p ∈ q → TermsP B w p.2.1 p.1.terms ∧ LitsP B w p.2.2 p.1.body

theorem TermsP.keep {B : Nat} {w w' : World} {v : Value} {l : List Tr.Term} (h : TermsP B w v l) (hk : Keeps B w w' (· = 76)) : TermsP B w' v l := RowP.keep h hk rfl
theorem TermsP.mono {B B' : Nat} {w : World} {v : Value} {l : List Tr.Term} (h : TermsP B w v l) (hB : B' ≤ B) : TermsP B' w v l := RowP.mono h hB
theorem LitsP.keep {B : Nat} {w w' : World} {v : Value} {l : List Tr.Lit} (h : LitsP B w v l) (hk : Keeps B w w' (fun e => e = 76 ∨ e = 42)) : LitsP B w' v l := by
  obtain ⟨q, h1, h2, h3⟩ := h
  exact ⟨q, h1, h2.keep hk (.inr rfl), fun p hp => (h3 p hp).keep (hk.mono fun e he => .inl he)⟩
theorem LitsP.mono {B B' : Nat} {w : World} {v : Value} {l : List Tr.Lit} (h : LitsP B w v l) (hB : B' ≤ B) : LitsP B' w v l := by
  obtain ⟨q, h1, h2, h3⟩ := h
  exact ⟨q, h1, h2.mono hB, fun p hp => (h3 p hp).mono hB⟩

theorem row_get {B : Nat} {w : World} {e : TypeId} {k : Nat} {v : Value} {α : Type} {cells : α → List Value} {l : List α} (h : RowP B w e k v (l.map cells)) :
    ∃ ao cap, v = .slice ao l.length cap ∧ (l = [] ∨ ∃ b, ao = some ⟨b, 0, none⟩ ∧ ∀ i x, l[i]? = some x → ∀ j u, (cells x)[j]? = some u → w.cell? ⟨b, i * k + j, none⟩ = some u) := by
  obtain ⟨ao, cap, hv, h⟩ := h
  rw [List.length_map] at hv
  refine ⟨ao, cap, hv, ?_⟩
  rcases h with h | ⟨b, cur, fz, rfl, hb, hh, hc⟩
  · exact .inl (by simpa using h)
  · exact .inr ⟨b, rfl, fun i x hi j u hj => hc i (cells x) (by rw [List.getElem?_map, hi]; rfl) j u hj⟩

theorem TermsP.toV {B : Nat} {w : World} {v : Value} {l : List Tr.Term} (h : TermsP B w v l) : TermsV w v l := by
  obtain ⟨ao, cap, hv, h⟩ := row_get h
  refine ⟨ao, cap, hv, ?_⟩
  rcases h with h | ⟨b, rfl, hc⟩
  · exact .inl h
  · refine .inr ⟨b, 0, rfl, fun i hi => ?_⟩
    have hx : l[i]? = some (Tr.termD l i) := by simp [Tr.termD, hi]
    rw [Nat.zero_add]
    exact ⟨hc i _ hx 0 _ rfl, hc i _ hx 1 _ rfl⟩
theorem LitsP.toV {B : Nat} {w : World} {v : Value} {l : List Tr.Lit} (h : LitsP B w v l) : LitsV w v l := by
  obtain ⟨q, rfl, h2, h3⟩ := h
  obtain ⟨ao, cap, hv, h⟩ := row_get h2
  refine ⟨ao, cap, by rw [hv, List.length_map], ?_⟩
  rcases h with h | ⟨b, rfl, hc⟩
  · exact .inl (by simp [h])
  · refine .inr ⟨b, 0, rfl, fun i hi => ?_⟩
    rw [List.length_map] at hi
    have hq : q[i]? = some q[i] := List.getElem?_eq_getElem hi
    have hx : Tr.litD (q.map (·.1)) i = q[i].1 := by simp [Tr.litD, hi]
    rw [Nat.zero_add, hx]
    exact ⟨hc i _ hq 0 _ rfl, hc i _ hq 1 _ rfl, hc i _ hq 2 _ rfl, hc i _ hq 3 _ rfl, q[i].2, hc i _ hq 4 _ rfl, (h3 _ (List.getElem_mem hi)).toV⟩
theorem RulesP.toV {B : Nat} {w : World} {v : Value} {l : List Tr.Rule} (h : RulesP B w v l) : RulesV w v l := by
  obtain ⟨q, rfl, h2, h3⟩ := h
  obtain ⟨ao, cap, hv, h⟩ := row_get h2
  refine ⟨ao, cap, by rw [hv, List.length_map], ?_⟩
  rcases h with h | ⟨b, rfl, hc⟩
  · exact .inl (by simp [h])
  · refine .inr ⟨b, 0, rfl, fun i hi => ?_⟩
    rw [List.length_map] at hi
    have hq : q[i]? = some q[i] := List.getElem?_eq_getElem hi
    have hx : Tr.ruleD (q.map (·.1)) i = q[i].1 := by simp [Tr.ruleD, hi]
    rw [Nat.zero_add, hx]
    have h4 := h3 _ (List.getElem_mem hi)
    exact ⟨hc i _ hq 0 _ rfl, hc i _ hq 1 _ rfl, ⟨q[i].2.1, hc i _ hq 2 _ rfl, h4.1.toV⟩, hc i _ hq 3 _ rfl, q[i].2.2, hc i _ hq 4 _ rfl, h4.2.toV⟩

/-- A term, or where it is wrong. -/
theorem term_yes (P : Nat) (L : List Tk.Tok) (en : Int) (r : List Tk.Tok) (w : World) (hA : At w P L en r) (t : Tr.Term) (r' : List Tk.Tok) (h : Pr.term en r = .inr (t, r')) :
    Calls Tryd.prog 53 #[.pointer (some ⟨P, 0, none⟩)] w fun e w' => e = .returned (termVal t) ∧ Went w w' P L en r' := by
  unfold Pr.term at h
  cases h2 : ((Pr.hd en r).kind == 2)
  · cases h3 : ((Pr.hd en r).kind == 3)
    · rw [h2, h3] at h
      simp only [Bool.false_eq_true, if_false] at h
      unfold Pr.must at h
      cases ht : ((Pr.hd en r).text == [45])
      · rw [ht] at h; simp at h
      · rw [ht] at h
        simp only [if_true] at h
        unfold Pr.neg at h
        cases h0 : ((Pr.hd en r.tail).text == [48])
        · rw [h0] at h
          simp only [Bool.false_eq_true, if_false] at h
          unfold Pr.number at h
          cases hk : ((Pr.hd en r.tail).kind == 3)
          · rw [hk] at h; simp at h
          · rw [hk] at h
            simp only [if_true, Sum.inr.injEq, Prod.mk.injEq] at h
            obtain ⟨rfl, rfl⟩ := h
            exact term_neg P L en r w hA h2 h3 ht h0 hk
        · rw [h0] at h; simp at h
    · rw [h2, h3] at h
      simp only [Bool.false_eq_true, if_false, if_true, Sum.inr.injEq, Prod.mk.injEq] at h
      obtain ⟨rfl, rfl⟩ := h
      exact term_num P L en r w hA h3
  · rw [h2] at h
    simp only [if_true, Sum.inr.injEq, Prod.mk.injEq] at h
    obtain ⟨rfl, rfl⟩ := h
    exact term_var P L en r w hA h2
theorem term_no (P : Nat) (L : List Tk.Tok) (en : Int) (r : List Tk.Tok) (w : World) (hA : At w P L en r) (a : Int) (h : Pr.term en r = .inl a) :
    Calls Tryd.prog 53 #[.pointer (some ⟨P, 0, none⟩)] w fun e w' => e = gaveP a ∧ w.grownBy w' (some P) := by
  unfold Pr.term at h
  cases h2 : ((Pr.hd en r).kind == 2)
  · cases h3 : ((Pr.hd en r).kind == 3)
    · rw [h2, h3] at h
      simp only [Bool.false_eq_true, if_false] at h
      unfold Pr.must at h
      cases ht : ((Pr.hd en r).text == [45])
      · rw [ht] at h
        simp only [Bool.false_eq_true, if_false, Sum.inl.injEq] at h
        subst h
        exact term_off P L en r w hA h2 h3 ht
      · rw [ht] at h
        simp only [if_true] at h
        unfold Pr.neg at h
        cases h0 : ((Pr.hd en r.tail).text == [48])
        · rw [h0] at h
          simp only [Bool.false_eq_true, if_false] at h
          unfold Pr.number at h
          cases hk : ((Pr.hd en r.tail).kind == 3)
          · rw [hk] at h
            simp only [Bool.false_eq_true, if_false, Sum.inl.injEq] at h
            subst h
            exact term_nonum P L en r w hA h2 h3 ht h0 hk
          · rw [hk] at h; simp at h
        · rw [h0] at h
          simp only [if_true, Sum.inl.injEq] at h
          subst h
          exact term_zero P L en r w hA h2 h3 ht h0
    · rw [h2, h3] at h; simp at h
  · rw [h2] at h; simp at h

end Go.Proofs.YtjbfbbhaagkagaaDoor

