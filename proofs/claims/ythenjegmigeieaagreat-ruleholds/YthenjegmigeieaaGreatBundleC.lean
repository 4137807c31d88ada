/- Own texts, one behind the other (part 3). -/
import Derived.Test.YthenjegmigeieaaGreatBundleB
import Derived.Test.YthenjegmigeieaaGreatRows
import Derived.WalkKit
import Derived.WalkSpells
import Derived.WalkLawsBesides
import Derived.Lib.Builder
import Derived.Lib.AppendStr
import Derived.Lib.OthersKept
import Derived.Laws.Externs
import Derived.Lib.UnsafeStr
import Derived.Deep.RegionHeld3
import Derived.Deep.DeepCutAuto
import Derived.Deep.QuietTactic
import Derived.Deep.RegionLaw
import Derived.RegionDies
import Derived.BigQuiet
import Derived.Deep.RegionHeld2
import Derived.Shelf.SlSortCmp.WholeK
import Derived.Ground.SlsfProg
import Derived.Test.YthenjegmigeieaaGreatProg
import Derived.Lib.Atoi
import Derived.RegionTactic
import Derived.BigRegion
import Derived.Lib.AtoiBound
/- The writers of a strings.Builder at this program: what they leave, and that other blocks stand. -/
namespace Go.Proofs.YthenjegmigeieaaGreat
open Go.RowKit

theorem A_info44 : (Tryz.prog.info? 276).map (·.size) = some 2 := by kernel_rfl
theorem A_lies44 : liesAt Tryz.prog Tryz.prog.depth 276 (2 / Tryz.prog.cellsOf 276) 0 276 1 = true := by kernel_rfl
theorem A_info5 : (Tryz.prog.info? 5).map (fun i => (i.zero, i.size, i.bytes)) = some (some (.int .u8 0), 1, 1) := by kernel_rfl

set_option maxRecDepth 100000 in
set_option maxHeartbeats 1000000 in
theorem check_used (b : Nat) (w : World) (h0 : w.cell? ⟨b, 0, none⟩ = some (.pointer (some ⟨b, 0, none⟩))) :
    Calls Tryz.prog 246 #[.pointer (some ⟨b, 0, none⟩)] w fun e w' => e = .returned (.tuple #[]) ∧ w' = w := by
  obtain ⟨j, hj, _⟩ := Option.map_eq_some_iff.1 A_info44
  go_enter Tryz.func246, Tryz.ntmps246
  go_wp2
  rw [Lib.run_neq_ptr_same w _ Tryz.underlying273 hj]
  go_wp2
  go_end0
  exact ⟨rfl, rfl⟩

set_option maxRecDepth 100000 in
set_option maxHeartbeats 1000000 in
theorem check_fresh (b : Nat) (w : World) (h0 : w.cell? ⟨b, 0, none⟩ = some (.pointer none)) (hsh : w.shape? b = some (276, 2)) (hfz : w.frozen? ⟨b, 0, none⟩ = false) :
    Calls Tryz.prog 246 #[.pointer (some ⟨b, 0, none⟩)] w fun e w' => e = .returned (.tuple #[]) ∧ w' = w.setCell ⟨b, 0, none⟩ (.pointer (some ⟨b, 0, none⟩)) := by
  obtain ⟨j, hj, hjs⟩ := Option.map_eq_some_iff.1 A_info44
  go_enter Tryz.func246, Tryz.ntmps246
  go_wp2
  rw [Lib.run_to_unsafe w ⟨b, 0, none⟩ Tryz.underlying273 Tryz.underlying292 hj (by rw [hjs]; decide) hsh (Nat.zero_lt_succ 1)]
  simp only [Result.andThen]
  rw [Oper.upon_value]
  go_wp2
  rw [run_callFunc_extern Tryz.func248 (by kernel_rfl) (by kernel_rfl) (by kernel_rfl) (e := Extern.AbiNoEscape.same) (by kernel_rfl)]
  rw [Lib.run_noEscape]
  simp only [Result.andThen]
  rw [Oper.upon_value]
  go_wp2
  rw [Lib.run_from_unsafe w ⟨b, 0, none⟩ Tryz.underlying292 Tryz.underlying273 hj hsh A_lies44]
  simp only [Result.andThen]
  rw [Oper.upon_value]
  go_wp2
  go_end0
  exact ⟨rfl, rfl⟩

theorem check_any (B b : Nat) (bs : List Value) (w : World) (h : Lib.IsBuilder 276 5 B b bs w) :
    Calls Tryz.prog 246 #[.pointer (some ⟨b, 0, none⟩)] w fun e w' => e = .returned (.tuple #[]) ∧ (Lib.BuilderAt 276 5 B b (.pointer (some ⟨b, 0, none⟩)) bs w' ∧ Below B w w' ∧ Lib.OthersKept 5 (some b) w w') := by
  rcases h with h | h
  · refine (check_fresh b w h.cell0 h.shape h.frozen0).mono ?_
    rintro e w' ⟨rfl, rfl⟩
    exact ⟨rfl, h.used _, (Below.refl B w).setCell (p := ⟨b, 0, none⟩) h.1 _, (Lib.OthersKept.refl 5 (some b) w).setCell ⟨b, 0, none⟩ rfl _⟩
  · refine (check_used b w h.cell0).mono ?_
    rintro e w' ⟨rfl, rfl⟩
    exact ⟨rfl, h, Below.refl B _, Lib.OthersKept.refl _ _ _⟩

theorem own_kind {w : World} {B : Nat} {v : Value} {n : Nat} {xs : List Value} (h : w.ownsRow B 5 1 v n xs) : ∀ g, v.ownBlock = some g → ∃ c fz, w.heap[g]? = some (.cells c 5 fz) := by
  intro g hg
  rcases h.2 with ⟨rfl, _⟩ | ⟨g', cap, cur, rfl, _, hgg, _⟩
  · simp [Value.ownBlock] at hg
  · simp [Value.ownBlock] at hg
    subst hg
    exact ⟨cur, _, hgg⟩

set_option maxRecDepth 100000 in
set_option maxHeartbeats 1000000 in
theorem writeByte_any (B b : Nat) (bs : List Value) (c : Int) (w : World) (h : Lib.IsBuilder 276 5 B b bs w) (hlen : bs.length + 1 ≤ 140737488355328) (hBw : B ≤ w.heap.size) :
    Calls Tryz.prog 241 #[.pointer (some ⟨b, 0, none⟩), .int .u8 c] w fun e w' => e = .returned .nilIface ∧ (Lib.BuilderAt 276 5 B b (.pointer (some ⟨b, 0, none⟩)) (bs ++ [.int .u8 c]) w' ∧ Below B w w' ∧ Lib.OthersKept 5 (some b) w w') := by
  obtain ⟨i0, hi, hz0, hz1, hz2⟩ := info_parts A_info5
  go_enter Tryz.func241, Tryz.ntmps241
  go_wp2_with (go_at_call 246; refine (check_any B b bs _ h).mono ?_)
  rintro e w1 ⟨rfl, h1, hb1, hk1⟩
  obtain ⟨hB, v, hbk, hown, hne⟩ := h1
  have c0 : w1.cell? ⟨b, 0, none⟩ = some (.pointer (some ⟨b, 0, none⟩)) := by rw [Lib.cell_of_heap hbk]; rfl
  have c1 : w1.cell? ⟨b, 1, none⟩ = some v := by rw [Lib.cell_of_heap hbk]; rfl
  go_wp2_with (at_builtin; refine wpList_append_own _ rfl _ _ 274 rfl B 5 i0 (.int .u8 0) 1 1 Tryz.underlying274 hi hz0 hz1 hz2 rfl (by decide) _ _ _ rfl (hown.alloc _) ⟨w1.heap.size, 0, none⟩ 1 1 [.int .u8 c] rfl rfl ?c1 ?c2 ?c3 ?c4 ?c5 ?_)
  case c1 =>
    intro j u hj
    match j, hj with
    | 0, hj => simp at hj; subst hj; simp [Addr.add]
  case c2 => intro u hu; simp at hu; subst hu; rfl
  case c3 => unfold maxLen; omega
  case c4 => omega
  case c5 => have := hb1.size; simp; omega
  intro v' w2 hown' hgrow _
  have hlt : b < w1.heap.size := Lib.BuilderAt.lt (T := 276) (e := 5) ⟨hB, v, hbk, hown, hne⟩
  have hb2 : w2.heap[b]? = some (.cells #[.pointer (some ⟨b, 0, none⟩), v] 276 (0, 0)) := by
    rw [hgrow.block b (by simp; omega) (fun e => hne e.symm), Lib.alloc_old w1 _ b hlt]
    exact hbk
  have d0 : w2.cell? ⟨b, 0, none⟩ = some (.pointer (some ⟨b, 0, none⟩)) := by rw [Lib.cell_of_heap hb2]; rfl
  have d1 : w2.cell? ⟨b, 1, none⟩ = some v := by rw [Lib.cell_of_heap hb2]; rfl
  have f1 : w2.frozen? ⟨b, 1, none⟩ = false := Lib.frozen_of_heap hb2 1
  obtain ⟨g, cap, rfl⟩ : ∃ g cap, v' = .slice (some ⟨g, 0, none⟩) (bs.length + 1) cap := by
    rcases hown'.2 with ⟨_, h0⟩ | ⟨g, cap, cur, hv, _⟩
    · omega
    · exact ⟨g, cap, hv⟩
  have hk2 : Lib.OthersKept 5 (some b) w w2 := (hk1.alloc _).grown hgrow (own_kind (hown.alloc _))
  go_wp2
  go_ret
  refine ⟨rfl, ?_, ?_, ?_⟩
  · exact Lib.BuilderAt.put (T := 276) (e := 5) hB hb2 (bs' := bs ++ [.int .u8 c]) (by simpa using hown') (by decide)
  · exact ((hb1.alloc (by have := hb1.size; omega) _).grown hgrow (by have := hb1.size; simp; omega) (fun k hk => (hown.lt k hk).1)).setCell (p := ⟨b, 1, none⟩) hB _
  · exact hk2.setCell ⟨b, 1, none⟩ rfl _

set_option maxRecDepth 100000 in
set_option maxHeartbeats 1000000 in
theorem writeString_any (B b : Nat) (bs : List Value) (s : ByteArray) (w : World) (h : Lib.IsBuilder 276 5 B b bs w) (hlen : bs.length + s.size ≤ 140737488355328) (hBw : B ≤ w.heap.size) :
    Calls Tryz.prog 242 #[.pointer (some ⟨b, 0, none⟩), .string s] w fun e w' => e = .returned (.tuple #[.int .i64 s.size, .nilIface]) ∧ (Lib.BuilderAt 276 5 B b (.pointer (some ⟨b, 0, none⟩)) (bs ++ Lib.strCells s) w' ∧ Below B w w' ∧ Lib.OthersKept 5 (some b) w w') := by
  obtain ⟨i0, hi, hz0, hz1, hz2⟩ := info_parts A_info5
  go_enter Tryz.func242, Tryz.ntmps242
  go_wp2_with (go_at_call 246; refine (check_any B b bs _ h).mono ?_)
  rintro e w1 ⟨rfl, h1, hb1, hk1⟩
  obtain ⟨hB, v, hbk, hown, hne⟩ := h1
  have c0 : w1.cell? ⟨b, 0, none⟩ = some (.pointer (some ⟨b, 0, none⟩)) := by rw [Lib.cell_of_heap hbk]; rfl
  have c1 : w1.cell? ⟨b, 1, none⟩ = some v := by rw [Lib.cell_of_heap hbk]; rfl
  go_wp2_with (at_builtin; refine Lib.wpList_append_own_string _ rfl _ _ 274 9 rfl B 5 i0 Tryz.underlying274 Tryz.underlying9 hi hz0 hz1 hz2 _ _ _ rfl hown s rfl ?c3 ?c4 ?c5 ?_)
  case c3 => unfold maxLen; omega
  case c4 => omega
  case c5 => have := hb1.size; omega
  intro v' w2 hown' hgrow _
  have hlt : b < w1.heap.size := Lib.BuilderAt.lt (T := 276) (e := 5) ⟨hB, v, hbk, hown, hne⟩
  have hb2 : w2.heap[b]? = some (.cells #[.pointer (some ⟨b, 0, none⟩), v] 276 (0, 0)) := by
    rw [hgrow.block b hlt (fun e => hne e.symm)]
    exact hbk
  have d0 : w2.cell? ⟨b, 0, none⟩ = some (.pointer (some ⟨b, 0, none⟩)) := by rw [Lib.cell_of_heap hb2]; rfl
  have d1 : w2.cell? ⟨b, 1, none⟩ = some v := by rw [Lib.cell_of_heap hb2]; rfl
  have f1 : w2.frozen? ⟨b, 1, none⟩ = false := Lib.frozen_of_heap hb2 1
  obtain ⟨ao, n', cap, rfl⟩ : ∃ ao n' cap, v' = .slice ao n' cap := by
    rcases hown'.2 with ⟨hv, _⟩ | ⟨g, cap, cur, hv, _⟩
    · exact ⟨_, _, _, hv⟩
    · exact ⟨_, _, _, hv⟩
  have hk2 : Lib.OthersKept 5 (some b) w w2 := hk1.grown hgrow (own_kind hown)
  go_wp2
  go_ret2
  refine ⟨rfl, ?_, ?_, ?_⟩
  · exact Lib.BuilderAt.put (T := 276) (e := 5) hB hb2 (bs' := bs ++ Lib.strCells s) (by simpa [Lib.strCells_length] using hown') (by decide)
  · exact (hb1.grown hgrow (by have := hb1.size; omega) (fun k hk => (hown.lt k hk).1)).setCell (p := ⟨b, 1, none⟩) hB _
  · exact hk2.setCell ⟨b, 1, none⟩ rfl _

end Go.Proofs.YthenjegmigeieaaGreat

/- Package token: Join answers the texts of tokens with a blank between, or why not. -/
namespace Go.Proofs.YthenjegmigeieaaGreat
open Go.RowKit

namespace Tk
/-- The texts of the first k tokens, a blank between. -/
def joinTo (l : List Tok) : Nat → List UInt8
  | 0 => []
  | k + 1 => (if k = 0 then [] else joinTo l k ++ [32]) ++ (tokD l k).text
/-- Are the first k tokens each the only one of its text? -/
def allTok (l : List Tok) (k : Nat) : Bool := (l.take k).all fun t => isTok t.kind t.text
/-- What Join answers. -/
def join (l : List Tok) : List UInt8 × Int :=
  if allTok l l.length then (if 5000 < (joinTo l l.length).length then ([], 2) else (joinTo l l.length, 0)) else ([], 1)

theorem allTok_snoc (l : List Tok) (k : Nat) (h : k < l.length) : allTok l (k + 1) = (allTok l k && isTok (tokD l k).kind (tokD l k).text) := by
  unfold allTok
  rw [List.take_succ_eq_append_getElem h, List.all_append]
  have e : tokD l k = l[k] := by rw [tokD, List.getD_eq_getElem?_getD, List.getElem?_eq_getElem h]; rfl
  rw [e]
  simp
theorem allTok_no (l : List Tok) (k : Nat) (h : k < l.length) (hk : isTok (tokD l k).kind (tokD l k).text = false) : allTok l l.length = false := by
  have e : tokD l k = l[k] := by rw [tokD, List.getD_eq_getElem?_getD, List.getElem?_eq_getElem h]; rfl
  rw [e] at hk
  unfold allTok
  rw [List.take_length]
  rw [← Bool.not_eq_true] at hk ⊢
  intro ha
  exact hk (List.all_eq_true.1 ha _ (List.getElem_mem h))
theorem isTok_len (k : Int) (t : List UInt8) (h : isTok k t = true) : t.length ≤ 12 := by
  have h := of_decide_eq_true h
  obtain ⟨h1, h2, h3, h4, h5⟩ := h
  match t, h1 with
  | c :: r, _ =>
    rcases tok_cases c r with ⟨c1, cE⟩ | ⟨c1, cK, c3, cE⟩ | ⟨c1, cK, c3, cE⟩ | ⟨c1, cK, c3, cE⟩ | ⟨c1, cK, c3, c4, c5, cE⟩ | ⟨c1, cK, c3, cE⟩ | ⟨c1, cK, c3, c4, c5, cE⟩ | ⟨c1, cK, cE⟩
    · omega
    · omega
    · omega
    · omega
    · omega
    · omega
    · omega
    · have e2 := lenOf_cons c r
      have e1 := kindOf_cons c r
      rw [cK] at e1
      cases g1 : Tk.small c.toNat
      · cases g2 : Tk.great c.toNat
        · cases g3 : Tk.digit c.toNat
          · rw [g1, g2, g3] at e2
            simp only [Bool.or_self, Bool.false_eq_true, if_false] at e2
            have e3 : Tk.signLen (c :: r) ≤ 2 := by
              unfold Tk.signLen
              split
              · omega
              · dsimp only; split <;> omega
            omega
          · rw [g1, g2, g3] at e1; simp at e1
        · rw [g1, g2] at e1; simp at e1
      · rw [g1] at e1; simp at e1
theorem joinTo_len (l : List Tok) : ∀ k, k ≤ l.length → allTok l k = true → (joinTo l k).length ≤ 13 * k := by
  intro k
  induction k with
  | zero => intro _ _; exact Nat.le_refl 0
  | succ k ih =>
    intro hk ha
    rw [allTok_snoc l k (by omega), Bool.and_eq_true] at ha
    have h1 := ih (by omega) ha.1
    have h2 := isTok_len _ _ ha.2
    rw [joinTo]
    split
    · simp; omega
    · simp; omega
end Tk

theorem builder_below {N : Nat} {bs : List Value} {w w' : World} (h : Lib.IsBuilder 276 5 N N bs w) (hb : Below w.heap.size w w') : Lib.IsBuilder 276 5 N N bs w' := by
  have key : ∀ p, Lib.BuilderAt 276 5 N N p bs w → Lib.BuilderAt 276 5 N N p bs w' := fun p h => by
    have hlt := h.lt
    obtain ⟨h1, v, h2, h3, h4⟩ := h
    exact ⟨h1, v, by rw [hb.block N hlt]; exact h2, ownsRow_below h3 hb, h4⟩
  rcases h with h | h
  · exact .inl (key _ h)
  · exact .inr (key _ h)

theorem builder_lt {N : Nat} {bs : List Value} {w : World} (h : Lib.IsBuilder 276 5 N N bs w) : N < w.heap.size := by
  rcases h with h | h
  · exact h.lt
  · exact h.lt

/-- A block of a token stands where the builder writes. -/
theorem kept_tok {N T : Nat} {t : Tk.Tok} {w w' : World} (hk : Lib.OthersKept 5 (some N) w w') (hne : ¬ T = N) (h : w.heap[T]? = some (tokObjOf t)) : w'.heap[T]? = some (tokObjOf t) := by
  refine hk T _ h (fun e => hne (Option.some.inj e)) ?_
  intro c fz e
  injection e with _ e2 _
  exact absurd e2 (by decide)

set_option maxRecDepth 100000 in
set_option maxHeartbeats 2000000 in
theorem Join_some (l : List Tk.Tok) (w : World) (n b off cap : Nat) (hn : l.length = n) (hmax : n ≤ 4398046511104)
    (hA : ∀ i, i < n → TokIn w b (off + i * 3) (tokD l i)) :
    Calls Tryz.prog 238 #[.slice (some ⟨b, off, none⟩) n cap] w fun e w' => e = .returned (.tuple #[.string ⟨(Tk.join l).1.toArray⟩, .int .i64 (Tk.join l).2]) ∧ Below w.heap.size w w' := by
  have HN : Hid (l.length = n) := hn
  clear hn
  go_enter Tryz.func238, Tryz.ntmps238
  go_wp2_with fail
  go_loopw [9] (fun i wr => ∃ k : Nat, k ≤ n ∧ i = .int .i64 k ∧ Tk.allTok l k = true ∧ Lib.IsBuilder 276 5 w.heap.size w.heap.size (Lib.byteCells (Tk.joinTo l k)) wr ∧ Below w.heap.size w wr) (fun i _ => n - (intOf i).toNat)
  case atStart => exact ⟨0, Nat.zero_le _, rfl, rfl, Lib.fresh_isBuilder 276 5 w, (Below.refl _ _).alloc (Nat.le_refl _) _⟩
  case round =>
    obtain ⟨k, hk, rfl, hall, hbu, hbel⟩ := hrel
    have HA : Hid (Tk.allTok l k = true) := hall
    clear hall
    have hNw := builder_lt hbu
    have hlen := Tk.joinTo_len l k (by rw [HN.out]; exact hk) HA.out
    by_cases hlt : k < n
    · obtain ⟨a0, a1, a2⟩ := hA k hlt
      have hbw : b < w.heap.size := World.block_lt_of_cell? w _ a0
      have a0' : wr.cell? ⟨b, off + k * 3, none⟩ = some (.int .i64 (tokD l k).kind) := (hbel.cell (p := ⟨b, _, none⟩) hbw).trans a0
      have a1' : wr.cell? ⟨b, off + k * 3 + 1, none⟩ = some (.int .i64 (tokD l k).at_) := (hbel.cell (p := ⟨b, _, none⟩) hbw).trans a1
      have a2' : wr.cell? ⟨b, off + k * 3 + 2, none⟩ = some (.string ⟨(tokD l k).text.toArray⟩) := (hbel.cell (p := ⟨b, _, none⟩) hbw).trans a2
      clear a0 a1 a2 hA
      go_wp2_with fail
      refine (alone_any (tokD l k) _).mono ?_
      rintro e w1 ⟨he, hb1⟩
      rw [alone_eq] at he
      subst he
      have hb0 : Below wr.heap.size wr w1 := below_box hb1
      have hbel1 : Below w.heap.size w w1 := hbel.trans (hb0.mono (by omega))
      cases hT : Tk.isTok (tokD l k).kind (tokD l k).text
      · have HF : Hid (Tk.join l = ([], 1)) := by
          show _ = _
          unfold Tk.join
          rw [if_neg (by rw [Tk.allTok_no l k (by rw [HN.out]; exact hlt) hT]; simp)]
        clear hT hb1 a0' a1' a2'
        go_wp2_with fail
        go_ret2
        refine ⟨?_, hbel1⟩
        rw [HF.out]
        rfl
      · have HT : Hid (Tk.allTok l (k + 1) = true) := by
          show _ = _
          rw [Tk.allTok_snoc l k (by rw [HN.out]; exact hlt), HA.out, hT]
          rfl
        have h12 := Tk.isTok_len _ _ hT
        have hbu1 := builder_below hbu hb0
        have hblk : w1.heap[wr.heap.size]? = some (tokObjOf (tokD l k)) := by
          rw [hb1.block wr.heap.size (by simp)]
          exact heap_alloc_new wr _
        obtain ⟨x0, x1, x2⟩ := boxCell hb1
        have hz1 : w.heap.size ≤ w1.heap.size := hbel1.size
        clear hT hb1 a0' a1' a2' hbu hb0
        by_cases hk0 : 0 < k
        · have HJ : Hid (Lib.byteCells (Tk.joinTo l k) ++ [.int .u8 32] ++ Lib.strCells ⟨(tokD l k).text.toArray⟩ = Lib.byteCells (Tk.joinTo l (k + 1))) := by
            show _ = _
            rw [Tk.joinTo, if_neg (by omega), Lib.byteCells_append, Lib.byteCells_append]
            rfl
          go_wp2_with fail
          refine (writeByte_any w.heap.size w.heap.size _ 32 _ hbu1 (by rw [Lib.byteCells_length]; omega) hz1).mono ?_
          rintro e w2 ⟨rfl, hB2, hbel2, hk2⟩
          have hblk2 := kept_tok hk2 (by omega) hblk
          have d2 : w2.cell? ⟨wr.heap.size, 2, none⟩ = some (.string ⟨(tokD l k).text.toArray⟩) := by rw [Lib.cell_of_heap hblk2]; rfl
          have hz2 : w.heap.size ≤ w2.heap.size := by have := hbel2.size; omega
          clear hk2 hblk hblk2 hbu1 x0 x1 x2
          go_wp2_with fail
          refine (writeString_any w.heap.size w.heap.size _ _ _ (.inr hB2) (by show _ + (tokD l k).text.toArray.size ≤ _; simp [Lib.byteCells_length]; omega) hz2).mono ?_
          rintro e w3 ⟨rfl, hB3, hbel3, _⟩
          rw [HJ.out] at hB3
          have hbel4 := (hbel1.trans hbel2).trans hbel3
          clear hB2 d2 HJ
          go_wp2
          go_roundw
          case rel => exact ⟨k + 1, by omega, by go_num, HT.out, .inr hB3, hbel4⟩
          case measure => simp [intOf]; omega
        · have hd : decide ((0 : Int) < (k : Int)) = false := by simp; omega
          have HJ : Hid (Lib.byteCells (Tk.joinTo l k) ++ Lib.strCells ⟨(tokD l k).text.toArray⟩ = Lib.byteCells (Tk.joinTo l (k + 1))) := by
            show _ = _
            have e0 : k = 0 := by omega
            rw [e0, Tk.joinTo, Tk.joinTo, if_pos rfl]
            rfl
          go_wp2_with fail
          refine (writeString_any w.heap.size w.heap.size _ _ _ hbu1 (by show _ + (tokD l k).text.toArray.size ≤ _; simp [Lib.byteCells_length]; omega) hz1).mono ?_
          rintro e w3 ⟨rfl, hB3, hbel3, _⟩
          rw [HJ.out] at hB3
          have hbel4 := hbel1.trans hbel3
          clear hbu1 HJ x0 x1 x2 hblk
          go_wp2
          go_roundw
          case rel => exact ⟨k + 1, by omega, by go_num, HT.out, .inr hB3, hbel4⟩
          case measure => simp [intOf]; omega
    · have hkn : k = n := by omega
      have HL : Hid (k = l.length) := by show _ = _; rw [HN.out]; exact hkn
      clear hkn
      have HA2 : Hid (Tk.allTok l l.length = true) := by have := HA.out; rw [HL.out] at this; exact this
      clear hA
      by_cases h5 : 5000 < (Tk.joinTo l k).length
      · have HF : Hid (Tk.join l = ([], 2)) := by
          show _ = _
          unfold Tk.join
          rw [if_pos HA2.out, if_pos (by rw [← HL.out]; exact h5)]
        go_wp2_with (go_at_call 243; refine (Tryz.Builder_Len _ _ _ _ hbu).mono ?_; rintro e w' ⟨rfl, rfl⟩; rw [Lib.byteCells_length])
        go_ret2
        refine ⟨?_, hbel⟩
        rw [HF.out]
        rfl
      · have HF : Hid (Tk.join l = (Tk.joinTo l k, 0)) := by
          show _ = _
          unfold Tk.join
          rw [if_pos HA2.out, if_neg (by rw [← HL.out]; exact h5), HL.out]
        go_wp2_with (first | (go_at_call 243; refine (Tryz.Builder_Len _ _ _ _ hbu).mono ?_; rintro e w' ⟨rfl, rfl⟩; rw [Lib.byteCells_length]) | (go_at_call 244; refine (Tryz.Builder_String_any _ _ _ _ hbu (by omega)).mono ?_; rintro e w2 ⟨rfl, hbel2⟩))
        go_ret2
        refine ⟨?_, hbel.trans hbel2⟩
        rw [HF.out]
        rfl

end Go.Proofs.YthenjegmigeieaaGreat

/- Package token: Join, whatever tokens it is handed. -/
namespace Go.Proofs.YthenjegmigeieaaGreat
open Go.RowKit

set_option maxRecDepth 100000 in
set_option maxHeartbeats 400000 in
theorem Join_none (w : World) (ao : Option Addr) (cap : Nat) :
    Calls Tryz.prog 238 #[.slice ao 0 cap] w fun e w' => e = .returned (.tuple #[.string ⟨#[]⟩, .int .i64 0]) ∧ Below w.heap.size w w' := by
  have hbu : Lib.IsBuilder 276 5 w.heap.size w.heap.size (Lib.byteCells []) (w.alloc (.cells #[.pointer none, .slice none 0 0] 276)) := Lib.fresh_isBuilder 276 5 w
  have hbel : Below w.heap.size w (w.alloc (.cells #[.pointer none, .slice none 0 0] 276)) := (Below.refl _ _).alloc (Nat.le_refl _) _
  go_enter Tryz.func238, Tryz.ntmps238
  go_wp2_with fail
  refine wp_loop_rounds 1 ?_
  rw [rounds_succ]
  go_wp2_with (first | (go_at_call 243; refine (Tryz.Builder_Len _ _ _ _ hbu).mono ?_; rintro e w' ⟨rfl, rfl⟩; rw [Lib.byteCells_length]) | (go_at_call 244; refine (Tryz.Builder_String_any _ _ _ _ hbu (by simp)).mono ?_; rintro e w2 ⟨rfl, hbel2⟩))
  go_ret2
  exact ⟨rfl, hbel.trans hbel2⟩

/-- Join, whatever tokens it is handed. -/
theorem Join_any (l : List Tk.Tok) (w : World) (ao : Option Addr) (cap : Nat) (hmax : l.length ≤ 4398046511104) (hA : ToksAt w ao l) :
    Calls Tryz.prog 238 #[.slice ao l.length cap] w fun e w' => e = .returned (.tuple #[.string ⟨(Tk.join l).1.toArray⟩, .int .i64 (Tk.join l).2]) ∧ Below w.heap.size w w' := by
  rcases hA with rfl | ⟨b, off, rfl, hA⟩
  · exact Join_none w ao cap
  · exact Join_some l w l.length b off cap rfl hmax hA

end Go.Proofs.YthenjegmigeieaaGreat

/- Package tree: words, names and terms. -/
namespace Go.Proofs.YthenjegmigeieaaGreat
open Go.RowKit

set_option maxRecDepth 100000 in
set_option maxHeartbeats 400000 in
theorem foldOf_any (s : List UInt8) (w : World) : Calls Tryz.prog 239 #[.string ⟨s.toArray⟩] w fun e w' => e = .returned (.int .i64 (Tr.foldOf s)) ∧ w' = w := by
  unfold Tr.foldOf
  cases h1 : (s == [99, 111, 117, 110, 116])
  · cases h2 : (s == [115, 117, 109])
    · cases h3 : (s == [108, 101, 97, 115, 116])
      · cases h4 : (s == [109, 111, 115, 116])
        · go_enter Tryz.func239, Tryz.ntmps239
          go_wp2
          go_ret
          exact ⟨rfl, rfl⟩
        · go_enter Tryz.func239, Tryz.ntmps239
          go_wp2
          go_ret
          exact ⟨rfl, rfl⟩
      · go_enter Tryz.func239, Tryz.ntmps239
        go_wp2
        go_ret
        exact ⟨rfl, rfl⟩
    · go_enter Tryz.func239, Tryz.ntmps239
      go_wp2
      go_ret
      exact ⟨rfl, rfl⟩
  · go_enter Tryz.func239, Tryz.ntmps239
    go_wp2
    go_ret
    exact ⟨rfl, rfl⟩

set_option maxRecDepth 100000 in
set_option maxHeartbeats 400000 in
theorem isWord_any (s : List UInt8) (w : World) : Calls Tryz.prog 234 #[.string ⟨s.toArray⟩] w fun e w' => e = .returned (.bool (Tr.isWord s)) ∧ w' = w := by
  unfold Tr.isWord
  cases h1 : (s == [110, 111, 116])
  · go_enter Tryz.func234, Tryz.ntmps234
    go_wp2_with (go_at_call 239; refine (foldOf_any _ _).mono ?_; rintro e w' ⟨rfl, rfl⟩)
    go_ret
    exact ⟨rfl, rfl⟩
  · go_enter Tryz.func234, Tryz.ntmps234
    go_wp2
    go_ret
    exact ⟨rfl, rfl⟩

set_option maxRecDepth 100000 in
set_option maxHeartbeats 400000 in
theorem isTest_any (n : Int) (w : World) : Calls Tryz.prog 236 #[.int .i64 n] w fun e w' => e = .returned (.bool (Tr.between n 1 4)) ∧ w' = w := by
  unfold Tr.between
  by_cases h : 1 ≤ n
  · go_enter Tryz.func236, Tryz.ntmps236
    go_wp2
    go_ret
    exact ⟨by simp [h], rfl⟩
  · have hd : decide (1 ≤ n) = false := by simpa using h
    go_enter Tryz.func236, Tryz.ntmps236
    go_wp2
    go_ret
    exact ⟨rfl, rfl⟩

set_option maxRecDepth 100000 in
set_option maxHeartbeats 400000 in
theorem isCalc_any (n : Int) (w : World) : Calls Tryz.prog 237 #[.int .i64 n] w fun e w' => e = .returned (.bool (Tr.between n 5 7)) ∧ w' = w := by
  unfold Tr.between
  by_cases h : 5 ≤ n
  · go_enter Tryz.func237, Tryz.ntmps237
    go_wp2
    go_ret
    exact ⟨by simp [h], rfl⟩
  · have hd : decide (5 ≤ n) = false := by simpa using h
    go_enter Tryz.func237, Tryz.ntmps237
    go_wp2
    go_ret
    exact ⟨rfl, rfl⟩

theorem join_one (k : Int) (s : List UInt8) : ((Tk.join [⟨k, 0, s⟩]).2 == 0) = Tk.isTok k s := by
  have e1 : Tk.allTok [⟨k, 0, s⟩] 1 = Tk.isTok k s := by simp [Tk.allTok]
  have e2 : Tk.joinTo [⟨k, 0, s⟩] 1 = s := by simp [Tk.joinTo, tokD]
  unfold Tk.join
  rw [List.length_singleton, e1, e2]
  cases h : Tk.isTok k s
  · rfl
  · have := Tk.isTok_len k s h
    rw [if_pos rfl, if_neg (by omega)]
    rfl

set_option maxRecDepth 100000 in
set_option maxHeartbeats 400000 in
theorem isToken_any (s : List UInt8) (k : Int) (w : World) : Calls Tryz.prog 233 #[.string ⟨s.toArray⟩, .int .i64 k] w fun e w' => e = .returned (.bool (Tk.isTok k s)) ∧ Below w.heap.size w w' := by
  have HJ := join_one k s
  have hA : ToksAt (w.alloc (.cells #[.int .i64 k, .int .i64 0, .string ⟨s.toArray⟩] 271)) (some ⟨w.heap.size, 0, none⟩) [⟨k, 0, s⟩] := by
    refine .inr ⟨w.heap.size, 0, rfl, fun i hi => ?_⟩
    have : i = 0 := by simpa using hi
    subst this
    exact ⟨by simp [go_sem, tokD], by simp [go_sem, tokD], by simp [go_sem, tokD]⟩
  have HC : Hid (_) := Join_any [⟨k, 0, s⟩] _ _ 1 (by simp) hA
  rw [← HJ]
  generalize Tk.join [⟨k, 0, s⟩] = J at *
  clear hA HJ
  go_enter Tryz.func233, Tryz.ntmps233
  go_wp2_with fail
  refine Calls.mono HC.out ?_
  rintro e w1 ⟨rfl, hb⟩
  go_wp2
  go_ret
  exact ⟨rfl, below_box hb⟩

set_option maxRecDepth 100000 in
set_option maxHeartbeats 400000 in
theorem isName_any (s : List UInt8) (w : World) : Calls Tryz.prog 228 #[.string ⟨s.toArray⟩] w fun e w' => e = .returned (.bool (Tr.isName s)) ∧ Below w.heap.size w w' := by
  unfold Tr.isName
  cases h1 : Tk.isTok 1 s
  · go_enter Tryz.func228, Tryz.ntmps228
    go_wp2_with fail
    refine (isToken_any s 1 w).mono ?_
    rintro e w1 ⟨he, hb⟩
    rw [h1] at he
    subst he
    go_wp2
    go_ret
    exact ⟨rfl, hb⟩
  · go_enter Tryz.func228, Tryz.ntmps228
    go_wp2_with fail
    refine (isToken_any s 1 w).mono ?_
    rintro e w1 ⟨he, hb⟩
    rw [h1] at he
    subst he
    go_wp2_with (go_at_call 234; refine (isWord_any _ _).mono ?_; rintro e w' ⟨rfl, rfl⟩)
    go_ret
    exact ⟨rfl, hb⟩

end Go.Proofs.YthenjegmigeieaaGreat

/- Package scope: giving up, and the small steps of Check. -/
namespace Go.Proofs.YthenjegmigeieaaGreat
open Go.RowKit

abbrev gaveF (a c : Int) : Ending := .panicked [{ v := .iface 168 (.agg #[.int .i64 a, .int .i64 c]), recovered := false }]
abbrev goneOn : Ending := .returned (.tuple #[])
/-- How a check ends: it gives up with what is wrong, or goes on. -/
def finE (x : Int) : Ending := if x = 0 then goneOn else gaveF 0 x
theorem finE_zero : finE 0 = goneOn := rfl
theorem finE_ne {x : Int} (h : ¬ x = 0) : finE x = gaveF 0 x := by unfold finE; rw [if_neg h]

set_option maxRecDepth 100000 in
set_option maxHeartbeats 400000 in
theorem refuseAt_yes (a c : Int) (w : World) : Calls Tryz.prog 176 #[.int .i64 a, .bool true, .int .i64 c] w fun e w' => e = gaveF a c ∧ Below w.heap.size w w' := by
  go_enter Tryz.func176, Tryz.ntmps176
  go_wp2
  exact ⟨rfl, rfl, Below.refl _ _⟩
set_option maxRecDepth 100000 in
set_option maxHeartbeats 400000 in
theorem refuseAt_no (a c : Int) (w : World) : Calls Tryz.prog 176 #[.int .i64 a, .bool false, .int .i64 c] w fun e w' => e = goneOn ∧ w' = w := by
  go_enter Tryz.func176, Tryz.ntmps176
  go_wp2
  exact ⟨rfl, .tuple #[], by simp [results, Tryz.results176], rfl, rfl⟩
set_option maxRecDepth 100000 in
set_option maxHeartbeats 400000 in
theorem refuse_yes (c : Int) (w : World) : Calls Tryz.prog 129 #[.bool true, .int .i64 c] w fun e w' => e = gaveF 0 c ∧ Below w.heap.size w w' := by
  go_enter Tryz.func129, Tryz.ntmps129
  go_wp2_with fail
  refine (refuseAt_yes _ _ _).mono ?_
  rintro e w1 ⟨rfl, hb⟩
  go_wp2
  exact ⟨rfl, rfl, hb⟩
set_option maxRecDepth 100000 in
set_option maxHeartbeats 400000 in
theorem refuse_no (c : Int) (w : World) : Calls Tryz.prog 129 #[.bool false, .int .i64 c] w fun e w' => e = goneOn ∧ w' = w := by
  go_enter Tryz.func129, Tryz.ntmps129
  go_wp2_with fail
  refine (refuseAt_no _ _ _).mono ?_
  rintro e w1 ⟨rfl, rfl⟩
  go_wp2
  exact ⟨rfl, .tuple #[], by simp [results, Tryz.results129], rfl, rfl⟩
set_option maxRecDepth 100000 in
set_option maxHeartbeats 400000 in
theorem isNumber_any (n : Int) (w : World) : Calls Tryz.prog 133 #[.int .i64 n] w fun e w' => e = .returned (.bool (Sc.isNum n)) ∧ w' = w := by
  unfold Sc.isNum Tr.between
  by_cases h : -1000000 ≤ n
  · go_enter Tryz.func133, Tryz.ntmps133
    go_wp2
    go_ret
    exact ⟨by simp [h], rfl⟩
  · have hd : decide (-1000000 ≤ n) = false := by simpa using h
    go_enter Tryz.func133, Tryz.ntmps133
    go_wp2
    go_ret
    exact ⟨rfl, rfl⟩
set_option maxRecDepth 100000 in
set_option maxHeartbeats 400000 in
theorem isPred_any (ar : List Int) (ao : Option Addr) (cap : Nat) (vn vr : Value) (k : Int) (w : World) : Calls Tryz.prog 130 #[progVal (.slice ao ar.length cap) vn vr, .int .i64 k] w fun e w' => e = .returned (.bool (Sc.isPred ar k)) ∧ Below w.heap.size w w' := by
  unfold Sc.isPred Tr.between
  by_cases h : 0 ≤ k
  · go_enter Tryz.func130, Tryz.ntmps130
    go_wp2
    go_ret
    refine ⟨?_, (Below.refl _ _).alloc (Nat.le_refl _) _⟩
    congr 2
    simp [h]
    omega
  · have hd : decide (0 ≤ k) = false := by simpa using h
    go_enter Tryz.func130, Tryz.ntmps130
    go_wp2
    go_ret
    exact ⟨rfl, (Below.refl _ _).alloc (Nat.le_refl _) _⟩

set_option maxRecDepth 100000 in
set_option maxHeartbeats 1000000 in
theorem checkTerms_some (l : List Sc.Term) (vars : Int) (w : World) (n b off cap : Nat) (hn : l.length = n) (hmax : n ≤ 9223372036854775807) (hA : ∀ i, i < n → PTermIn w b (off + i * 2) (Sc.termD l i)) :
    Calls Tryz.prog 207 #[.slice (some ⟨b, off, none⟩) n cap, .int .i64 vars] w fun e w' => e = finE (Sc.termsErr vars l) ∧ Below w.heap.size w w' := by
  have HN : Hid (l.length = n) := hn
  clear hn
  go_enter Tryz.func207, Tryz.ntmps207
  go_wp2_with fail
  go_loopw [8] (fun i wr => ∃ k : Nat, k ≤ n ∧ i = .int .i64 k ∧ Sc.termsErr vars l = Sc.first (Sc.termErr vars) (l.drop k) ∧ Below w.heap.size w wr) (fun i _ => n - (intOf i).toNat)
  case atStart => exact ⟨0, Nat.zero_le _, rfl, rfl, Below.refl _ _⟩
  case round =>
    obtain ⟨k, hk, rfl, hall, hbel⟩ := hrel
    have HA : Hid (Sc.termsErr vars l = Sc.first (Sc.termErr vars) (l.drop k)) := hall
    clear hall
    by_cases hlt : k < n
    · obtain ⟨a0, a1⟩ := hA k hlt
      have hbw : b < w.heap.size := World.block_lt_of_cell? w _ a0
      have a0' := (hbel.cell (p := ⟨b, off + k * 2, none⟩) hbw).trans a0
      have a1' := (hbel.cell (p := ⟨b, off + k * 2 + 1, none⟩) hbw).trans a1
      have HD : Hid (Sc.termsErr vars l = Sc.thn (Sc.termErr vars (Sc.termD l k)) (Sc.first (Sc.termErr vars) (l.drop (k + 1)))) := HA.out.trans (Sc.first_drop _ _ _ k (by rw [HN.out]; exact hlt))
      clear a0 a1 hA HA
      generalize Sc.termD l k = t at *
      by_cases h1 : t.var < -1
      · have HV : Hid (Sc.termsErr vars l = 5) := by
          show _ = _
          rw [HD.out]
          have : ¬ (-1 : Int) ≤ t.var := by omega
          simp [Sc.termErr, Sc.thn, Tr.between, this]
        clear HD
        have g1 : decide (t.var < -1) = true := decide_eq_true h1
        go_wp2_with fail
        refine (refuse_yes 5 _).mono ?_
        rintro e w1 ⟨rfl, hb1⟩
        have hb2 := hbel.trans ((below_box hb1).mono hbel.size)
        go_wp2_with fail
        exact ⟨rfl, by rw [HV.out]; rfl, hb2⟩
      · have g1 : decide (t.var < -1) = false := decide_eq_false h1
        by_cases h2 : vars ≤ t.var
        · have HV : Hid (Sc.termsErr vars l = 5) := by
            show _ = _
            rw [HD.out]
            have : ¬ t.var ≤ vars - 1 := by omega
            simp [Sc.termErr, Sc.thn, Tr.between, this]
          clear HD
          have g2 : decide (vars ≤ t.var) = true := decide_eq_true h2
          go_wp2_with fail
          refine (refuse_yes 5 _).mono ?_
          rintro e w1 ⟨rfl, hb1⟩
          have hb2 := hbel.trans ((below_box hb1).mono hbel.size)
          go_wp2_with fail
          exact ⟨rfl, by rw [HV.out]; rfl, hb2⟩
        · have g2 : decide (vars ≤ t.var) = false := decide_eq_false h2
          have hT : Hid (Sc.termErr vars t = if !Sc.isNum t.n || (decide (0 ≤ t.var) && t.n != 0) then 3 else 0) := by
            show _ = _
            have h3 : (-1 : Int) ≤ t.var := by omega
            have h4 : t.var ≤ vars - 1 := by omega
            simp [Sc.termErr, Tr.between, h3, h4]
          go_wp2_with fail
          refine (refuse_no 5 _).mono ?_
          rintro e w1 ⟨rfl, rfl⟩
          go_wp2_with fail
          refine (isNumber_any t.n _).mono ?_
          rintro e wn ⟨he, rfl⟩
          cases hnum : Sc.isNum t.n
          · rw [hnum] at he
            subst he
            have HV : Hid (Sc.termsErr vars l = 3) := by show _ = _; rw [HD.out, hT.out, hnum]; rfl
            clear HD hT
            go_wp2_with fail
            refine (refuse_yes 3 _).mono ?_
            rintro e w1 ⟨rfl, hb1⟩
            have hb2 := hbel.trans ((below_box hb1).mono hbel.size)
            go_wp2_with fail
            exact ⟨rfl, by rw [HV.out]; rfl, hb2⟩
          · rw [hnum] at he
            subst he
            by_cases h5 : 0 ≤ t.var
            · have g5 : decide (0 ≤ t.var) = true := decide_eq_true h5
              cases g6 : (t.n != 0)
              · have HV : Hid (Sc.termsErr vars l = Sc.first (Sc.termErr vars) (l.drop (k + 1))) := by show _ = _; rw [HD.out, hT.out, hnum, g5, g6]; rfl
                clear HD hT
                go_wp2_with fail
                refine (refuse_no 3 _).mono ?_
                rintro e w1 ⟨rfl, rfl⟩
                go_wp2_with fail
                have hb2 := hbel.alloc hbel.size (.cells #[.int .i64 t.var, .int .i64 t.n] 147)
                go_roundw
                case rel => exact ⟨k + 1, by omega, by go_num, HV.out, hb2⟩
                case measure => simp [intOf]; omega
              · have HV : Hid (Sc.termsErr vars l = 3) := by show _ = _; rw [HD.out, hT.out, hnum, g5, g6]; rfl
                clear HD hT
                go_wp2_with fail
                refine (refuse_yes 3 _).mono ?_
                rintro e w1 ⟨rfl, hb1⟩
                have hb2 := hbel.trans ((below_box hb1).mono hbel.size)
                go_wp2_with fail
                exact ⟨rfl, by rw [HV.out]; rfl, hb2⟩
            · have g5 : decide (0 ≤ t.var) = false := decide_eq_false h5
              have HV : Hid (Sc.termsErr vars l = Sc.first (Sc.termErr vars) (l.drop (k + 1))) := by show _ = _; rw [HD.out, hT.out, hnum, g5]; rfl
              clear HD hT
              go_wp2_with fail
              refine (refuse_no 3 _).mono ?_
              rintro e w1 ⟨rfl, rfl⟩
              go_wp2_with fail
              have hb2 := hbel.alloc hbel.size (.cells #[.int .i64 t.var, .int .i64 t.n] 147)
              go_roundw
              case rel => exact ⟨k + 1, by omega, by go_num, HV.out, hb2⟩
              case measure => simp [intOf]; omega
    · have HV : Hid (Sc.termsErr vars l = 0) := by show _ = _; rw [HA.out, List.drop_of_length_le (by rw [HN.out]; omega)]; rfl
      clear hA
      go_wp2_with fail
      exact ⟨rfl, .tuple #[], by simp [results, Tryz.results207], by rw [HV.out]; rfl, hbel⟩

set_option maxRecDepth 100000 in
set_option maxHeartbeats 400000 in
theorem checkTerms_none (w : World) (vars : Int) (ao : Option Addr) (cap : Nat) : Calls Tryz.prog 207 #[.slice ao 0 cap, .int .i64 vars] w fun e w' => e = goneOn ∧ Below w.heap.size w w' := by
  go_enter Tryz.func207, Tryz.ntmps207
  go_wp2_with fail
  refine wp_loop_rounds 1 ?_
  rw [rounds_succ]
  go_wp2_with fail
  exact ⟨rfl, .tuple #[], by simp [results, Tryz.results207], rfl, Below.refl _ _⟩
theorem checkTerms_any (l : List Sc.Term) (vars : Int) (v : Value) (w : World) (hmax : l.length ≤ 9223372036854775807) (hA : PTermsV w v l) :
    Calls Tryz.prog 207 #[v, .int .i64 vars] w fun e w' => e = finE (Sc.termsErr vars l) ∧ Below w.heap.size w w' := by
  obtain ⟨ao, cap, rfl, _, hA⟩ := hA
  rcases hA with rfl | ⟨b, off, rfl, hA⟩
  · exact checkTerms_none w vars ao cap
  · exact checkTerms_some l vars w l.length b off cap rfl hmax hA

end Go.Proofs.YthenjegmigeieaaGreat

/- Package scope: a literal but for its terms. -/
namespace Go.Proofs.YthenjegmigeieaaGreat
open Go.RowKit

theorem nat_of {ar : List Int} {k : Int} (h : Sc.isPred ar k = true) : ∃ n : Nat, k = n ∧ n < ar.length := by
  unfold Sc.isPred Tr.between at h
  simp at h
  exact ⟨k.toNat, by omega, by omega⟩
theorem below_two (w : World) (o1 o2 : Obj) : Below w.heap.size w ((w.alloc o1).alloc o2) := ((Below.refl _ _).alloc (Nat.le_refl _) _).alloc (by simp) _
theorem two_blocks {w w3 : World} {o1 o2 : Obj} (hb : Below ((w.alloc o1).alloc o2).heap.size ((w.alloc o1).alloc o2) w3) : w3.heap[w.heap.size]? = some o1 ∧ w3.heap[w.heap.size + 1]? = some o2 := by
  constructor
  · exact (hb.block _ (by simp; omega)).trans ((((Below.refl _ (w.alloc o1)).alloc (Nat.le_refl _) o2).block _ (by simp)).trans (heap_alloc_new w o1))
  · have := heap_alloc_new (w.alloc o1) o2
    exact (hb.block _ (by simp)).trans (by simpa using this)

set_option maxRecDepth 100000 in
set_option maxHeartbeats 1000000 in
theorem checkLit_pred (ar : List Int) (ao : Option Addr) (cap : Nat) (vn vr : Value) (kind op pred : Int) (ts : List Sc.Term) (at_ : Option Addr) (ct : Nat) (w : World) (hA : IntsAt w ao ar) (hk : kind = 1 ∨ kind = 2) :
    Calls Tryz.prog 208 #[progVal (.slice ao ar.length cap) vn vr, plitVal ⟨kind, op, pred, ts⟩ (.slice at_ ts.length ct)] w fun e w' => e = finE (Sc.litErr ar ⟨kind, op, pred, ts⟩) ∧ Below w.heap.size w w' := by
  have hb0 : Below w.heap.size w ((w.alloc (.cells #[.slice ao ar.length cap, vn, vr] 26)).alloc (.cells #[.int .i64 kind, .int .i64 op, .int .i64 pred, .slice at_ ts.length ct] 49)) := below_two w _ _
  have HL : Hid (Sc.litErr ar ⟨kind, op, pred, ts⟩ = if op ≠ 0 then 3 else if Sc.isPred ar pred then (if (ts.length : Int) ≠ Sc.intD ar pred.toNat then 1 else 0) else 5) := by
    show _ = _
    simp only [Sc.litErr]
    rw [if_pos hk]
  have hkk : kind = 1 ∨ (kind == 1) = false ∧ kind = 2 := by rcases hk with h | h <;> simp [h]
  clear hk
  cases g1 : (op != 0)
  · have h0 : op = 0 := by simpa using g1
    cases g2 : Sc.isPred ar pred
    · have HV : Hid (Sc.litErr ar ⟨kind, op, pred, ts⟩ = 5) := by show _ = _; rw [HL.out, h0, g2]; rfl
      clear HL hA h0
      rcases hkk with rfl | ⟨gk, rfl⟩
      all_goals
        go_enter Tryz.func208, Tryz.ntmps208
        go_wp2_with fail
        refine (refuse_no 3 _).mono ?_
        rintro e w1 ⟨rfl, rfl⟩
        go_wp2_with fail
        refine (isPred_any ar ao cap vn vr pred _).mono ?_
        rintro e w2 ⟨he, hb2⟩
        rw [g2] at he
        subst he
        go_wp2_with fail
        refine (refuse_yes 5 _).mono ?_
        rintro e w3 ⟨rfl, hb3⟩
        go_wp2_with fail
        have hb23 := hb2.trans (hb3.mono hb2.size)
        exact ⟨rfl, by rw [HV.out]; rfl, hb0.trans (hb23.mono hb0.size)⟩
    · obtain ⟨n, rfl, hn⟩ := nat_of g2
      obtain ⟨b, off, rfl, hc⟩ := ints_at hA n hn
      have hbw : b < w.heap.size := World.block_lt_of_cell? w _ hc
      have hcc : ∀ y, Below w.heap.size w y → y.cell? ⟨b, off + n, none⟩ = some (.int .i64 (Sc.intD ar n)) := fun y hy => cell_below hy hc
      have HC : Hid _ := hcc
      clear hcc hc hA
      cases g3 : ((ts.length : Int) != Sc.intD ar n)
      · have HV : Hid (Sc.litErr ar ⟨kind, op, n, ts⟩ = 0) := by
          show _ = _
          rw [HL.out, h0, g2]
          have : (ts.length : Int) = Sc.intD ar n := by simpa using g3
          simp [this]
        clear HL h0
        rcases hkk with rfl | ⟨gk, rfl⟩
        all_goals
          go_enter Tryz.func208, Tryz.ntmps208
          go_wp2_with fail
          refine (refuse_no 3 _).mono ?_
          rintro e w1 ⟨rfl, rfl⟩
          go_wp2_with fail
          refine (isPred_any ar _ cap vn vr n _).mono ?_
          rintro e w2 ⟨he, hb2⟩
          rw [g2] at he
          subst he
          go_wp2_with fail
          refine (refuse_no 5 _).mono ?_
          rintro e w3 ⟨rfl, rfl⟩
          have hb02 := hb0.trans (hb2.mono hb0.size)
          have hq := HC.out _ hb02
          obtain ⟨x1, x2⟩ := two_blocks hb2
          have c0 : w3.cell? ⟨w.heap.size, 0, none⟩ = some (.slice (some ⟨b, off, none⟩) ar.length cap) := by rw [Lib.cell_of_heap x1]; rfl
          have c1 : w3.cell? ⟨w.heap.size + 1, 2, none⟩ = some (.int .i64 n) := by rw [Lib.cell_of_heap x2]; rfl
          have c2 : w3.cell? ⟨w.heap.size + 1, 3, none⟩ = some (.slice at_ ts.length ct) := by rw [Lib.cell_of_heap x2]; rfl
          clear x1 x2 hb2 hb0 HC
          go_upto_region 7 with fail
          go_region_held3 (fun y => y.cell? ⟨w.heap.size, 0, none⟩ = some (.slice (some ⟨b, off, none⟩) ar.length cap) ∧ y.cell? ⟨w.heap.size + 1, 2, none⟩ = some (.int .i64 n) ∧ y.cell? ⟨w.heap.size + 1, 3, none⟩ = some (.slice at_ ts.length ct) ∧ y.cell? ⟨b, off + n, none⟩ = some (.int .i64 (Sc.intD ar n))) (go_keep) ((go_at_call 129; refine Calls.mono (refuse_no 1 _) ?_; rintro e y ⟨rfl, rfl⟩))
          all_goals go_wp2_with fail
          all_goals exact ⟨rfl, .tuple #[], by simp [results, Tryz.results208], by rw [HV.out]; rfl, below_drewN hb02 _⟩
      · have HV : Hid (Sc.litErr ar ⟨kind, op, n, ts⟩ = 1) := by
          show _ = _
          rw [HL.out, h0, g2]
          have : ¬ (ts.length : Int) = Sc.intD ar n := by simpa using g3
          simp [this]
        clear HL h0
        rcases hkk with rfl | ⟨gk, rfl⟩
        all_goals
          go_enter Tryz.func208, Tryz.ntmps208
          go_wp2_with fail
          refine (refuse_no 3 _).mono ?_
          rintro e w1 ⟨rfl, rfl⟩
          go_wp2_with fail
          refine (isPred_any ar _ cap vn vr n _).mono ?_
          rintro e w2 ⟨he, hb2⟩
          rw [g2] at he
          subst he
          go_wp2_with fail
          refine (refuse_no 5 _).mono ?_
          rintro e w3 ⟨rfl, rfl⟩
          have hb02 := hb0.trans (hb2.mono hb0.size)
          have hq := HC.out _ hb02
          obtain ⟨x1, x2⟩ := two_blocks hb2
          have c0 : w3.cell? ⟨w.heap.size, 0, none⟩ = some (.slice (some ⟨b, off, none⟩) ar.length cap) := by rw [Lib.cell_of_heap x1]; rfl
          have c1 : w3.cell? ⟨w.heap.size + 1, 2, none⟩ = some (.int .i64 n) := by rw [Lib.cell_of_heap x2]; rfl
          have c2 : w3.cell? ⟨w.heap.size + 1, 3, none⟩ = some (.slice at_ ts.length ct) := by rw [Lib.cell_of_heap x2]; rfl
          clear x1 x2 hb2 hb0 HC
          go_upto_region 7 with fail
          refine wp_region_held_drew (S := (fun y => y.cell? ⟨w.heap.size, 0, none⟩ = some (.slice (some ⟨b, off, none⟩) ar.length cap) ∧ y.cell? ⟨w.heap.size + 1, 2, none⟩ = some (.int .i64 n) ∧ y.cell? ⟨w.heap.size + 1, 3, none⟩ = some (.slice at_ ts.length ct) ∧ y.cell? ⟨b, off + n, none⟩ = some (.int .i64 (Sc.intD ar n)))) (by kernel_rfl) (by go_keep) (fun hHeld => ?_)
          refine wpAnyH_take (i := 0) (v := ?v0x0) rfl (by kernel_rfl) (by kernel_rfl) (by kernel_rfl) (fun _ _ _ h => h) (Or.inl ⟨by rfl, ?hy0x0⟩) (by assumption) ?_
          case hy0x0 =>
            intro w hSw
            (try dsimp only at hSw)
            go_simp
            try with_reducible rfl
          try simp only [Act.put, List.setIfInBounds_toArray]
          refine wpAnyH_take (i := 1) (v := ?v1x1) rfl (by kernel_rfl) (by kernel_rfl) (by kernel_rfl) (fun _ _ _ h => h) (Or.inl ⟨by rfl, ?hy1x1⟩) (by assumption) ?_
          case hy1x1 =>
            intro w hSw
            (try dsimp only at hSw)
            go_simp
            try with_reducible rfl
          try simp only [Act.put]
          refine wpAnyH_take (i := 2) (v := ?v2x2) rfl (by kernel_rfl) (by kernel_rfl) (by kernel_rfl) (fun _ _ _ h => h) (Or.inl ⟨by rfl, ?hy2x2⟩) (by assumption) ?_
          case hy2x2 =>
            intro w hSw
            (try dsimp only at hSw)
            go_simp
            try with_reducible rfl
          try simp only [Act.put]
          refine wpAnyH_take (i := 3) (v := ?v3x3) rfl (by kernel_rfl) (by kernel_rfl) (by kernel_rfl) (fun _ _ _ h => h) (Or.inl ⟨by rfl, ?hy3x3⟩) (by assumption) ?_
          case hy3x3 =>
            intro w hSw
            (try dsimp only at hSw)
            go_simp
            try with_reducible rfl
          try simp only [Act.put]
          refine wpAnyH_take (i := 4) (v := ?v4x4) rfl (by kernel_rfl) (by kernel_rfl) (by kernel_rfl) (fun _ _ _ h => h) (Or.inl ⟨by rfl, ?hy4x4⟩) (by assumption) ?_
          case hy4x4 =>
            intro w hSw
            (try dsimp only at hSw)
            go_simp
            try with_reducible rfl
          try simp only [Act.put]
          refine wpAnyH_take (i := 5) (v := ?v5x5) rfl (by kernel_rfl) (by kernel_rfl) (by kernel_rfl) (fun _ _ _ h => h) (Or.inl ⟨by rfl, ?hy5x5⟩) (by assumption) ?_
          case hy5x5 =>
            intro w hSw
            (try dsimp only at hSw)
            go_simp
            try with_reducible rfl
          try simp only [Act.put]
          refine wpAnyH_take (i := 6) (v := ?v6x6) rfl (by kernel_rfl) (by kernel_rfl) (by kernel_rfl) (fun _ _ _ h => h) (Or.inl ⟨by rfl, ?hy6x6⟩) (by assumption) ?_
          case hy6x6 =>
            intro w hSw
            (try dsimp only at hSw)
            go_simp
            try with_reducible rfl
          try simp only [Act.put]
          refine wpAnyH_take (i := 7) (v := ?v7x7) rfl (by kernel_rfl) (by kernel_rfl) (by kernel_rfl) (fun _ _ _ h => h) (Or.inl ⟨by rfl, ?hy7x7⟩) (by assumption) ?_
          case hy7x7 =>
            intro w hSw
            (try dsimp only at hSw)
            go_simp
            try with_reducible rfl
          try simp only [Act.put]
          refine wpAnyH_take (i := 8) (v := ?v8x8) rfl (by kernel_rfl) (by kernel_rfl) (by kernel_rfl) (fun _ _ _ h => h) (Or.inl ⟨by rfl, ?hy8x8⟩) (by assumption) ?_
          case hy8x8 =>
            intro w hSw
            (try dsimp only at hSw)
            go_simp
            try with_reducible rfl
          try simp only [Act.put]
          refine wpAnyH_take (i := 9) (v := ?v9x9) rfl (by kernel_rfl) (by kernel_rfl) (by kernel_rfl) (fun _ _ _ h => h) (Or.inl ⟨by rfl, ?hy9x9⟩) (by assumption) ?_
          case hy9x9 =>
            intro w hSw
            (try dsimp only at hSw)
            go_simp
            try with_reducible rfl
          try simp only [Act.put]
          refine wpAnyH_ready (rs := [10]) (by kernel_rfl) (by simp) ?_
          refine AllReadyH.cons rfl (fun K hK => ?_) AllReadyH.nil
          go_simp
          go_at_call 129
          refine Calls.mono (refuse_yes 1 _) ?_
          rintro e y2 ⟨rfl, hb4⟩
          exact ⟨rfl, by rw [HV.out]; rfl, hb02.drew.trans (hb4.mono hb02.size)⟩
  · have HV : Hid (Sc.litErr ar ⟨kind, op, pred, ts⟩ = 3) := by show _ = _; rw [HL.out, if_pos (by simpa using g1)]
    clear HL hA
    rcases hkk with rfl | ⟨gk, rfl⟩
    all_goals
      go_enter Tryz.func208, Tryz.ntmps208
      go_wp2_with fail
      refine (refuse_yes 3 _).mono ?_
      rintro e w1 ⟨rfl, hb1⟩
      go_wp2_with fail
      exact ⟨rfl, by rw [HV.out]; rfl, hb0.trans (hb1.mono hb0.size)⟩

end Go.Proofs.YthenjegmigeieaaGreat

/- Package relation: Order; what of the library it calls. -/
namespace Go.Proofs.YthenjegmigeieaaGreat
open Go.RowKit

set_option maxRecDepth 100000 in
set_option maxHeartbeats 400000 in
theorem isNaN_any (x : Int) (w : World) : Calls Tryz.prog 159 #[.int .i64 x] w fun e w' => e = .returned (.bool false) ∧ w' = w := by
  have h : (x != x) = false := by simp
  go_enter Tryz.func159, Tryz.ntmps159
  go_wp2_with fail
  go_ret
  exact ⟨rfl, rfl⟩
set_option maxRecDepth 100000 in
set_option maxHeartbeats 400000 in
theorem cmpI_any (x y : Int) (w : World) : Calls Tryz.prog 104 #[.int .i64 x, .int .i64 y] w fun e w' => e = .returned (.int .i64 (Rl.cmpI x y)) ∧ w' = w := by
  have HC : Hid (Rl.cmpI x y = if x < y then -1 else if y < x then 1 else 0) := rfl
  go_enter Tryz.func104, Tryz.ntmps104
  go_wp2_with fail
  refine (isNaN_any x _).mono ?_
  rintro e w1 ⟨rfl, rfl⟩
  go_wp2_with fail
  refine (isNaN_any y _).mono ?_
  rintro e w1 ⟨rfl, rfl⟩
  by_cases h1 : x < y
  · have HV : Hid (Rl.cmpI x y = -1) := by show _ = _; rw [HC.out, if_pos h1]
    go_wp2_with fail
    go_ret
    exact ⟨by rw [HV.out]; rfl, rfl⟩
  · by_cases h2 : y < x
    · have HV : Hid (Rl.cmpI x y = 1) := by show _ = _; rw [HC.out, if_neg h1, if_pos h2]
      go_wp2_with fail
      go_ret
      exact ⟨by rw [HV.out]; rfl, rfl⟩
    · have HV : Hid (Rl.cmpI x y = 0) := by show _ = _; rw [HC.out, if_neg h1, if_neg h2]
      go_wp2_with fail
      go_ret
      exact ⟨by rw [HV.out]; rfl, rfl⟩
theorem cmpL_drop (x y : List Int) (k : Nat) (hx : k < x.length) (hy : k < y.length) : Rl.cmpL (x.drop k) (y.drop k) = if Rl.cmpI (Sc.intD x k) (Sc.intD y k) = 0 then Rl.cmpL (x.drop (k + 1)) (y.drop (k + 1)) else Rl.cmpI (Sc.intD x k) (Sc.intD y k) := by
  have h1 : x.drop k = Sc.intD x k :: x.drop (k + 1) := by rw [List.drop_eq_getElem_cons hx]; simp [Sc.intD, List.getD_eq_getElem?_getD, hx]
  have h2 : y.drop k = Sc.intD y k :: y.drop (k + 1) := by rw [List.drop_eq_getElem_cons hy]; simp [Sc.intD, List.getD_eq_getElem?_getD, hy]
  rw [h1, h2, Rl.cmpL]
theorem cmpL_left (x y : List Int) (k : Nat) (hx : k < x.length) (hy : y.length ≤ k) : Rl.cmpL (x.drop k) (y.drop k) = 1 := by
  rw [List.drop_of_length_le hy, List.drop_eq_getElem_cons hx]
  rfl
theorem cmpL_right (x y : List Int) (k : Nat) (hx : x.length ≤ k) (hy : k < y.length) : Rl.cmpL (x.drop k) (y.drop k) = -1 := by
  rw [List.drop_of_length_le hx, List.drop_eq_getElem_cons hy]
  rfl

set_option maxRecDepth 100000 in
set_option maxHeartbeats 1000000 in
theorem cmpInts_any (x y : List Int) (v u : Value) (w : World) (hV : IntsV w v x) (hU : IntsV w u y) (hx : x.length ≤ 9223372036854775807) :
    Calls Tryz.prog 56 #[v, u] w fun e w' => e = .returned (.int .i64 (Rl.cmpL x y)) ∧ w' = w := by
  obtain ⟨ao, cap, rfl, hA⟩ := hV
  obtain ⟨bo, cbp, rfl, hB⟩ := hU
  have HA : Hid (IntsAt w ao x) := hA
  have HB : Hid (IntsAt w bo y) := hB
  clear hA hB
  go_enter Tryz.func56, Tryz.ntmps56
  go_wp2_with fail
  go_loopw [11] (fun i wr => ∃ k : Nat, k ≤ x.length ∧ k ≤ y.length ∧ i = .int .i64 k ∧ wr = w ∧ Rl.cmpL (x.drop k) (y.drop k) = Rl.cmpL x y) (fun i _ => x.length - (intOf i).toNat)
  case atStart => exact ⟨0, Nat.zero_le _, Nat.zero_le _, rfl, rfl, rfl⟩
  case round =>
    obtain ⟨k, hk, hk2, rfl, rfl, hq⟩ := hrel
    have HQ : Hid _ := hq
    clear hq
    by_cases hl : k < x.length
    · obtain ⟨b, off, rfl, p0⟩ := ints_at HA.out k hl
      by_cases hl2 : k < y.length
      · obtain ⟨b2, off2, rfl, p1⟩ := ints_at HB.out k hl2
        have HD : Hid (Rl.cmpL x y = if Rl.cmpI (Sc.intD x k) (Sc.intD y k) = 0 then Rl.cmpL (x.drop (k + 1)) (y.drop (k + 1)) else Rl.cmpI (Sc.intD x k) (Sc.intD y k)) := by show _ = _; rw [← HQ.out]; exact cmpL_drop x y k hl hl2
        clear HQ
        generalize Sc.intD x k = a at *
        generalize Sc.intD y k = b' at *
        go_wp2_with fail
        refine (cmpI_any a b' _).mono ?_
        rintro e w1 ⟨rfl, rfl⟩
        cases hc : (Rl.cmpI a b' != 0)
        · have h0 : Rl.cmpI a b' = 0 := by simpa using hc
          have HV : Hid (Rl.cmpL (x.drop (k + 1)) (y.drop (k + 1)) = Rl.cmpL x y) := by show _ = _; rw [HD.out, if_pos h0]
          clear HD h0
          go_wp2_with fail
          go_roundw
          case rel => exact ⟨k + 1, by omega, by omega, by go_num, trivial, HV.out⟩
          case measure => simp [intOf]; omega
        · have h0 : ¬ Rl.cmpI a b' = 0 := by simpa using hc
          have HV : Hid (Rl.cmpL x y = Rl.cmpI a b') := by show _ = _; rw [HD.out, if_neg h0]
          clear HD h0
          go_wp2_with fail
          go_ret
          exact ⟨by rw [HV.out]; rfl, rfl⟩
      · have HV : Hid (Rl.cmpL x y = 1) := by show _ = _; rw [← HQ.out]; exact cmpL_left x y k hl (by omega)
        go_wp2_with fail
        go_ret
        exact ⟨by rw [HV.out]; rfl, rfl⟩
    · by_cases hl2 : x.length < y.length
      · have HV : Hid (Rl.cmpL x y = -1) := by show _ = _; rw [← HQ.out]; exact cmpL_right x y k (by omega) (by omega)
        go_wp2_with fail
        go_ret
        exact ⟨by rw [HV.out]; rfl, rfl⟩
      · have HV : Hid (Rl.cmpL x y = 0) := by show _ = _; rw [← HQ.out, List.drop_of_length_le (by omega), List.drop_of_length_le (by omega)]; rfl
        go_wp2_with fail
        go_ret
        exact ⟨by rw [HV.out]; rfl, rfl⟩

/-- A fact's value. -/
abbrev fcVal (p : Int) (v : Value) : Value := .agg #[.int .i64 p, v]

def Rl.orI (x y : Int) : Int := if x = 0 then y else x
set_option maxRecDepth 100000 in
set_option maxHeartbeats 1000000 in
theorem or2_any (b : Nat) (x y : Int) (w : World) (h0 : w.cell? ⟨b, 0, none⟩ = some (.int .i64 x)) (h1 : w.cell? ⟨b, 1, none⟩ = some (.int .i64 y)) :
    Calls Tryz.prog 116 #[.slice (some ⟨b, 0, none⟩) 2 2] w fun e w' => e = .returned (.int .i64 (Rl.orI x y)) ∧ w' = w := by
  go_enter Tryz.func116, Tryz.ntmps116
  go_wp2_with fail
  go_loopw [8] (fun i wr => ∃ k : Nat, k ≤ 2 ∧ i = .int .i64 k ∧ wr = w ∧ (1 ≤ k → x = 0) ∧ (2 ≤ k → y = 0)) (fun i _ => 2 - (intOf i).toNat)
  case atStart => exact ⟨0, by omega, rfl, rfl, by omega, by omega⟩
  case round =>
    obtain ⟨k, hk, rfl, rfl, hx, hy⟩ := hrel
    have HX : Hid _ := hx
    have HY : Hid _ := hy
    clear hx hy
    match k, hk with
    | 0, _ =>
      cases hc : (x != 0)
      · have h9 : x = 0 := by simpa using hc
        have HZ : Hid (x = 0) := h9
        clear h9
        go_wp2_with fail
        go_roundw
        case rel => exact ⟨1, by omega, by go_num, trivial, fun _ => HZ.out, fun h => absurd h (by omega)⟩
        case measure => simp [intOf]
      · have HV : Hid (Rl.orI x y = x) := if_neg (by simpa using hc)
        go_wp2_with fail
        go_ret
        exact ⟨by rw [HV.out]; rfl, rfl⟩
    | 1, _ =>
      have HV : Hid (Rl.orI x y = y) := if_pos (HX.out (by omega))
      cases hc : (y != 0)
      · have HZ : Hid (y = 0) := by show y = 0; simpa using hc
        go_wp2_with fail
        go_roundw
        case rel => exact ⟨2, by omega, by go_num, trivial, fun _ => HX.out (by omega), fun _ => HZ.out⟩
        case measure => simp [intOf]
      · go_wp2_with fail
        go_ret
        exact ⟨by rw [HV.out]; rfl, rfl⟩
    | 2, _ =>
      have HV : Hid (Rl.orI x y = 0) := by show _ = _; unfold Rl.orI; rw [if_pos (HX.out (by omega))]; exact HY.out (by omega)
      go_wp2_with fail
      go_ret
      exact ⟨by rw [HV.out]; rfl, rfl⟩

set_option maxRecDepth 100000 in
set_option maxHeartbeats 1000000 in
theorem Order_any (f g : Rl.Fc) (v u : Value) (w : World) (hV : IntsV w v f.args) (hU : IntsV w u g.args) (hx : FFit f) (hy : FFit g) :
    Calls Tryz.prog 71 #[fcVal f.pred v, fcVal g.pred u] w fun e w' => e = .returned (.int .i64 (Rl.ord f g)) ∧ Gr w w' := by
  obtain ⟨p, x⟩ := f
  obtain ⟨q, y⟩ := g
  have hV : IntsV w v x := hV
  have hU : IntsV w u y := hU
  obtain ⟨ao, cap, rfl, _⟩ := id hV
  obtain ⟨bo, cbp, rfl, _⟩ := id hU
  have HV : Hid (∀ z, Below w.heap.size w z → Calls Tryz.prog 56 #[.slice ao x.length cap, .slice bo y.length cbp] z fun e w' => e = .returned (.int .i64 (Rl.cmpL x y)) ∧ w' = z) := fun z hz => cmpInts_any x y _ _ z (intsV_below hV hz) (intsV_below hU hz) hx
  have HG : Hid (Gr w (((w.alloc (.cells #[.int .i64 p, .slice ao x.length cap] 55)).alloc (.cells #[.int .i64 q, .slice bo y.length cbp] 55)))) := ((Gr.refl w).alloc _).alloc _
  have t2 := two_blocks (w := w) (o1 := .cells #[.int .i64 p, .slice ao x.length cap] 55) (o2 := .cells #[.int .i64 q, .slice bo y.length cbp] 55) (Below.refl _ _)
  have HO : Hid (Rl.ord ⟨p, x⟩ ⟨q, y⟩ = Rl.orI (Rl.cmpI p q) (Rl.cmpL x y)) := rfl
  clear hV hU hx hy
  go_enter Tryz.func71, Tryz.ntmps71
  go_upto_region 1 with fail
  generalize (w.alloc (.cells #[.int .i64 p, .slice ao x.length cap] 55)).alloc (.cells #[.int .i64 q, .slice bo y.length cbp] 55) = w2 at *
  have c0 : w2.cell? ⟨w.heap.size, 0, none⟩ = some (.int .i64 p) := by rw [Lib.cell_of_heap t2.1]; rfl
  have c1 : w2.cell? ⟨w.heap.size, 1, none⟩ = some (.slice ao x.length cap) := by rw [Lib.cell_of_heap t2.1]; rfl
  have d0 : w2.cell? ⟨w.heap.size + 1, 0, none⟩ = some (.int .i64 q) := by rw [Lib.cell_of_heap t2.2]; rfl
  have d1 : w2.cell? ⟨w.heap.size + 1, 1, none⟩ = some (.slice bo y.length cbp) := by rw [Lib.cell_of_heap t2.2]; rfl
  have HB : Hid (Below w.heap.size w w2) := HG.out.below
  clear t2
  generalize Rl.cmpL x y = cl at *
  have HI : Hid (∀ z, Calls Tryz.prog 104 #[.int .i64 p, .int .i64 q] z fun e w' => e = .returned (.int .i64 (Rl.cmpI p q)) ∧ w' = z) := fun z => cmpI_any p q z
  generalize Rl.cmpI p q = ci at *
  have HGA : ∀ a b o, Gr a b → Gr a (b.alloc o) := fun _ _ o h => h.alloc o
  have HGD : ∀ a b, Gr a b → Gr a b.drew := fun _ _ h => h.drew
  have HGR : Gr w2 w2 := Gr.refl w2
  have HV2 : Hid (∀ z, Gr w2 z → Calls Tryz.prog 56 #[.slice ao x.length cap, .slice bo y.length cbp] z fun e w' => e = .returned (.int .i64 cl) ∧ w' = z) := fun z hz => HV.out z (HB.out.trans (hz.below.mono HB.out.size))
  go_region_held3 (fun yy => yy.cell? ⟨w.heap.size, 0, none⟩ = some (.int .i64 p) ∧ yy.cell? ⟨w.heap.size, 1, none⟩ = some (.slice ao x.length cap) ∧ yy.cell? ⟨w.heap.size + 1, 0, none⟩ = some (.int .i64 q) ∧ yy.cell? ⟨w.heap.size + 1, 1, none⟩ = some (.slice bo y.length cbp) ∧ Gr w2 yy) (go_keep) (first
    | (go_at_call 104; refine Calls.mono (HI.out _) ?_; rintro e z1 ⟨rfl, rfl⟩)
    | (go_at_call 56; refine Calls.mono (HV2.out _ ?_) ?_; (simp [*]); rintro e z1 ⟨rfl, rfl⟩)
    | (go_at_call 116; refine Calls.mono (or2_any _ ci cl _ ?_ ?_) ?_; (simp); (simp); rintro e z1 ⟨rfl, rfl⟩))
  have HF : Hid (Gr w (w2.alloc (.cells #[.int .i64 ci, .int .i64 cl] 3)).drew) := (HG.out.alloc _).drew
  clear HGA HGD HGR HV2 HV HI HB c0 c1 d0 d1 HG
  go_wp2_with fail
  go_ret
  exact ⟨by rw [HO.out]; rfl, HF.out⟩

set_option maxRecDepth 100000 in
set_option maxHeartbeats 1000000 in
theorem same_any (f g : Rl.Fc) (v u : Value) (w : World) (hV : IntsV w v f.args) (hU : IntsV w u g.args) (hx : FFit f) (hy : FFit g) :
    Calls Tryz.prog 148 #[fcVal f.pred v, fcVal g.pred u] w fun e w' => e = .returned (.bool (Rl.ord f g == 0)) ∧ Gr w w' := by
  obtain ⟨p, x⟩ := f
  obtain ⟨q, y⟩ := g
  have hV : IntsV w v x := hV
  have hU : IntsV w u y := hU
  obtain ⟨ao, cap, rfl, _⟩ := id hV
  obtain ⟨bo, cbp, rfl, _⟩ := id hU
  have hg2 : Gr w (((w.alloc (.cells #[.int .i64 p, .slice ao x.length cap] 55)).alloc (.cells #[.int .i64 q, .slice bo y.length cbp] 55))) := ((Gr.refl w).alloc _).alloc _
  have HC : Hid (Calls Tryz.prog 71 #[fcVal p (.slice ao x.length cap), fcVal q (.slice bo y.length cbp)] (((w.alloc (.cells #[.int .i64 p, .slice ao x.length cap] 55)).alloc (.cells #[.int .i64 q, .slice bo y.length cbp] 55))) fun e w' => e = .returned (.int .i64 (Rl.ord ⟨p, x⟩ ⟨q, y⟩)) ∧ Gr (((w.alloc (.cells #[.int .i64 p, .slice ao x.length cap] 55)).alloc (.cells #[.int .i64 q, .slice bo y.length cbp] 55))) w') := Order_any ⟨p, x⟩ ⟨q, y⟩ _ _ _ (intsV_below hV hg2.below) (intsV_below hU hg2.below) hx hy
  clear hV hU hx hy
  go_enter Tryz.func148, Tryz.ntmps148
  go_wp2_with fail
  refine Calls.mono HC.out ?_
  rintro e w3 ⟨rfl, hg3⟩
  have hg := hg2.trans hg3
  clear HC hg2 hg3
  go_wp2_with fail
  go_ret
  exact ⟨rfl, hg⟩

end Go.Proofs.YthenjegmigeieaaGreat

/- The contract of the library sort of facts, laid at this program. -/
namespace Go.Proofs
open Go.Shelf
def Tryz.sortF_ren : Go.Shelf.Ren := ⟨fun | 6 => 106 | 15 => 103 | 14 => 160 | 28 => 157 | 29 => 158 | 20 => 195 | 21 => 196 | 22 => 197 | 23 => 198 | 24 => 199 | 25 => 200 | 26 => 201 | 27 => 202 | 46 => 215 | 47 => 191 | 48 => 192 | 49 => 216 | 50 => 217 | 57 => 227 | n => n, fun | 22 => 27 | 24 => 55 | 25 => 78 | 3 => 3 | 39 => 144 | 0 => 0 | 53 => 194 | 55 => 196 | 4 => 4 | 46 => 188 | 45 => 187 | 50 => 180 | 5 => 5 | 9 => 9 | 66 => 222 | 70 => 226 | 76 => 248 | 77 => 233 | n => n, fun | n => n⟩
theorem Tryz.sortF : Go.Proofs.SlLaysF0.n6 Tryz.prog Tryz.sortF_ren := {
  mixed := by kernel_rfl
  f6 := ⟨Tryz.f106.name, by decide, Tryz.func106.trans (congrArg some (by kernel_rfl))⟩
  f14 := ⟨Tryz.f160.name, by decide, Tryz.func160.trans (congrArg some (by kernel_rfl))⟩
  f15 := Tryz.func103.trans (congrArg some (by kernel_rfl))
  f20 := ⟨Tryz.f195.name, by decide, Tryz.func195.trans (congrArg some (by kernel_rfl))⟩
  f21 := ⟨Tryz.f196.name, by decide, Tryz.func196.trans (congrArg some (by kernel_rfl))⟩
  f22 := ⟨Tryz.f197.name, by decide, Tryz.func197.trans (congrArg some (by kernel_rfl))⟩
  f23 := ⟨Tryz.f198.name, by decide, Tryz.func198.trans (congrArg some (by kernel_rfl))⟩
  f24 := ⟨Tryz.f199.name, by decide, Tryz.func199.trans (congrArg some (by kernel_rfl))⟩
  f25 := ⟨Tryz.f200.name, by decide, Tryz.func200.trans (congrArg some (by kernel_rfl))⟩
  f26 := ⟨Tryz.f201.name, by decide, Tryz.func201.trans (congrArg some (by kernel_rfl))⟩
  f27 := ⟨Tryz.f202.name, by decide, Tryz.func202.trans (congrArg some (by kernel_rfl))⟩
  f28 := Tryz.func157.trans (congrArg some (by kernel_rfl))
  f29 := Tryz.func158.trans (congrArg some (by kernel_rfl))
  f46 := ⟨Tryz.f215.name, by decide, Tryz.func215.trans (congrArg some (by kernel_rfl))⟩
  f47 := Tryz.func191.trans (congrArg some (by kernel_rfl))
  f48 := Tryz.func192.trans (congrArg some (by kernel_rfl))
  f49 := ⟨Tryz.f216.name, by decide, Tryz.func216.trans (congrArg some (by kernel_rfl))⟩
  f50 := ⟨Tryz.f217.name, by decide, Tryz.func217.trans (congrArg some (by kernel_rfl))⟩
  f57 := ⟨Tryz.f227.name, by decide, Tryz.func227.trans (congrArg some (by kernel_rfl))⟩
  t0 := Tryz.underlying0
  a0 := Tryz.isAgg0
  z0 := Tryz.sizeOf0
  v0 := Tryz.zeroValue0
  t3 := Tryz.underlying3
  a3 := Tryz.isAgg3
  z3 := Tryz.sizeOf3
  v3 := Tryz.zeroValue3
  t4 := Tryz.underlying4
  a4 := Tryz.isAgg4
  z4 := Tryz.sizeOf4
  v4 := Tryz.zeroValue4
  t5 := Tryz.underlying5
  a5 := Tryz.isAgg5
  z5 := Tryz.sizeOf5
  v5 := Tryz.zeroValue5
  t9 := Tryz.underlying9
  a9 := Tryz.isAgg9
  z9 := Tryz.sizeOf9
  v9 := Tryz.zeroValue9
  t22 := Tryz.underlying27
  a22 := Tryz.isAgg27
  z22 := Tryz.sizeOf27
  v22 := Tryz.zeroValue27
  t25 := Tryz.underlying78
  a25 := Tryz.isAgg78
  z25 := Tryz.sizeOf78
  v25 := Tryz.zeroValue78
  t39 := Tryz.underlying144
  a39 := Tryz.isAgg144
  z39 := Tryz.sizeOf144
  v39 := Tryz.zeroValue144
  t45 := Tryz.underlying187
  a45 := Tryz.isAgg187
  z45 := Tryz.sizeOf187
  v45 := Tryz.zeroValue187
  t46 := Tryz.underlying188
  a46 := Tryz.isAgg188
  z46 := Tryz.sizeOf188
  v46 := Tryz.zeroValue188
  t50 := Tryz.underlying180
  a50 := Tryz.isAgg180
  z50 := Tryz.sizeOf180
  v50 := Tryz.zeroValue180
  t53 := Tryz.underlying194
  a53 := Tryz.isAgg194
  z53 := Tryz.sizeOf194
  v53 := Tryz.zeroValue194
  t55 := Tryz.underlying196
  a55 := Tryz.isAgg196
  z55 := Tryz.sizeOf196
  v55 := Tryz.zeroValue196
  t66 := Tryz.underlying222
  a66 := Tryz.isAgg222
  z66 := Tryz.sizeOf222
  v66 := Tryz.zeroValue222
  t70 := Tryz.underlying226
  a70 := Tryz.isAgg226
  z70 := Tryz.sizeOf226
  v70 := Tryz.zeroValue226
  t76 := Tryz.underlying248
  a76 := Tryz.isAgg248
  z76 := Tryz.sizeOf248
  v76 := Tryz.zeroValue248
  t77 := Tryz.underlying233
  a77 := Tryz.isAgg233
  z77 := Tryz.sizeOf233
  v77 := Tryz.zeroValue233 }
end Go.Proofs

/- What the parser answers, plain: tokens in, a tree or a place out. -/
namespace Go.Proofs.YthenjegmigeieaaGreat
namespace Pr

/-- The next token; behind the last one, one of no kind at the text's end. -/
def hd (en : Int) (r : List Tk.Tok) : Tk.Tok := match r with | [] => ⟨0, en, []⟩ | t :: _ => t
/-- The number of digits. -/
def num (s : List UInt8) : Int := (Lib.atoi s).getD 0
def must (t : List UInt8) (en : Int) (r : List Tk.Tok) : Int ⊕ List Tk.Tok := if (hd en r).text == t then .inr r.tail else .inl (hd en r).at_
def name (en : Int) (r : List Tk.Tok) : Int ⊕ (List UInt8 × List Tk.Tok) :=
  if ((hd en r).kind == 1) && !Tr.isWord (hd en r).text then .inr ((hd en r).text, r.tail) else .inl (hd en r).at_
def number (en : Int) (r : List Tk.Tok) : Int ⊕ (Int × List Tk.Tok) := if (hd en r).kind == 3 then .inr (num (hd en r).text, r.tail) else .inl (hd en r).at_
/-- What stands behind a '-'. -/
def neg (en : Int) (r : List Tk.Tok) : Int ⊕ (Tr.Term × List Tk.Tok) :=
  if (hd en r).text == [48] then .inl (hd en r).at_ else match number en r with
    | .inl a => .inl a
    | .inr x => .inr (⟨[], -x.1⟩, x.2)
def term (en : Int) (r : List Tk.Tok) : Int ⊕ (Tr.Term × List Tk.Tok) :=
  if (hd en r).kind == 2 then .inr (⟨(hd en r).text, 0⟩, r.tail)
  else if (hd en r).kind == 3 then .inr (⟨[], num (hd en r).text⟩, r.tail)
  else match must [45] en r with
    | .inl a => .inl a
    | .inr r1 => neg en r1
/-- A fold, if the next token is one. -/
def foldAt (en : Int) (r : List Tk.Tok) : Int × List Tk.Tok := if Tr.foldOf (hd en r).text != 0 then (Tr.foldOf (hd en r).text, r.tail) else (0, r)
def foldMay (may : Bool) (en : Int) (r : List Tk.Tok) : Int × List Tk.Tok := if may then foldAt en r else (0, r)
def isText (en : Int) (r : List Tk.Tok) (t : List UInt8) : Bool := (hd en r).text == t
/-- Terms from here on, a comma between, behind those that came. -/
def more (may : Bool) (en : Int) : Nat → List Tr.Term → List Tk.Tok → Int ⊕ ((List Tr.Term × Int) × List Tk.Tok)
  | 0, _, _ => .inl 0
  | f + 1, acc, r => match term en (foldMay may en r).2 with
    | .inl a => .inl a
    | .inr x => if ((foldMay may en r).1 == 0) && isText en x.2 [44] then more may en f (acc ++ [x.1]) x.2.tail else .inr ((acc ++ [x.1], (foldMay may en r).1), x.2)
/-- What stands behind the bracket. -/
def inside (may : Bool) (en : Int) (r : List Tk.Tok) : Int ⊕ ((List Tr.Term × Int) × List Tk.Tok) :=
  if isText en r [41] then .inr (([], 0), r.tail) else match more may en (r.length + 1) [] r with
    | .inl a => .inl a
    | .inr x => match must [41] en x.2 with
      | .inl a => .inl a
      | .inr r3 => .inr (x.1, r3)
def terms (may : Bool) (en : Int) (r : List Tk.Tok) : Int ⊕ ((List Tr.Term × Int) × List Tk.Tok) := match must [40] en r with
  | .inl a => .inl a
  | .inr r1 => inside may en r1
def opOf (s : List UInt8) : Int :=
  if s == [60] then 1 else if s == [60, 61] then 2 else if s == [61] then 3 else if s == [33, 61] then 4 else if s == [43] then 5 else if s == [45] then 6 else if s == [42] then 7 else 0
def op (en : Int) (r : List Tk.Tok) : Int ⊕ (Int × List Tk.Tok) := if opOf (hd en r).text != 0 then .inr (opOf (hd en r).text, r.tail) else .inl (hd en r).at_
/-- A name and terms. -/
def atom (kind at_ : Int) (en : Int) (r : List Tk.Tok) : Int ⊕ (Tr.Lit × List Tk.Tok) := match name en r with
  | .inl a => .inl a
  | .inr x => match terms false en x.2 with
    | .inl a => .inl a
    | .inr y => .inr (⟨kind, at_, 0, x.1, y.1.1⟩, y.2)
def calcLit (at_ o : Int) (a b : Tr.Term) (en : Int) (r : List Tk.Tok) : Int ⊕ (Tr.Lit × List Tk.Tok) := match must [61] en r with
  | .inl p => .inl p
  | .inr r1 => match term en r1 with
    | .inl p => .inl p
    | .inr z => .inr (⟨4, at_, o, [], [a, b, z.1]⟩, z.2)
def reckon (at_ : Int) (en : Int) (r : List Tk.Tok) : Int ⊕ (Tr.Lit × List Tk.Tok) := match term en r with
  | .inl p => .inl p
  | .inr a => match op en a.2 with
    | .inl p => .inl p
    | .inr o => match term en o.2 with
      | .inl p => .inl p
      | .inr b => if Tr.between o.1 5 7 then calcLit at_ o.1 a.1 b.1 en b.2 else .inr (⟨3, at_, o.1, [], [a.1, b.1]⟩, b.2)
def lit (en : Int) (r : List Tk.Tok) : Int ⊕ (Tr.Lit × List Tk.Tok) :=
  if isText en r [110, 111, 116] then atom 2 (hd en r).at_ en r.tail
  else if (hd en r).kind == 1 then atom 1 (hd en r).at_ en r
  else reckon (hd en r).at_ en r
def lits (en : Int) : Nat → List Tr.Lit → List Tk.Tok → Int ⊕ (List Tr.Lit × List Tk.Tok)
  | 0, _, _ => .inl 0
  | f + 1, acc, r => match lit en r with
    | .inl a => .inl a
    | .inr x => if isText en x.2 [44] then lits en f (acc ++ [x.1]) x.2.tail else .inr (acc ++ [x.1], x.2)
/-- What stands behind a head that is no fact. -/
def tailOf (at_ : Int) (nm : List UInt8) (l : List Tr.Term) (fo : Int) (en : Int) (r : List Tk.Tok) : Int ⊕ (Tr.Rule × List Tk.Tok) := match must [58, 45] en r with
  | .inl p => .inl p
  | .inr r1 => match lits en (r1.length + 1) [] r1 with
    | .inl p => .inl p
    | .inr b => match must [46] en b.2 with
      | .inl p => .inl p
      | .inr r2 => .inr (⟨at_, nm, l, fo, b.1⟩, r2)
def rule (en : Int) (r : List Tk.Tok) : Int ⊕ (Tr.Rule × List Tk.Tok) := match name en r with
  | .inl p => .inl p
  | .inr x => match terms true en x.2 with
    | .inl p => .inl p
    | .inr y => if (y.1.2 == 0) && isText en y.2 [46] then .inr (⟨(hd en r).at_, x.1, y.1.1, y.1.2, []⟩, y.2.tail) else tailOf (hd en r).at_ x.1 y.1.1 y.1.2 en y.2
def rules (en : Int) : Nat → List Tr.Rule → List Tk.Tok → Int ⊕ List Tr.Rule
  | 0, acc, _ => .inr acc
  | f + 1, acc, r => match r with
    | [] => .inr acc
    | _ :: _ => match rule en r with
      | .inl a => .inl a
      | .inr x => rules en f (acc ++ [x.1]) x.2
/-- What Parse answers: a tree, where it is wrong, and why. -/
def parse (L : List UInt8) : List Tr.Rule × Int × Int :=
  if (Tk.scan L).2.2 = 0 then match rules L.length ((Tk.scan L).1.length) [] (Tk.scan L).1 with
    | .inl a => ([], a, 1)
    | .inr t => if Tr.check t = 0 then (t, 0, 0) else ([], 0, Tr.check t)
  else ([], (Tk.scan L).2.1, (Tk.scan L).2.2)
end Pr
end Go.Proofs.YthenjegmigeieaaGreat

/- Package tree: terms that are right. -/
namespace Go.Proofs.YthenjegmigeieaaGreat
open Go.RowKit

set_option maxRecDepth 100000 in
set_option maxHeartbeats 400000 in
theorem termIsRight_any (t : Tr.Term) (w : World) : Calls Tryz.prog 235 #[termVal t] w fun e w' => e = .returned (.bool (Tr.termOk t)) ∧ Below w.heap.size w w' := by
  unfold Tr.termOk
  cases h1 : t.var.isEmpty
  · cases h2 : (t.n == 0)
    · go_enter Tryz.func235, Tryz.ntmps235
      go_wp2
      go_ret
      exact ⟨rfl, (Below.refl _ _).alloc (Nat.le_refl _) _⟩
    · go_enter Tryz.func235, Tryz.ntmps235
      go_wp2_with fail
      refine (isToken_any t.var 2 _).mono ?_
      rintro e w1 ⟨rfl, hb⟩
      go_wp2
      go_ret
      exact ⟨rfl, below_box hb⟩
  · unfold Tr.between
    by_cases h : -9999999 ≤ t.n
    · go_enter Tryz.func235, Tryz.ntmps235
      go_wp2
      go_ret
      exact ⟨by simp, (Below.refl _ _).alloc (Nat.le_refl _) _⟩
    · have hd : decide (-9999999 ≤ t.n) = false := by simpa using h
      go_enter Tryz.func235, Tryz.ntmps235
      go_wp2
      go_ret
      exact ⟨rfl, (Below.refl _ _).alloc (Nat.le_refl _) _⟩

set_option maxRecDepth 100000 in
set_option maxHeartbeats 400000 in
theorem termsAreRight_none (w : World) (ao : Option Addr) (cap : Nat) : Calls Tryz.prog 229 #[.slice ao 0 cap] w fun e w' => e = .returned (.bool true) ∧ Below w.heap.size w w' := by
  go_enter Tryz.func229, Tryz.ntmps229
  go_wp2_with fail
  refine wp_loop_rounds 1 ?_
  rw [rounds_succ]
  go_wp2_with fail
  go_ret
  exact ⟨rfl, Below.refl _ _⟩

set_option maxRecDepth 100000 in
set_option maxHeartbeats 400000 in
theorem termsAreRight_some (l : List Tr.Term) (w : World) (n b off cap : Nat) (hn : l.length = n) (hmax : n ≤ 140737488355328) (hA : ∀ i, i < n → TermIn w b (off + i * 2) (Tr.termD l i)) :
    Calls Tryz.prog 229 #[.slice (some ⟨b, off, none⟩) n cap] w fun e w' => e = .returned (.bool (Tr.termsOk l)) ∧ Below w.heap.size w w' := by
  have HN : Hid (l.length = n) := hn
  clear hn
  go_enter Tryz.func229, Tryz.ntmps229
  go_wp2_with fail
  go_loopw [7] (fun i wr => ∃ k : Nat, k ≤ n ∧ i = .int .i64 k ∧ Tr.termsOk l = (l.drop k).all Tr.termOk ∧ Below w.heap.size w wr) (fun i _ => n - (intOf i).toNat)
  case atStart => exact ⟨0, Nat.zero_le _, rfl, rfl, Below.refl _ _⟩
  case round =>
    obtain ⟨k, hk, rfl, hall, hbel⟩ := hrel
    have HA : Hid (Tr.termsOk l = (l.drop k).all Tr.termOk) := hall
    clear hall
    by_cases hlt : k < n
    · obtain ⟨a0, a1⟩ := hA k hlt
      have hbw : b < w.heap.size := World.block_lt_of_cell? w _ a0
      have a0' := (hbel.cell (p := ⟨b, off + k * 2, none⟩) hbw).trans a0
      have a1' := (hbel.cell (p := ⟨b, off + k * 2 + 1, none⟩) hbw).trans a1
      have HD : Hid (Tr.termsOk l = (Tr.termOk (Tr.termD l k) && (l.drop (k + 1)).all Tr.termOk)) := HA.out.trans (all_drop _ _ _ k (by rw [HN.out]; exact hlt))
      clear a0 a1 hA HA
      generalize Tr.termD l k = t at *
      cases hT : Tr.termOk t
      · have HV : Hid (Tr.termsOk l = false) := by show _ = _; rw [HD.out, hT]; rfl
        go_wp2_with fail
        refine (termIsRight_any t _).mono ?_
        rintro e w1 ⟨he, hb1⟩
        rw [hT] at he
        subst he
        have hb2 := hbel.trans ((below_box hb1).mono hbel.size)
        go_wp2_with fail
        go_ret
        exact ⟨ret_bool HV.out.symm, hb2⟩
      · have HV : Hid (Tr.termsOk l = (l.drop (k + 1)).all Tr.termOk) := by show _ = _; rw [HD.out, hT]; rfl
        go_wp2_with fail
        refine (termIsRight_any t _).mono ?_
        rintro e w1 ⟨he, hb1⟩
        rw [hT] at he
        subst he
        have hb2 := hbel.trans ((below_box hb1).mono hbel.size)
        clear hb1 hT HD
        go_wp2_with fail
        go_roundw
        case rel => exact ⟨k + 1, by omega, by go_num, HV.out, hb2⟩
        case measure => simp [intOf]; omega
    · have HV : Hid (Tr.termsOk l = true) := by show _ = _; rw [HA.out, List.drop_of_length_le (by rw [HN.out]; omega)]; rfl
      clear hA
      go_wp2_with fail
      go_ret
      exact ⟨ret_bool HV.out.symm, hbel⟩

theorem termsAreRight_any (l : List Tr.Term) (v : Value) (w : World) (hmax : l.length ≤ 140737488355328) (hA : TermsV w v l) :
    Calls Tryz.prog 229 #[v] w fun e w' => e = .returned (.bool (Tr.termsOk l)) ∧ Below w.heap.size w w' := by
  obtain ⟨ao, cap, rfl, hA⟩ := hA
  rcases hA with rfl | ⟨b, off, rfl, hA⟩
  · exact termsAreRight_none w ao cap
  · exact termsAreRight_some l w l.length b off cap rfl hmax hA

end Go.Proofs.YthenjegmigeieaaGreat

/- Package tree: literals and rules that are right. -/
namespace Go.Proofs.YthenjegmigeieaaGreat
open Go.RowKit

abbrev litObj (x : Tr.Lit) (v : Value) : Obj := .cells #[.int .i64 x.kind, .int .i64 x.at_, .int .i64 x.op, .string ⟨x.name.toArray⟩, v] 260
abbrev ruleObj (r : Tr.Rule) (v u : Value) : Obj := .cells #[.int .i64 r.at_, .string ⟨r.name.toArray⟩, v, .int .i64 r.fold, u] 240

theorem litBox {w w1 : World} {x : Tr.Lit} {v : Value} (hb : Below (w.alloc (litObj x v)).heap.size (w.alloc (litObj x v)) w1) :
    w1.cell? ⟨w.heap.size, 0, none⟩ = some (.int .i64 x.kind) ∧ w1.cell? ⟨w.heap.size, 1, none⟩ = some (.int .i64 x.at_) ∧ w1.cell? ⟨w.heap.size, 2, none⟩ = some (.int .i64 x.op) ∧
    w1.cell? ⟨w.heap.size, 3, none⟩ = some (.string ⟨x.name.toArray⟩) ∧ w1.cell? ⟨w.heap.size, 4, none⟩ = some v := by
  obtain ⟨hc, hf⟩ := bcell hb
  have h : w.heap.size < (w.alloc (litObj x v)).heap.size := by simp
  refine ⟨?_, ?_, ?_, ?_, ?_⟩
  · rw [hc _ _ h]; simp [go_sem]
  · rw [hc _ _ h]; simp [go_sem]
  · rw [hc _ _ h]; simp [go_sem]
  · rw [hc _ _ h]; simp [go_sem]
  · rw [hc _ _ h]; simp [go_sem]
theorem ruleBox {w w1 : World} {r : Tr.Rule} {v u : Value} (hb : Below (w.alloc (ruleObj r v u)).heap.size (w.alloc (ruleObj r v u)) w1) :
    w1.cell? ⟨w.heap.size, 0, none⟩ = some (.int .i64 r.at_) ∧ w1.cell? ⟨w.heap.size, 1, none⟩ = some (.string ⟨r.name.toArray⟩) ∧ w1.cell? ⟨w.heap.size, 2, none⟩ = some v ∧
    w1.cell? ⟨w.heap.size, 3, none⟩ = some (.int .i64 r.fold) ∧ w1.cell? ⟨w.heap.size, 4, none⟩ = some u := by
  obtain ⟨hc, hf⟩ := bcell hb
  have h : w.heap.size < (w.alloc (ruleObj r v u)).heap.size := by simp
  refine ⟨?_, ?_, ?_, ?_, ?_⟩
  · rw [hc _ _ h]; simp [go_sem]
  · rw [hc _ _ h]; simp [go_sem]
  · rw [hc _ _ h]; simp [go_sem]
  · rw [hc _ _ h]; simp [go_sem]
  · rw [hc _ _ h]; simp [go_sem]
theorem below_alloc (w : World) (o : Obj) : Below w.heap.size w (w.alloc o) := (Below.refl _ _).alloc (Nat.le_refl _) _

set_option maxRecDepth 100000 in
set_option maxHeartbeats 1000000 in
theorem litIsRight_any (x : Tr.Lit) (v : Value) (w : World) (hmax : x.terms.length ≤ 140737488355328) (hA : TermsV w v x.terms) :
    Calls Tryz.prog 231 #[litVal x v] w fun e w' => e = .returned (.bool (Tr.litOk x)) ∧ Below w.heap.size w w' := by
  have HC : Hid (_) := termsAreRight_any x.terms v (w.alloc (litObj x v)) hmax (termsV_below hA (below_alloc _ _))
  obtain ⟨ao, cap, rfl, _⟩ := hA
  have HV : Hid (Tr.litOk x = (Tr.termsOk x.terms && (if x.kind = 1 ∨ x.kind = 2 then (x.op == 0) && Tr.isName x.name
    else if x.kind = 3 then Tr.between x.op 1 4 && x.name.isEmpty && ((x.terms.length : Int) == 2)
    else if x.kind = 4 then Tr.between x.op 5 7 && x.name.isEmpty && ((x.terms.length : Int) == 3) else false))) := rfl
  generalize Tr.litOk x = V at *
  cases hT : Tr.termsOk x.terms
  · have HF : Hid (V = false) := by show _ = _; rw [HV.out, hT]; rfl
    clear HV
    go_enter Tryz.func231, Tryz.ntmps231
    go_wp2_with fail
    refine Calls.mono HC.out ?_
    rintro e w1 ⟨he, hb⟩
    rw [hT] at he
    subst he
    go_wp2_with fail
    go_ret
    exact ⟨ret_bool HF.out.symm, below_box hb⟩
  · rw [hT, Bool.true_and] at HV
    by_cases k12 : x.kind = 1 ∨ x.kind = 2
    · rw [if_pos k12] at HV
      cases g0 : (x.op == 0)
      · have HF : Hid (V = false) := by show _ = _; rw [HV.out, g0]; rfl
        clear HV
        rcases k12 with k1 | k2
        · have t1 : (x.kind == 1) = true := beq_iff_eq.2 k1
          clear k1
          go_enter Tryz.func231, Tryz.ntmps231
          go_wp2_with fail
          refine Calls.mono HC.out ?_
          rintro e w1 ⟨he, hb⟩
          rw [hT] at he
          subst he
          obtain ⟨c0, c1, c2, c3, c4⟩ := litBox hb
          go_wp2_with fail
          go_ret
          exact ⟨ret_bool HF.out.symm, below_box hb⟩
        · have t1 : (x.kind == 1) = false := beq_eq_false_iff_ne.2 (by omega)
          have t2 : (x.kind == 2) = true := beq_iff_eq.2 k2
          clear k2
          go_enter Tryz.func231, Tryz.ntmps231
          go_wp2_with fail
          refine Calls.mono HC.out ?_
          rintro e w1 ⟨he, hb⟩
          rw [hT] at he
          subst he
          obtain ⟨c0, c1, c2, c3, c4⟩ := litBox hb
          go_wp2_with fail
          go_ret
          exact ⟨ret_bool HF.out.symm, below_box hb⟩
      · have HF : Hid (V = Tr.isName x.name) := by show _ = _; rw [HV.out, g0]; rfl
        clear HV
        rcases k12 with k1 | k2
        · have t1 : (x.kind == 1) = true := beq_iff_eq.2 k1
          clear k1
          go_enter Tryz.func231, Tryz.ntmps231
          go_wp2_with fail
          refine Calls.mono HC.out ?_
          rintro e w1 ⟨he, hb⟩
          rw [hT] at he
          subst he
          obtain ⟨c0, c1, c2, c3, c4⟩ := litBox hb
          go_wp2_with fail
          refine (isName_any x.name _).mono ?_
          rintro e w2 ⟨rfl, hb2⟩
          go_wp2_with fail
          go_ret
          exact ⟨ret_bool HF.out.symm, (below_box hb).trans (hb2.mono (below_box hb).size)⟩
        · have t1 : (x.kind == 1) = false := beq_eq_false_iff_ne.2 (by omega)
          have t2 : (x.kind == 2) = true := beq_iff_eq.2 k2
          clear k2
          go_enter Tryz.func231, Tryz.ntmps231
          go_wp2_with fail
          refine Calls.mono HC.out ?_
          rintro e w1 ⟨he, hb⟩
          rw [hT] at he
          subst he
          obtain ⟨c0, c1, c2, c3, c4⟩ := litBox hb
          go_wp2_with fail
          refine (isName_any x.name _).mono ?_
          rintro e w2 ⟨rfl, hb2⟩
          go_wp2_with fail
          go_ret
          exact ⟨ret_bool HF.out.symm, (below_box hb).trans (hb2.mono (below_box hb).size)⟩
    · rw [if_neg k12] at HV
      have t1 : (x.kind == 1) = false := beq_eq_false_iff_ne.2 (fun h => k12 (.inl h))
      have t2 : (x.kind == 2) = false := beq_eq_false_iff_ne.2 (fun h => k12 (.inr h))
      clear k12
      by_cases k3 : x.kind = 3
      · rw [if_pos k3] at HV
        have t3 : (x.kind == 3) = true := beq_iff_eq.2 k3
        clear k3
        cases g0 : Tr.between x.op 1 4
        · have HF : Hid (V = false) := by show _ = _; rw [HV.out, g0]; rfl
          clear HV
          go_enter Tryz.func231, Tryz.ntmps231
          go_wp2_with fail
          refine Calls.mono HC.out ?_
          rintro e w1 ⟨he, hb⟩
          rw [hT] at he
          subst he
          obtain ⟨c0, c1, c2, c3, c4⟩ := litBox hb
          go_wp2_with (go_at_call 236; refine (isTest_any _ _).mono ?_; rintro e w' ⟨rfl, rfl⟩)
          go_ret
          exact ⟨ret_bool HF.out.symm, below_box hb⟩
        · cases g1 : x.name.isEmpty
          · have HF : Hid (V = false) := by show _ = _; rw [HV.out, g1]; simp
            clear HV
            go_enter Tryz.func231, Tryz.ntmps231
            go_wp2_with fail
            refine Calls.mono HC.out ?_
            rintro e w1 ⟨he, hb⟩
            rw [hT] at he
            subst he
            obtain ⟨c0, c1, c2, c3, c4⟩ := litBox hb
            go_wp2_with (go_at_call 236; refine (isTest_any _ _).mono ?_; rintro e w' ⟨rfl, rfl⟩)
            go_ret
            exact ⟨ret_bool HF.out.symm, below_box hb⟩
          · have HF : Hid (V = ((x.terms.length : Int) == 2)) := by show _ = _; rw [HV.out, g0, g1]; rfl
            clear HV
            go_enter Tryz.func231, Tryz.ntmps231
            go_wp2_with fail
            refine Calls.mono HC.out ?_
            rintro e w1 ⟨he, hb⟩
            rw [hT] at he
            subst he
            obtain ⟨c0, c1, c2, c3, c4⟩ := litBox hb
            go_wp2_with (go_at_call 236; refine (isTest_any _ _).mono ?_; rintro e w' ⟨rfl, rfl⟩)
            go_ret
            exact ⟨ret_bool HF.out.symm, below_box hb⟩
      · rw [if_neg k3] at HV
        have t3 : (x.kind == 3) = false := beq_eq_false_iff_ne.2 k3
        clear k3
        by_cases k4 : x.kind = 4
        · rw [if_pos k4] at HV
          have t4 : (x.kind == 4) = true := beq_iff_eq.2 k4
          clear k4
          cases g0 : Tr.between x.op 5 7
          · have HF : Hid (V = false) := by show _ = _; rw [HV.out, g0]; rfl
            clear HV
            go_enter Tryz.func231, Tryz.ntmps231
            go_wp2_with fail
            refine Calls.mono HC.out ?_
            rintro e w1 ⟨he, hb⟩
            rw [hT] at he
            subst he
            obtain ⟨c0, c1, c2, c3, c4⟩ := litBox hb
            go_wp2_with (go_at_call 237; refine (isCalc_any _ _).mono ?_; rintro e w' ⟨rfl, rfl⟩)
            go_ret
            exact ⟨ret_bool HF.out.symm, below_box hb⟩
          · cases g1 : x.name.isEmpty
            · have HF : Hid (V = false) := by show _ = _; rw [HV.out, g1]; simp
              clear HV
              go_enter Tryz.func231, Tryz.ntmps231
              go_wp2_with fail
              refine Calls.mono HC.out ?_
              rintro e w1 ⟨he, hb⟩
              rw [hT] at he
              subst he
              obtain ⟨c0, c1, c2, c3, c4⟩ := litBox hb
              go_wp2_with (go_at_call 237; refine (isCalc_any _ _).mono ?_; rintro e w' ⟨rfl, rfl⟩)
              go_ret
              exact ⟨ret_bool HF.out.symm, below_box hb⟩
            · have HF : Hid (V = ((x.terms.length : Int) == 3)) := by show _ = _; rw [HV.out, g0, g1]; rfl
              clear HV
              go_enter Tryz.func231, Tryz.ntmps231
              go_wp2_with fail
              refine Calls.mono HC.out ?_
              rintro e w1 ⟨he, hb⟩
              rw [hT] at he
              subst he
              obtain ⟨c0, c1, c2, c3, c4⟩ := litBox hb
              go_wp2_with (go_at_call 237; refine (isCalc_any _ _).mono ?_; rintro e w' ⟨rfl, rfl⟩)
              go_ret
              exact ⟨ret_bool HF.out.symm, below_box hb⟩
        · rw [if_neg k4] at HV
          have t4 : (x.kind == 4) = false := beq_eq_false_iff_ne.2 k4
          have HF : Hid (V = false) := HV.out
          clear k4 HV
          go_enter Tryz.func231, Tryz.ntmps231
          go_wp2_with fail
          refine Calls.mono HC.out ?_
          rintro e w1 ⟨he, hb⟩
          rw [hT] at he
          subst he
          obtain ⟨c0, c1, c2, c3, c4⟩ := litBox hb
          go_wp2_with fail
          go_ret
          exact ⟨ret_bool HF.out.symm, below_box hb⟩

set_option maxRecDepth 100000 in
set_option maxHeartbeats 1000000 in
theorem foldIsRight_any (r : Tr.Rule) (ao bo : Option Addr) (ca cb : Nat) (w : World) :
    Calls Tryz.prog 230 #[ruleVal r (.slice ao r.terms.length ca) (.slice bo r.body.length cb)] w fun e w' => e = .returned (.bool (Tr.foldOk r.fold r.terms.length r.body.length)) ∧ Below w.heap.size w w' := by
  have HV : Hid (Tr.foldOk r.fold r.terms.length r.body.length = ((r.fold == 0) || (decide (1 ≤ r.fold) && decide (r.fold ≤ 4) && decide (0 < r.terms.length) && decide (0 < r.body.length)))) := rfl
  generalize Tr.foldOk r.fold r.terms.length r.body.length = V at *
  cases g0 : (r.fold == 0)
  · cases g1 : decide (1 ≤ r.fold)
    · have HF : Hid (V = false) := by show _ = _; rw [HV.out, g0, g1]; rfl
      clear HV
      go_enter Tryz.func230, Tryz.ntmps230
      go_wp2
      go_ret
      exact ⟨ret_bool HF.out.symm, below_alloc _ _⟩
    · cases g2 : decide (r.fold ≤ 4)
      · have HF : Hid (V = false) := by show _ = _; rw [HV.out, g0, g1, g2]; rfl
        clear HV
        go_enter Tryz.func230, Tryz.ntmps230
        go_wp2
        go_ret
        exact ⟨ret_bool HF.out.symm, below_alloc _ _⟩
      · cases g3 : decide (0 < r.terms.length)
        · have HF : Hid (V = false) := by show _ = _; rw [HV.out, g0, g1, g2, g3]; rfl
          clear HV
          go_enter Tryz.func230, Tryz.ntmps230
          go_wp2
          go_ret
          exact ⟨ret_bool HF.out.symm, below_alloc _ _⟩
        · have HF : Hid (V = decide (0 < r.body.length)) := by show _ = _; rw [HV.out, g0, g1, g2, g3]; rfl
          clear HV
          go_enter Tryz.func230, Tryz.ntmps230
          go_wp2
          go_ret
          exact ⟨ret_bool (by rw [HF.out]), below_alloc _ _⟩
  · have HF : Hid (V = true) := by show _ = _; rw [HV.out, g0]; rfl
    clear HV
    go_enter Tryz.func230, Tryz.ntmps230
    go_wp2
    go_ret
    exact ⟨ret_bool HF.out.symm, below_alloc _ _⟩

end Go.Proofs.YthenjegmigeieaaGreat

/- Package tree: rules, and what is too many. -/
namespace Go.Proofs.YthenjegmigeieaaGreat
open Go.RowKit

/-- Terms of literals are not too many to count. -/
def Fits (l : List Tr.Lit) : Prop := ∀ i, i < l.length → (Tr.litD l i).terms.length ≤ 140737488355328

set_option maxRecDepth 100000 in
set_option maxHeartbeats 2000000 in
theorem ruleIsRight_any (r : Tr.Rule) (v u : Value) (w : World) (hm1 : r.terms.length ≤ 140737488355328) (hm2 : r.body.length ≤ 140737488355328) (hm3 : Fits r.body) (hA : TermsV w v r.terms) (hB : LitsV w u r.body) :
    Calls Tryz.prog 222 #[ruleVal r v u] w fun e w' => e = .returned (.bool (Tr.ruleOk r)) ∧ Below w.heap.size w w' := by
  have hA0 := termsV_below hA (below_alloc w (ruleObj r v u))
  have hB0 := litsV_below hB (below_alloc w (ruleObj r v u))
  obtain ⟨ao, ca, rfl, _⟩ := hA
  obtain ⟨bo, cb, rfl, _⟩ := hB
  have HV : Hid (Tr.ruleOk r = (Tr.isName r.name && Tr.termsOk r.terms && Tr.foldOk r.fold r.terms.length r.body.length && Tr.litsOk r.body)) := rfl
  generalize Tr.ruleOk r = V at *
  go_enter Tryz.func222, Tryz.ntmps222
  go_wp2_with fail
  refine (isName_any r.name _).mono ?_
  rintro e w1 ⟨he, hb1⟩
  have hbel1 : Below w.heap.size w w1 := below_box hb1
  obtain ⟨c0, c1, c2, c3, c4⟩ := ruleBox hb1
  have hA1 := termsV_below hA0 hb1
  have hB1 := litsV_below hB0 hb1
  cases g1 : Tr.isName r.name
  · have HF : Hid (V = false) := by show _ = _; rw [HV.out, g1]; rfl
    rw [g1] at he
    subst he
    clear HV hA0 hB0 hA1 hB1
    go_wp2_with fail
    go_ret
    exact ⟨ret_bool HF.out.symm, hbel1⟩
  · rw [g1] at he
    subst he
    go_wp2_with fail
    refine (termsAreRight_any r.terms _ _ hm1 hA1).mono ?_
    rintro e w2 ⟨he, hb2⟩
    have hbel2 := hbel1.trans (hb2.mono hbel1.size)
    have hB2 := litsV_below hB1 hb2
    have c0 := cell_below hb2 c0
    have c1 := cell_below hb2 c1
    have c2 := cell_below hb2 c2
    have c3 := cell_below hb2 c3
    have c4 := cell_below hb2 c4
    clear hA0 hB0 hA1 hB1
    cases g2 : Tr.termsOk r.terms
    · have HF : Hid (V = false) := by show _ = _; rw [HV.out, g2]; simp
      rw [g2] at he
      subst he
      go_wp2_with fail
      go_ret
      exact ⟨ret_bool HF.out.symm, hbel2⟩
    · rw [g2] at he
      subst he
      go_wp2_with fail
      refine (foldIsRight_any r ao bo ca cb _).mono ?_
      rintro e w3 ⟨he, hb3⟩
      have hbel3 := hbel2.trans (hb3.mono hbel2.size)
      have hB3 := litsV_below hB2 hb3
      have c4 := cell_below hb3 c4
      cases g3 : Tr.foldOk r.fold r.terms.length r.body.length
      · have HF : Hid (V = false) := by show _ = _; rw [HV.out, g3]; simp
        rw [g3] at he
        subst he
        go_wp2_with fail
        go_ret
        exact ⟨ret_bool HF.out.symm, hbel3⟩
      · rw [g3] at he
        subst he
        have HW : Hid (V = Tr.litsOk r.body) := by show _ = _; rw [HV.out, g1, g2, g3]; rfl
        clear HV g1 g2 g3 hb1 hb2 hb3 hB2 hbel1 hbel2
        go_wp2_with fail
        go_loopw [23] (fun i wr => ∃ k : Nat, k ≤ r.body.length ∧ i = .int .i64 k ∧ Tr.litsOk r.body = (r.body.drop k).all Tr.litOk ∧ Below w3.heap.size w3 wr) (fun i _ => r.body.length - (intOf i).toNat)
        case atStart => exact ⟨0, Nat.zero_le _, rfl, rfl, Below.refl _ _⟩
        case round =>
          obtain ⟨k, hk, rfl, hall, hbelr⟩ := hrel
          have HA : Hid (Tr.litsOk r.body = (r.body.drop k).all Tr.litOk) := hall
          clear hall
          by_cases hlt : k < r.body.length
          · obtain ⟨bo', cb', hv, hL⟩ := litsV_below hB3 hbelr
            rcases hL with h | ⟨b, off, rfl, hc⟩
            · rw [h] at hlt; exact absurd hlt (by simp)
            injection hv with e1 _ e3
            subst e1 e3
            obtain ⟨a0, a1, a2, a3, v4, a4, hT⟩ := hc k hlt
            have HD : Hid (Tr.litsOk r.body = (Tr.litOk (Tr.litD r.body k) && (r.body.drop (k + 1)).all Tr.litOk)) := HA.out.trans (all_drop _ _ _ k hlt)
            have hfit := hm3 k hlt
            clear hc HA hB3
            generalize Tr.litD r.body k = x at *
            have HC : Hid (_) := litIsRight_any x v4 (wr.alloc (litObj x v4)) hfit (termsV_below hT (below_alloc _ _))
            obtain ⟨ao4, ca4, rfl, _⟩ := hT
            cases g : Tr.litOk x
            · have HF : Hid (V = false) := by show _ = _; rw [HW.out, HD.out, g]; rfl
              clear HD HW
              go_wp2_with fail
              refine Calls.mono HC.out ?_
              rintro e w4 ⟨he, hb4⟩
              rw [g] at he
              subst he
              have hbel4 := hbel3.trans ((hbelr.trans ((below_box hb4).mono hbelr.size)).mono hbel3.size)
              go_wp2_with fail
              go_ret
              exact ⟨ret_bool HF.out.symm, hbel4⟩
            · have HN : Hid (Tr.litsOk r.body = (r.body.drop (k + 1)).all Tr.litOk) := by show _ = _; rw [HD.out, g]; rfl
              clear HD
              go_wp2_with fail
              refine Calls.mono HC.out ?_
              rintro e w4 ⟨he, hb4⟩
              rw [g] at he
              subst he
              have hbel4 := hbelr.trans ((below_box hb4).mono hbelr.size)
              clear hb4 HC g a0 a1 a2 a3 a4
              go_wp2_with fail
              go_roundw
              case rel => exact ⟨k + 1, by omega, by go_num, HN.out, hbel4⟩
              case measure => simp [intOf]; omega
          · have HF : Hid (V = true) := by show _ = _; rw [HW.out, HA.out, List.drop_of_length_le (by omega)]; rfl
            have hbel4 := hbel3.trans (hbelr.mono hbel3.size)
            clear hB3 HA
            go_wp2_with fail
            go_ret
            exact ⟨ret_bool HF.out.symm, hbel4⟩

end Go.Proofs.YthenjegmigeieaaGreat

/- Package tree: Check. -/
namespace Go.Proofs.YthenjegmigeieaaGreat
open Go.RowKit

abbrev treeVal (v : Value) : Value := .agg #[v]

set_option maxRecDepth 100000 in
set_option maxHeartbeats 2000000 in
theorem tooMany_any (l : List Tr.Rule) (v : Value) (w : World) (hA : RulesV w v l) :
    Calls Tryz.prog 221 #[treeVal v] w fun e w' => e = .returned (.bool (Tr.many l)) ∧ Below w.heap.size w w' := by
  have hA0 := rulesV_below hA (below_alloc w (.cells #[v] 243))
  have hbel0 := below_alloc w (.cells #[v] 243)
  obtain ⟨ao, ca, rfl, _⟩ := hA
  by_cases h12 : 12 < l.length
  · have HF : Hid (Tr.many l = true) := by show _ = _; unfold Tr.many; rw [decide_eq_true h12]; rfl
    go_enter Tryz.func221, Tryz.ntmps221
    go_wp2_with fail
    go_ret
    exact ⟨ret_bool HF.out.symm, hbel0⟩
  · have HV : Hid (Tr.many l = l.any Tr.ruleMany) := by show _ = _; unfold Tr.many; rw [decide_eq_false h12]; rfl
    go_enter Tryz.func221, Tryz.ntmps221
    go_wp2_with fail
    generalize (w.alloc (.cells #[.slice ao l.length ca] 243)) = w0 at *
    go_loopw [14] (fun i wr => ∃ k : Nat, k ≤ l.length ∧ i = .int .i64 k ∧ Tr.many l = (l.drop k).any Tr.ruleMany ∧ Below w0.heap.size w0 wr) (fun i _ => l.length - (intOf i).toNat)
    case atStart => exact ⟨0, Nat.zero_le _, rfl, HV.out, Below.refl _ _⟩
    case round =>
      obtain ⟨k, hk, rfl, hany, hbelr⟩ := hrel
      have HA : Hid (Tr.many l = (l.drop k).any Tr.ruleMany) := hany
      clear hany HV
      by_cases hlt : k < l.length
      · obtain ⟨ao', ca', hv, hR⟩ := rulesV_below hA0 hbelr
        rcases hR with h | ⟨b, off, rfl, hc⟩
        · rw [h] at hlt; exact absurd hlt (by simp)
        injection hv with e1 _ e3
        subst e1 e3
        obtain ⟨a0, a1, ⟨v2, a2, hT⟩, a3, v4, a4, hL⟩ := hc k hlt
        have HD : Hid (Tr.many l = (Tr.ruleMany (Tr.ruleD l k) || (l.drop (k + 1)).any Tr.ruleMany)) := HA.out.trans (any_drop _ _ _ k hlt)
        clear hc HA
        generalize Tr.ruleD l k = r at *
        have hL0 := litsV_below hL (below_alloc wr (ruleObj r v2 v4))
        have hbel1 : Below w.heap.size w (wr.alloc (ruleObj r v2 v4)) := (hbel0.trans (hbelr.mono hbel0.size)).trans ((below_alloc wr _).mono (hbel0.trans (hbelr.mono hbel0.size)).size)
        have hbelr1 : Below w0.heap.size w0 (wr.alloc (ruleObj r v2 v4)) := hbelr.trans ((below_alloc wr _).mono hbelr.size)
        obtain ⟨ao2, ca2, rfl, _⟩ := hT
        obtain ⟨ao4, ca4, rfl, _⟩ := hL
        by_cases h4 : 4 < r.body.length
        rotate_left
        · have g1 : decide ((4 : Int) < (r.body.length : Int)) = false := decide_eq_false (by omega)
          by_cases h3 : 3 < r.terms.length
          rotate_left
          · have g2 : decide ((3 : Int) < (r.terms.length : Int)) = false := decide_eq_false (by omega)
            have HM : Hid (Tr.ruleMany r = Tr.litsMany r.body) := by show _ = _; unfold Tr.ruleMany; rw [decide_eq_false h4, decide_eq_false h3]; rfl
            go_wp2_with fail
            generalize (wr.alloc (ruleObj r (.slice ao2 r.terms.length ca2) (.slice ao4 r.body.length ca4))) = w1 at *
            go_loopw [31] (fun i wq => ∃ j : Nat, j ≤ r.body.length ∧ i = .int .i64 j ∧ Tr.litsMany r.body = (r.body.drop j).any (fun x => decide (3 < x.terms.length)) ∧ Below w1.heap.size w1 wq) (fun i _ => r.body.length - (intOf i).toNat)
            case atStart => exact ⟨0, Nat.zero_le _, rfl, rfl, Below.refl _ _⟩
            case round =>
              obtain ⟨j, hj, rfl, hany, hbelq⟩ := hrel
              have HB : Hid (Tr.litsMany r.body = (r.body.drop j).any (fun x => decide (3 < x.terms.length))) := hany
              clear hany
              by_cases hltj : j < r.body.length
              · obtain ⟨bo', cb', hv, hL⟩ := litsV_below hL0 hbelq
                rcases hL with h | ⟨b2, off2, rfl, hc⟩
                · rw [h] at hltj; exact absurd hltj (by simp)
                injection hv with e1 _ e3
                subst e1 e3
                obtain ⟨q0, q1, q2, q3, u4, q4, hT⟩ := hc j hltj
                have HE : Hid (Tr.litsMany r.body = (decide (3 < (Tr.litD r.body j).terms.length) || (r.body.drop (j + 1)).any (fun x => decide (3 < x.terms.length)))) := HB.out.trans (any_drop _ _ _ j hltj)
                clear hc HB hL0 hA0
                generalize Tr.litD r.body j = x at *
                obtain ⟨ao5, ca5, rfl, _⟩ := hT
                by_cases hx : 3 < x.terms.length
                rotate_left
                · have g : decide ((3 : Int) < (x.terms.length : Int)) = false := decide_eq_false (by omega)
                  have HN : Hid (Tr.litsMany r.body = (r.body.drop (j + 1)).any (fun x => decide (3 < x.terms.length))) := by show _ = _; rw [HE.out, decide_eq_false hx]; rfl
                  have hbq := hbelq.trans ((below_alloc _ (litObj x (.slice ao5 x.terms.length ca5))).mono hbelq.size)
                  clear HE
                  go_wp2_with fail
                  go_roundw
                  case rel => exact ⟨j + 1, by omega, by go_num, HN.out, hbq⟩
                  case measure => simp [intOf]; omega
                · have g : decide ((3 : Int) < (x.terms.length : Int)) = true := decide_eq_true (by omega)
                  have HF : Hid (Tr.many l = true) := by show _ = _; rw [HD.out, HM.out, HE.out, decide_eq_true hx]; rfl
                  have hbq := hbel1.trans ((hbelq.trans ((below_alloc _ (litObj x (.slice ao5 x.terms.length ca5))).mono hbelq.size)).mono hbel1.size)
                  clear HE HD HM
                  go_wp2_with fail
                  go_ret
                  exact ⟨ret_bool HF.out.symm, hbq⟩
              · have HN : Hid (Tr.many l = (l.drop (k + 1)).any Tr.ruleMany) := by
                  show _ = _
                  rw [HD.out, HM.out, HB.out, List.drop_of_length_le (by omega)]
                  rfl
                have hbq := hbelr1.trans (hbelq.mono hbelr1.size)
                clear HB HD HM hL0 hA0
                go_wp2_with fail
                go_roundw
                case rel => exact ⟨k + 1, by omega, by go_num, HN.out, hbq⟩
                case measure => simp [intOf]; omega
          · have g2 : decide ((3 : Int) < (r.terms.length : Int)) = true := decide_eq_true (by omega)
            have HF : Hid (Tr.many l = true) := by show _ = _; rw [HD.out]; unfold Tr.ruleMany; rw [decide_eq_true h3]; simp
            clear HD hA0 hL0
            go_wp2_with fail
            go_ret
            exact ⟨ret_bool HF.out.symm, hbel1⟩
        · have g1 : decide ((4 : Int) < (r.body.length : Int)) = true := decide_eq_true (by omega)
          have HF : Hid (Tr.many l = true) := by show _ = _; rw [HD.out]; unfold Tr.ruleMany; rw [decide_eq_true h4]; simp
          clear HD hA0 hL0
          go_wp2_with fail
          go_ret
          exact ⟨ret_bool HF.out.symm, hbel1⟩
      · have HF : Hid (Tr.many l = false) := by show _ = _; rw [HA.out, List.drop_of_length_le (by omega)]; rfl
        have hbq := hbel0.trans (hbelr.mono hbel0.size)
        clear hA0 HA
        go_wp2_with fail
        go_ret
        exact ⟨ret_bool HF.out.symm, hbq⟩

theorem ruleMany_no {r : Tr.Rule} (h : Tr.ruleMany r = false) : r.terms.length ≤ 3 ∧ r.body.length ≤ 4 ∧ Fits r.body := by
  unfold Tr.ruleMany at h
  simp only [Bool.or_eq_false_iff, decide_eq_false_iff_not] at h
  refine ⟨by omega, by omega, fun i hi => ?_⟩
  have hx := h.2
  unfold Tr.litsMany at hx
  rw [List.any_eq_false] at hx
  have e : Tr.litD r.body i = r.body[i] := by rw [Tr.litD, List.getD_eq_getElem?_getD, List.getElem?_eq_getElem hi]; rfl
  have := hx _ (List.getElem_mem hi)
  rw [e]
  simp at this
  omega

set_option maxRecDepth 100000 in
set_option maxHeartbeats 2000000 in
theorem Check_any (l : List Tr.Rule) (v : Value) (w : World) (hA : RulesV w v l) :
    Calls Tryz.prog 206 #[treeVal v] w fun e w' => e = .returned (.int .i64 (Tr.check l)) ∧ Below w.heap.size w w' := by
  have hA0 := rulesV_below hA (below_alloc w (.cells #[v] 243))
  have hbel0 := below_alloc w (.cells #[v] 243)
  have HT : Hid (_) := tooMany_any l v (w.alloc (.cells #[v] 243)) hA0
  obtain ⟨ao, ca, rfl, _⟩ := hA
  go_enter Tryz.func206, Tryz.ntmps206
  go_wp2_with fail
  refine Calls.mono HT.out ?_
  rintro e w1 ⟨he, hb1⟩
  have hbel1 := hbel0.trans (hb1.mono hbel0.size)
  have hA1 := rulesV_below hA0 hb1
  have c0 : w1.cell? ⟨w.heap.size, 0, none⟩ = some (.slice ao l.length ca) := cell_below hb1 (by simp [go_sem])
  clear HT hA0 hb1 hbel0
  cases gm : Tr.many l
  · rw [gm] at he
    subst he
    have hl12 : l.length ≤ 12 := by
      unfold Tr.many at gm
      simp only [Bool.or_eq_false_iff, decide_eq_false_iff_not] at gm
      omega
    have hMany : ∀ k, k < l.length → Tr.ruleMany (Tr.ruleD l k) = false := fun k hk => by
      unfold Tr.many at gm
      simp only [Bool.or_eq_false_iff] at gm
      have e : Tr.ruleD l k = l[k] := by rw [Tr.ruleD, List.getD_eq_getElem?_getD, List.getElem?_eq_getElem hk]; rfl
      rw [e]
      have := List.any_eq_false.1 gm.2 _ (List.getElem_mem hk)
      simpa using this
    have HM : Hid (∀ k, k < l.length → Tr.ruleMany (Tr.ruleD l k) = false) := hMany
    have HV : Hid (Tr.check l = if l.all Tr.ruleOk then 0 else 1) := by show _ = _; unfold Tr.check; rw [gm]; rfl
    clear hMany gm
    go_wp2_with fail
    go_loopw [10] (fun i wr => ∃ k : Nat, k ≤ l.length ∧ i = .int .i64 k ∧ l.all Tr.ruleOk = (l.drop k).all Tr.ruleOk ∧ Below w1.heap.size w1 wr) (fun i _ => l.length - (intOf i).toNat)
    case atStart => exact ⟨0, Nat.zero_le _, rfl, rfl, Below.refl _ _⟩
    case round =>
      obtain ⟨k, hk, rfl, hall, hbelr⟩ := hrel
      have HA : Hid (l.all Tr.ruleOk = (l.drop k).all Tr.ruleOk) := hall
      clear hall
      by_cases hlt : k < l.length
      · obtain ⟨ao', ca', hv, hR⟩ := rulesV_below hA1 hbelr
        rcases hR with h | ⟨b, off, rfl, hc⟩
        · rw [h] at hlt; exact absurd hlt (by simp)
        injection hv with e1 _ e3
        subst e1 e3
        obtain ⟨a0, a1, ⟨v2, a2, hT⟩, a3, v4, a4, hL⟩ := hc k hlt
        have HD : Hid (l.all Tr.ruleOk = (Tr.ruleOk (Tr.ruleD l k) && (l.drop (k + 1)).all Tr.ruleOk)) := HA.out.trans (all_drop _ _ _ k hlt)
        obtain ⟨f1, f2, f3⟩ := ruleMany_no (HM.out k hlt)
        clear hc HA hA1
        generalize Tr.ruleD l k = r at *
        have HC : Hid (_) := ruleIsRight_any r v2 v4 (wr.alloc (ruleObj r v2 v4)) (by omega) (by omega) f3 (termsV_below hT (below_alloc _ _)) (litsV_below hL (below_alloc _ _))
        obtain ⟨ao2, ca2, rfl, _⟩ := hT
        obtain ⟨ao4, ca4, rfl, _⟩ := hL
        clear f3
        cases g : Tr.ruleOk r
        · have HF : Hid (Tr.check l = 1) := by show _ = _; rw [HV.out, HD.out, g]; rfl
          clear HD HV
          go_wp2_with fail
          refine Calls.mono HC.out ?_
          rintro e w4 ⟨he, hb4⟩
          rw [g] at he
          subst he
          have hbel4 := hbel1.trans ((hbelr.trans ((below_box hb4).mono hbelr.size)).mono hbel1.size)
          go_wp2_with fail
          go_ret
          exact ⟨ret_int HF.out.symm, hbel4⟩
        · have HN : Hid (l.all Tr.ruleOk = (l.drop (k + 1)).all Tr.ruleOk) := by show _ = _; rw [HD.out, g]; rfl
          clear HD
          go_wp2_with fail
          refine Calls.mono HC.out ?_
          rintro e w4 ⟨he, hb4⟩
          rw [g] at he
          subst he
          have hbel4 := hbelr.trans ((below_box hb4).mono hbelr.size)
          clear hb4 HC g a0 a1 a2 a3 a4
          go_wp2_with fail
          go_roundw
          case rel => exact ⟨k + 1, by omega, by go_num, HN.out, hbel4⟩
          case measure => simp [intOf]; omega
      · have HF : Hid (Tr.check l = 0) := by show _ = _; rw [HV.out, HA.out, List.drop_of_length_le (by omega)]; rfl
        have hbel4 := hbel1.trans (hbelr.mono hbel1.size)
        clear hA1 HA HV
        go_wp2_with fail
        go_ret
        exact ⟨ret_int HF.out.symm, hbel4⟩
  · rw [gm] at he
    subst he
    have HF : Hid (Tr.check l = 2) := by show _ = _; unfold Tr.check; rw [gm]; rfl
    go_wp2_with fail
    go_ret
    exact ⟨ret_int HF.out.symm, hbel1⟩

end Go.Proofs.YthenjegmigeieaaGreat

/- The parser in memory. -/
namespace Go.Proofs.YthenjegmigeieaaGreat
open Go.RowKit

/-- Tokens that a scan may answer: not too many, and numbers that are numbers. -/
def Fit (L : List Tk.Tok) : Prop := L.length ≤ 5000 ∧ ∀ t, t ∈ L → t.kind = 3 → t.text.length ≤ 18 ∧ ∃ n, Lib.atoi t.text = some n

/-- How far the parser is. -/
def nxOf (w : World) (P : Nat) : Nat := match w.cell? ⟨P, 1, none⟩ with | some (.int _ n) => n.toNat | _ => 0
theorem grownBy_of_below {w w' : World} (h : Below w.heap.size w w') (row : Option Nat) : w.grownBy w' row :=
  ⟨h.os, h.tape, h.output, h.size, fun k hk _ => h.block k hk⟩
theorem grownBy_trans {a b c : World} {row : Option Nat} (h : a.grownBy b row) (k : b.grownBy c row) : a.grownBy c row :=
  ⟨k.os.trans h.os, k.tape.trans h.tape, k.output.trans h.output, Nat.le_trans h.size k.size, fun i hi hne => (k.block i (Nat.lt_of_lt_of_le hi h.size) hne).trans (h.block i hi hne)⟩
theorem grownBy_set {w : World} {P : Nat} (o : Nat) (v : Value) : w.grownBy (w.setCell ⟨P, o, none⟩ v) (some P) :=
  ⟨rfl, rfl, rfl, by simp [World.setCell], fun k _ hk => Below.heap_setCell _ _ _ _ (fun e => hk (by rw [e]))⟩
/-- What is set in a block that is new. -/
theorem grownBy_new {w w' : World} {row : Option Nat} {b : Nat} (h : w.grownBy w' row) (hb : w.heap.size ≤ b) (o : Nat) (v : Value) : w.grownBy (w'.setCell ⟨b, o, none⟩ v) row :=
  ⟨h.os, h.tape, h.output, by simpa [World.setCell] using h.size, fun k hk hne => (Below.heap_setCell _ _ _ _ (show ¬ k = b by omega)).trans (h.block k hk hne)⟩
theorem grownBy_cell {w w' : World} {P b o : Nat} {v : Value} (h : w.grownBy w' (some P)) (hne : ¬ b = P) (hc : w.cell? ⟨b, o, none⟩ = some v) : w'.cell? ⟨b, o, none⟩ = some v :=
  (World.cell?_of_block (a := ⟨b, o, none⟩) (h.block b (World.block_lt_of_cell? w _ hc) (by simpa using hne))).trans hc
theorem grownBy_frozen {w w' : World} {P b o : Nat} (h : w.grownBy w' (some P)) (hne : ¬ b = P) (hlt : b < w.heap.size) : w'.frozen? ⟨b, o, none⟩ = w.frozen? ⟨b, o, none⟩ := by
  have := h.block b hlt (by simpa using hne)
  simp [World.frozen?, this]
theorem grownBy_drewN {a b : World} {row : Option Nat} (h : a.grownBy b row) (n : Nat) : a.grownBy (b.drewN n) row := ⟨h.os, h.tape, h.output, h.size, h.block⟩

theorem below_drewN {B : Nat} {a w : World} (h : Below B a w) (n : Nat) : Below B a (w.drewN n) := ⟨h.os, h.tape, h.output, h.size, h.block⟩
theorem below_fresh {w : World} (o : Obj) (n : Nat) (a b c : Value) : Below w.heap.size w ((((((w.alloc o).drewN n).setCell ⟨w.heap.size, 0, none⟩ a)).setCell ⟨w.heap.size, 1, none⟩ b).setCell ⟨w.heap.size, 2, none⟩ c) :=
  (((below_drewN ((Below.refl _ _).alloc (Nat.le_refl _) _) n).setCell (p := ⟨w.heap.size, 0, none⟩) (Nat.le_refl _) _).setCell (p := ⟨w.heap.size, 1, none⟩) (Nat.le_refl _) _).setCell (p := ⟨w.heap.size, 2, none⟩) (Nat.le_refl _) _
theorem hd_drop (L : List Tk.Tok) (en : Int) (nx : Nat) : Pr.hd en (L.drop nx) = if nx < L.length then tokD L nx else ⟨0, en, []⟩ := by
  by_cases h : nx < L.length
  · rw [if_pos h, drop_tok L nx h]; rfl
  · rw [if_neg h, List.drop_of_length_le (by omega)]; rfl

end Go.Proofs.YthenjegmigeieaaGreat

/- The shelf of the parser (strconv.Atoi) lies with the rest. -/


/- The parser's small steps. -/
namespace Go.Proofs.YthenjegmigeieaaGreat
open Go.RowKit

theorem fld0 (a b c : Value) (w : World) : (Instr.field 271 (.agg #[a, b, c]) 0).run Tryz.prog w = .ok a w := by kernel_rfl
theorem fld1 (a b c : Value) (w : World) : (Instr.field 271 (.agg #[a, b, c]) 1).run Tryz.prog w = .ok b w := by kernel_rfl
theorem fld2 (a b c : Value) (w : World) : (Instr.field 271 (.agg #[a, b, c]) 2).run Tryz.prog w = .ok c w := by kernel_rfl

theorem hd_ne {en : Int} {r : List Tk.Tok} {t : List UInt8} (ht : ¬ t = []) (h : Pr.isText en r t = true) : ¬ r = [] := by
  rintro rfl
  exact ht (eq_of_beq h).symm

theorem ground {w w' w1 : World} {P : Nat} (h : w.grownBy w1 (some P)) (hb : Below w1.heap.size w1 w') : w.grownBy w' (some P) := grownBy_trans h (grownBy_of_below hb _)

theorem foldOf_nil : Tr.foldOf [] = 0 := rfl
theorem opOf_nil : Pr.opOf [] = 0 := rfl

end Go.Proofs.YthenjegmigeieaaGreat

/- The parser's names, numbers and terms. -/
namespace Go.Proofs.YthenjegmigeieaaGreat
open Go.RowKit

/-- A token that is laid aside. -/
abbrev putTok (w : World) (x : Tk.Tok) : World := w.alloc (.cells #[.int .i64 x.kind, .int .i64 x.at_, .string ⟨x.text.toArray⟩] 271)
theorem below_put {w w1 : World} (hb : Below w.heap.size w w1) (x : Tk.Tok) : Below w.heap.size w (putTok w1 x) := hb.alloc hb.size _


end Go.Proofs.YthenjegmigeieaaGreat

/- The parser's terms. -/
namespace Go.Proofs.YthenjegmigeieaaGreat
open Go.RowKit

abbrev termObj : Obj := .cells #[.string { data := #[] }, .int .i64 0] 266
theorem fresh2 {w w1 : World} (hb : Below (w.alloc termObj).heap.size (w.alloc termObj) w1) :
    w1.cell? ⟨w.heap.size, 0, none⟩ = some (.string { data := #[] }) ∧ w1.cell? ⟨w.heap.size, 1, none⟩ = some (.int .i64 0) ∧ w1.frozen? ⟨w.heap.size, 0, none⟩ = false ∧ w1.frozen? ⟨w.heap.size, 1, none⟩ = false ∧ Below w.heap.size w w1 ∧ w.heap.size < w1.heap.size := by
  obtain ⟨hc, hf⟩ := bcell hb
  have h : w.heap.size < (w.alloc termObj).heap.size := by simp
  refine ⟨?_, ?_, ?_, ?_, ((Below.refl _ _).alloc (Nat.le_refl _) _).trans (hb.mono (by simp)), Nat.lt_of_lt_of_le h hb.size⟩
  · rw [hc _ _ h]; simp [go_sem]
  · rw [hc _ _ h]; simp [go_sem]
  · rw [hf _ _ h]; simp [go_sem]
  · rw [hf _ _ h]; simp [go_sem]


/-- The block of a result, behind calls that went on. -/
theorem kept2 {w w1 w2 : World} {P : Nat} (hP : P < w.heap.size) (hg : w1.grownBy w2 (some P)) (hs : w.heap.size < w1.heap.size) {u v : Value} (c0 : w1.cell? ⟨w.heap.size, 0, none⟩ = some u) (c1 : w1.cell? ⟨w.heap.size, 1, none⟩ = some v)
    (f0 : w1.frozen? ⟨w.heap.size, 0, none⟩ = false) (f1 : w1.frozen? ⟨w.heap.size, 1, none⟩ = false) :
    w2.cell? ⟨w.heap.size, 0, none⟩ = some u ∧ w2.cell? ⟨w.heap.size, 1, none⟩ = some v ∧ w2.frozen? ⟨w.heap.size, 0, none⟩ = false ∧ w2.frozen? ⟨w.heap.size, 1, none⟩ = false ∧ w.heap.size < w2.heap.size := by
  have hne : ¬ w.heap.size = P := by omega
  exact ⟨grownBy_cell hg hne c0, grownBy_cell hg hne c1, (grownBy_frozen hg hne hs).trans f0, (grownBy_frozen hg hne hs).trans f1, Nat.lt_of_lt_of_le hs hg.size⟩
theorem kept2b {w w1 w2 : World} (hb : Below w1.heap.size w1 w2) (hs : w.heap.size < w1.heap.size) {u v : Value} (c0 : w1.cell? ⟨w.heap.size, 0, none⟩ = some u) (c1 : w1.cell? ⟨w.heap.size, 1, none⟩ = some v)
    (f0 : w1.frozen? ⟨w.heap.size, 0, none⟩ = false) (f1 : w1.frozen? ⟨w.heap.size, 1, none⟩ = false) :
    w2.cell? ⟨w.heap.size, 0, none⟩ = some u ∧ w2.cell? ⟨w.heap.size, 1, none⟩ = some v ∧ w2.frozen? ⟨w.heap.size, 0, none⟩ = false ∧ w2.frozen? ⟨w.heap.size, 1, none⟩ = false ∧ w.heap.size < w2.heap.size := by
  obtain ⟨hc, hf⟩ := bcell hb
  exact ⟨(hc _ _ hs).trans c0, (hc _ _ hs).trans c1, (hf _ _ hs).trans f0, (hf _ _ hs).trans f1, Nat.lt_of_lt_of_le hs hb.size⟩

theorem ground' {w w1 w' : World} {P : Nat} (hb : Below w.heap.size w w1) (h : Below w1.heap.size w1 w') : w.grownBy w' (some P) := grownBy_of_below (hb.trans (h.mono hb.size)) _

end Go.Proofs.YthenjegmigeieaaGreat

/- Rows that the parser makes: of terms, of literals, of rules. -/
namespace Go.Proofs.YthenjegmigeieaaGreat
open Go.RowKit

/-- A row of parts, each of k cells, in a block of its own at B or behind. -/
def RowP (B : Nat) (w : World) (e : TypeId) (k : Nat) (v : Value) (cs : List (List Value)) : Prop :=
  ∃ ao cap, v = .slice ao cs.length cap ∧ (cs = [] ∨ ∃ b cur, ao = some ⟨b, 0, none⟩ ∧ B ≤ b ∧ w.heap[b]? = some (.cells cur e (0, 0)) ∧ ∀ i c, cs[i]? = some c → ∀ j u, c[j]? = some u → w.cell? ⟨b, i * k + j, none⟩ = some u)

theorem flat_length (k : Nat) : ∀ cs : List (List Value), (∀ c, c ∈ cs → c.length = k) → cs.flatten.length = cs.length * k := by
  intro cs
  induction cs with
  | nil => intro _; simp
  | cons c r ih =>
    intro h
    rw [List.flatten_cons, List.length_append, ih (fun c hc => h c (List.mem_cons_of_mem _ hc)), h c List.mem_cons_self, List.length_cons, Nat.add_mul]
    omega
theorem flat_get (k : Nat) : ∀ (cs : List (List Value)), (∀ c, c ∈ cs → c.length = k) → ∀ i c j u, cs[i]? = some c → c[j]? = some u → cs.flatten[i * k + j]? = some u := by
  intro cs
  induction cs with
  | nil => intro _ i c j u h; simp at h
  | cons a r ih =>
    intro h i c j u hi hj
    have ha := h a List.mem_cons_self
    have hjk : j < c.length := by
      rcases Nat.lt_or_ge j c.length with h | h
      · exact h
      · rw [List.getElem?_eq_none h] at hj; cases hj
    rw [List.flatten_cons]
    cases i with
    | zero =>
      have hac : a = c := by simpa using hi
      subst hac
      rw [Nat.zero_mul, Nat.zero_add, List.getElem?_append_left hjk]
      exact hj
    | succ i =>
      rw [List.getElem?_append_right (by rw [ha, Nat.add_mul]; omega), ha, show (i + 1) * k + j - k = i * k + j from by rw [Nat.add_mul]; omega]
      exact ih (fun c hc => h c (List.mem_cons_of_mem _ hc)) i c j u (by simpa using hi) hj

theorem rowP_own {w : World} {base : Nat} {e : TypeId} {k : Nat} {v : Value} {cs : List (List Value)} (hl : ∀ c, c ∈ cs → c.length = k) (h : w.ownsRow base e k v cs.length cs.flatten) : RowP base w e k v cs := by
  rcases h.2 with ⟨hv, h0⟩ | ⟨g, cap, cur, hv, hg, hbk, r⟩
  · exact ⟨none, 0, by rw [hv, h0], .inl (List.eq_nil_of_length_eq_zero h0)⟩
  · refine ⟨some ⟨g, 0, none⟩, cap, hv, .inr ⟨g, cur, rfl, hg, hbk, fun i c hi j u hj => ?_⟩⟩
    subst hv
    have := h.cells (g := g) rfl _ _ (flat_get k cs hl i c j u hi hj)
    have hadd : ∀ k, ((⟨g, 0, none⟩ : Addr).add k) = ⟨g, 0 + k, none⟩ := fun _ => by simp [Addr.add]; exact fun h => h.symm
    rw [hadd] at this
    simpa using this

/-- Blocks of such rows are as they were. -/
def Keeps (B : Nat) (w w' : World) (E : TypeId → Prop) : Prop := ∀ b cur e fz, E e → B ≤ b → w.heap[b]? = some (.cells cur e fz) → w'.heap[b]? = w.heap[b]?
theorem Keeps.mono {B : Nat} {w w' : World} {E E' : TypeId → Prop} (h : Keeps B w w' E) (hE : ∀ e, E' e → E e) : Keeps B w w' E' := fun b cur e fz he hb hh => h b cur e fz (hE e he) hb hh
theorem Keeps.trans {B : Nat} {w w1 w' : World} {E : TypeId → Prop} (h : Keeps B w w1 E) (h1 : Keeps B w1 w' E) : Keeps B w w' E := fun b cur e fz he hb hh => (h1 b cur e fz he hb ((h b cur e fz he hb hh).trans hh)).trans (h b cur e fz he hb hh)
theorem heap_lt {w : World} {b : Nat} {o : Obj} (h : w.heap[b]? = some o) : b < w.heap.size := by
  rcases Nat.lt_or_ge b w.heap.size with h1 | h1
  · exact h1
  · rw [Array.getElem?_eq_none h1] at h; cases h
theorem keeps_grown {B P : Nat} {w w' : World} (E : TypeId → Prop) (h : w.grownBy w' (some P)) (hP : P < B) : Keeps B w w' E := fun b cur e fz _ hb hh => h.block b (heap_lt hh) (by intro h; injection h; omega)
theorem keeps_below {B : Nat} {w w' : World} (E : TypeId → Prop) (h : Below w.heap.size w w') : Keeps B w w' E := fun b _ _ _ _ _ hh => h.block b (heap_lt hh)
theorem keeps_set {B b : Nat} {w : World} (E : TypeId → Prop) (h : b < B) (o : Nat) (v : Value) : Keeps B w (w.setCell ⟨b, o, none⟩ v) E := fun b' _ _ _ _ hb _ => Below.heap_setCell _ _ _ _ (show ¬ b' = b by omega)
theorem keeps_own {B base k n : Nat} {w w' : World} {E : TypeId → Prop} {e1 : TypeId} {v : Value} {xs : List Value} (h : w.grownBy w' v.ownBlock) (hown : w.ownsRow base e1 k v n xs) (hE : ¬ E e1) : Keeps B w w' E := by
  intro b cur e fz he hb hh
  refine h.block b (heap_lt hh) ?_
  intro hv
  rcases hown.2 with ⟨rfl, h0⟩ | ⟨g, cap, cur', rfl, hg, hbk, r⟩
  · cases hv
  · have hbg : b = g := by simpa [Value.ownBlock] using hv
    subst hbg
    rw [hbk] at hh
    injection hh with hh
    injection hh with h1 h2 h3
    exact hE (h2 ▸ he)

theorem RowP.keep {B : Nat} {w w' : World} {E : TypeId → Prop} {e : TypeId} {k : Nat} {v : Value} {cs : List (List Value)} (h : RowP B w e k v cs) (hk : Keeps B w w' E) (he : E e) : RowP B w' e k v cs := by
  obtain ⟨ao, cap, hv, h⟩ := h
  refine ⟨ao, cap, hv, ?_⟩
  rcases h with h | ⟨b, cur, rfl, hb, hh, hc⟩
  · exact .inl h
  · have hs := hk b cur e (0, 0) he hb hh
    exact .inr ⟨b, cur, rfl, hb, hs.trans hh, fun i c hi j u hj => (World.cell?_of_block (a := ⟨b, _, none⟩) hs).trans (hc i c hi j u hj)⟩
theorem RowP.mono {B B' : Nat} {w : World} {e : TypeId} {k : Nat} {v : Value} {cs : List (List Value)} (h : RowP B w e k v cs) (hB : B' ≤ B) : RowP B' w e k v cs := by
  obtain ⟨ao, cap, hv, h⟩ := h
  refine ⟨ao, cap, hv, ?_⟩
  rcases h with h | ⟨b, cur, rfl, hb, hh, hc⟩
  · exact .inl h
  · exact .inr ⟨b, cur, rfl, Nat.le_trans hB hb, hh, hc⟩

def termCells (t : Tr.Term) : List Value := [.string ⟨t.var.toArray⟩, .int .i64 t.n]
def TermsP (B : Nat) (w : World) (v : Value) (l : List Tr.Term) : Prop := RowP B w 266 2 v (l.map termCells)
def litCells (x : Tr.Lit × Value) : List Value := [.int .i64 x.1.kind, .int .i64 x.1.at_, .int .i64 x.1.op, .string ⟨x.1.name.toArray⟩, x.2]
def LitsP (B : Nat) (w : World) (v : Value) (l : List Tr.Lit) : Prop := ∃ q : List (Tr.Lit × Value), q.map (·.1) = l ∧ RowP B w 260 5 v (q.map litCells) ∧ ∀ p, p ∈ q → TermsP B w p.2 p.1.terms
def ruleCells (x : Tr.Rule × Value × Value) : List Value := [.int .i64 x.1.at_, .string ⟨x.1.name.toArray⟩, x.2.1, .int .i64 x.1.fold, x.2.2]
def RulesP (B : Nat) (w : World) (v : Value) (l : List Tr.Rule) : Prop := ∃ q : List (Tr.Rule × Value × Value), q.map (·.1) = l ∧ RowP B w 240 5 v (q.map ruleCells) ∧ ∀ p, p ∈ q → TermsP B w p.2.1 p.1.terms ∧ LitsP B w p.2.2 p.1.body

theorem TermsP.keep {B : Nat} {w w' : World} {v : Value} {l : List Tr.Term} (h : TermsP B w v l) (hk : Keeps B w w' (· = 266)) : TermsP B w' v l := RowP.keep h hk rfl
theorem TermsP.mono {B B' : Nat} {w : World} {v : Value} {l : List Tr.Term} (h : TermsP B w v l) (hB : B' ≤ B) : TermsP B' w v l := RowP.mono h hB
theorem LitsP.keep {B : Nat} {w w' : World} {v : Value} {l : List Tr.Lit} (h : LitsP B w v l) (hk : Keeps B w w' (fun e => e = 266 ∨ e = 260)) : LitsP B w' v l := by
  obtain ⟨q, h1, h2, h3⟩ := h
  exact ⟨q, h1, h2.keep hk (.inr rfl), fun p hp => (h3 p hp).keep (hk.mono fun e he => .inl he)⟩
theorem LitsP.mono {B B' : Nat} {w : World} {v : Value} {l : List Tr.Lit} (h : LitsP B w v l) (hB : B' ≤ B) : LitsP B' w v l := by
  obtain ⟨q, h1, h2, h3⟩ := h
  exact ⟨q, h1, h2.mono hB, fun p hp => (h3 p hp).mono hB⟩

theorem row_get {B : Nat} {w : World} {e : TypeId} {k : Nat} {v : Value} {α : Type} {cells : α → List Value} {l : List α} (h : RowP B w e k v (l.map cells)) :
    ∃ ao cap, v = .slice ao l.length cap ∧ (l = [] ∨ ∃ b, ao = some ⟨b, 0, none⟩ ∧ ∀ i x, l[i]? = some x → ∀ j u, (cells x)[j]? = some u → w.cell? ⟨b, i * k + j, none⟩ = some u) := by
  obtain ⟨ao, cap, hv, h⟩ := h
  rw [List.length_map] at hv
  refine ⟨ao, cap, hv, ?_⟩
  rcases h with h | ⟨b, cur, rfl, hb, hh, hc⟩
  · exact .inl (by simpa using h)
  · exact .inr ⟨b, rfl, fun i x hi j u hj => hc i (cells x) (by rw [List.getElem?_map, hi]; rfl) j u hj⟩

theorem TermsP.toV {B : Nat} {w : World} {v : Value} {l : List Tr.Term} (h : TermsP B w v l) : TermsV w v l := by
  obtain ⟨ao, cap, hv, h⟩ := row_get h
  refine ⟨ao, cap, hv, ?_⟩
  rcases h with h | ⟨b, rfl, hc⟩
  · exact .inl h
  · refine .inr ⟨b, 0, rfl, fun i hi => ?_⟩
    have hx : l[i]? = some (Tr.termD l i) := by simp [Tr.termD, hi]
    rw [Nat.zero_add]
    exact ⟨hc i _ hx 0 _ rfl, hc i _ hx 1 _ rfl⟩
theorem LitsP.toV {B : Nat} {w : World} {v : Value} {l : List Tr.Lit} (h : LitsP B w v l) : LitsV w v l := by
  obtain ⟨q, rfl, h2, h3⟩ := h
  obtain ⟨ao, cap, hv, h⟩ := row_get h2
  refine ⟨ao, cap, by rw [hv, List.length_map], ?_⟩
  rcases h with h | ⟨b, rfl, hc⟩
  · exact .inl (by simp [h])
  · refine .inr ⟨b, 0, rfl, fun i hi => ?_⟩
    rw [List.length_map] at hi
    have hq : q[i]? = some q[i] := List.getElem?_eq_getElem hi
    have hx : Tr.litD (q.map (·.1)) i = q[i].1 := by simp [Tr.litD, hi]
    rw [Nat.zero_add, hx]
    exact ⟨hc i _ hq 0 _ rfl, hc i _ hq 1 _ rfl, hc i _ hq 2 _ rfl, hc i _ hq 3 _ rfl, q[i].2, hc i _ hq 4 _ rfl, (h3 _ (List.getElem_mem hi)).toV⟩
theorem RulesP.toV {B : Nat} {w : World} {v : Value} {l : List Tr.Rule} (h : RulesP B w v l) : RulesV w v l := by
  obtain ⟨q, rfl, h2, h3⟩ := h
  obtain ⟨ao, cap, hv, h⟩ := row_get h2
  refine ⟨ao, cap, by rw [hv, List.length_map], ?_⟩
  rcases h with h | ⟨b, rfl, hc⟩
  · exact .inl (by simp [h])
  · refine .inr ⟨b, 0, rfl, fun i hi => ?_⟩
    rw [List.length_map] at hi
    have hq : q[i]? = some q[i] := List.getElem?_eq_getElem hi
    have hx : Tr.ruleD (q.map (·.1)) i = q[i].1 := by simp [Tr.ruleD, hi]
    rw [Nat.zero_add, hx]
    have h4 := h3 _ (List.getElem_mem hi)
    exact ⟨hc i _ hq 0 _ rfl, hc i _ hq 1 _ rfl, ⟨q[i].2.1, hc i _ hq 2 _ rfl, h4.1.toV⟩, hc i _ hq 3 _ rfl, q[i].2.2, hc i _ hq 4 _ rfl, h4.2.toV⟩

end Go.Proofs.YthenjegmigeieaaGreat

/- Small facts on rows of one's own, and on worlds. -/
namespace Go.Proofs.YthenjegmigeieaaGreat
open Go.RowKit

theorem rl_lt {w : World} {b : Nat} {o : Obj} (h : w.heap[b]? = some o) : b < w.heap.size := by
  rcases Nat.lt_or_ge b w.heap.size with h2 | h2
  · exact h2
  · rw [Array.getElem?_eq_none h2] at h; cases h
theorem rl_new (w : World) (o : Obj) : (w.alloc o).heap[w.heap.size]? = some o := by show (w.heap.push o)[w.heap.size]? = some o; simp
theorem rl_cell_low {w0 y : World} {b o : Nat} {v : Value} (h : w0.cell? ⟨b, o, none⟩ = some v) (hl : ∀ k, k < w0.heap.size → y.heap[k]? = w0.heap[k]?) : y.cell? ⟨b, o, none⟩ = some v := (World.cell?_of_block (a := ⟨b, o, none⟩) (hl b (World.block_lt_of_cell? w0 _ h))).trans h
theorem rl_low_size {w0 y : World} (hl : ∀ k, k < w0.heap.size → y.heap[k]? = w0.heap[k]?) : w0.heap.size ≤ y.heap.size := by
  rcases Nat.eq_zero_or_pos w0.heap.size with h | h
  · omega
  · have h1 := hl (w0.heap.size - 1) (by omega)
    have h2 : w0.heap[w0.heap.size - 1]? = some w0.heap[w0.heap.size - 1] := Array.getElem?_eq_getElem (by omega)
    have := rl_lt (h1.trans h2)
    omega
theorem rl_own_alone {w w' : World} {B k n : Nat} {e : TypeId} {v : Value} {xs : List Value} (h : w.ownsRow B e k v n xs) (hk : ∀ g, v.ownBlock = some g → w'.heap[g]? = w.heap[g]?) : w'.ownsRow B e k v n xs := by
  obtain ⟨h1, h2⟩ := h
  refine ⟨h1, ?_⟩
  rcases h2 with h2 | ⟨g, cap, cur, rfl, hb, hh, r⟩
  · exact .inl h2
  · exact .inr ⟨g, cap, cur, rfl, hb, (hk g rfl).trans hh, r⟩
theorem rl_ints_low {w0 w : World} {v : Value} {l : List Int} (h : IntsV w0 v l) (hl : ∀ k, k < w0.heap.size → w.heap[k]? = w0.heap[k]?) : IntsV w v l := by
  obtain ⟨ao, cap, rfl, h⟩ := h
  refine ⟨ao, cap, rfl, ?_⟩
  rcases h with h | ⟨b, off, rfl, hc⟩
  · exact .inl h
  · exact .inr ⟨b, off, rfl, fun i hi => rl_cell_low (hc i hi) hl⟩

/-- A fact, and the value of its numbers' list. -/
abbrev Fv := Rl.Fc × Value
def fcCells (x : Fv) : List Value := [.int .i64 x.1.pred, x.2]
theorem fc_len (q : List Fv) : ∀ c, c ∈ q.map fcCells → c.length = 2 := by
  intro c hc
  obtain ⟨t, _, rfl⟩ := List.mem_map.mp hc
  rfl
theorem fc_at (q : List Fv) (t : Nat) (ht : t < q.length * 2) : ∃ x, q[t / 2]? = some x ∧ ((q.map fcCells).flatten)[t]? = (fcCells x)[t % 2]? := by
  have h1 : t / 2 < q.length := by omega
  refine ⟨q[t / 2], List.getElem?_eq_getElem h1, ?_⟩
  have h2 : (fcCells q[t / 2])[t % 2]? = some ((fcCells q[t / 2])[t % 2]'(by show _ < 2; omega)) := List.getElem?_eq_getElem _
  have := flat_get 2 (q.map fcCells) (fc_len q) (t / 2) (fcCells q[t / 2]) (t % 2) _ (by rw [List.getElem?_map, List.getElem?_eq_getElem h1]; rfl) h2
  rw [h2, ← this]
  congr 1
  omega
theorem fc_length (q : List Fv) : ((q.map fcCells).flatten).length = q.length * 2 := by
  rw [flat_length 2 _ (fc_len q), List.length_map]
/-- A row of facts of one's own: block g. -/
abbrev FRow (w : World) (B g cap : Nat) (q : List Fv) : Prop := w.ownsRow B 55 2 (.slice (some ⟨g, 0, none⟩) q.length cap) q.length (q.map fcCells).flatten
section
variable {w w' : World} {B g cap : Nat} {q : List Fv}
theorem FRow.cell (h : FRow w B g cap q) {i : Nat} {x : Fv} (hi : q[i]? = some x) : w.cell? ⟨g, i * 2, none⟩ = some (.int .i64 x.1.pred) ∧ w.cell? ⟨g, i * 2 + 1, none⟩ = some x.2 := by
  have hl : i < q.length := by
    rcases Nat.lt_or_ge i q.length with h2 | h2
    · exact h2
    · rw [List.getElem?_eq_none h2] at hi; cases hi
  have hm : (q.map fcCells)[i]? = some (fcCells x) := by rw [List.getElem?_map, hi]; rfl
  have c0 := flat_get 2 (q.map fcCells) (fc_len q) i (fcCells x) 0 (.int .i64 x.1.pred) hm rfl
  have c1 := flat_get 2 (q.map fcCells) (fc_len q) i (fcCells x) 1 x.2 hm rfl
  exact ⟨(World.ownsRow.cellAt h (i * 2) (by omega)).trans c0, (World.ownsRow.cellAt h (i * 2 + 1) (by omega)).trans c1⟩
theorem FRow.frozen (h : FRow w B g cap q) (j : Nat) : w.frozen? ⟨g, j, none⟩ = false := World.ownsRow.frozenAt h j
theorem FRow.lt (h : FRow w B g cap q) : B ≤ g ∧ g < w.heap.size := World.ownsRow.lt h g rfl
theorem FRow.keep (h : FRow w B g cap q) (hk : w'.heap[g]? = w.heap[g]?) : FRow w' B g cap q := rl_own_alone h fun g' hg => by
  have : g = g' := by simpa [Value.ownBlock] using hg
  subst this
  exact hk
theorem fc_set (q : List Fv) (i : Nat) (hi : i < q.length) (y : Fv) : ((((q.map fcCells).flatten).set (i * 2) (.int .i64 y.1.pred)).set (i * 2 + 1) y.2) = (((q.set i y).map fcCells).flatten) := by
  apply List.ext_getElem?
  intro t
  by_cases ht : t < q.length * 2
  · obtain ⟨x, hx, hx2⟩ := fc_at q t ht
    obtain ⟨z, hz, hz2⟩ := fc_at (q.set i y) t (by rw [List.length_set]; exact ht)
    rw [hz2]
    rw [List.getElem?_set] at hz
    rw [List.getElem?_set, List.getElem?_set, List.length_set, fc_length]
    by_cases hti : i = t / 2
    · rw [if_pos hti, if_pos (by omega)] at hz
      obtain rfl : y = z := by simpa using hz
      by_cases h0 : t % 2 = 0
      · have e1 : ¬ i * 2 + 1 = t := by omega
        have e2 : i * 2 = t := by omega
        rw [if_neg e1, if_pos e2, if_pos (by omega), h0]
        rfl
      · have h1 : t % 2 = 1 := by omega
        have e1 : i * 2 + 1 = t := by omega
        rw [if_pos e1, if_pos (by omega), h1]
        rfl
    · rw [if_neg hti, hx] at hz
      obtain rfl : x = z := by simpa using hz
      rw [if_neg (by omega), if_neg (by omega), hx2]
  · rw [List.getElem?_eq_none, List.getElem?_eq_none]
    · rw [fc_length, List.length_set]; omega
    · rw [List.length_set, List.length_set, fc_length]; omega
/-- A fact of the row is set. -/
theorem FRow.put (h : FRow w B g cap q) (i : Nat) (hi : i < q.length) (y : Fv) : FRow ((w.setCell ⟨g, i * 2, none⟩ (.int .i64 y.1.pred)).setCell ⟨g, i * 2 + 1, none⟩ y.2) B g cap (q.set i y) := by
  have h1 := (World.ownsRow.stored h (i * 2) (.int .i64 y.1.pred)).1
  have h2 := (World.ownsRow.stored h1 (i * 2 + 1) y.2).1
  unfold FRow
  rw [List.length_set, ← fc_set q i hi y]
  exact h2
theorem FRow.cut (h : FRow w B g cap q) (n : Nat) (hn : n ≤ q.length) : FRow w B g cap (q.take n) := by
  obtain ⟨h1, h2⟩ := h
  rcases h2 with ⟨h2, _⟩ | ⟨g', cap', cur, hv, hb, hh, hc1, hc2, hc3, hc4⟩
  · cases h2
  · injection hv with e1 _ e3
    injection e1 with e1
    injection e1 with e1
    subst e1 e3
    have hl : (q.take n).length = n := by rw [List.length_take]; omega
    refine ⟨by rw [fc_length], .inr ⟨g, cap, cur, rfl, hb, hh, by omega, hc2, hc3, ?_⟩⟩
    rw [hl]
    have h3 : (cur.toList.take (q.length * 2)).take (n * 2) = cur.toList.take (n * 2) := by rw [List.take_take]; congr 1; omega
    rw [← h3, hc4]
    apply List.ext_getElem?
    intro t
    rw [List.getElem?_take]
    by_cases ht : t < n * 2
    · rw [if_pos ht]
      obtain ⟨x, hx, hx2⟩ := fc_at q t (by omega)
      obtain ⟨z, hz, hz2⟩ := fc_at (q.take n) t (by omega)
      rw [List.getElem?_take, if_pos (by omega), hx] at hz
      obtain rfl : x = z := by simpa using hz
      rw [hx2, hz2]
    · rw [if_neg ht, List.getElem?_eq_none]
      rw [fc_length, hl]
      omega
end

end Go.Proofs.YthenjegmigeieaaGreat

/- The library's sort, of facts in a row of one's own. -/
namespace Go.Proofs.YthenjegmigeieaaGreat
open Go.Shelf Go.RowKit Go.Lib Go.Sort

/-- A fact whose numbers can be read. -/
def FvOk (w : World) (x : Fv) : Prop := IntsV w x.2 x.1.args ∧ FFit x.1
abbrev FvS (w : World) := { x : Fv // FvOk w x }
theorem fvOk_nil (w : World) : FvOk w (⟨0, []⟩, .slice none 0 0) := ⟨⟨none, 0, rfl, .inl rfl⟩, by show ([] : List Int).length ≤ _; decide⟩
theorem fv_lift {w : World} : ∀ {q : List Fv}, (∀ p, p ∈ q → FvOk w p) → ∃ Q : List (FvS w), Q.map (·.1) = q := by
  intro q
  induction q with
  | nil => intro _; exact ⟨[], rfl⟩
  | cons a r ih =>
    intro h
    obtain ⟨Q, hQ⟩ := ih (fun p hp => h p (by simp [hp]))
    exact ⟨⟨a, h a (by simp)⟩ :: Q, by simp [hQ]⟩
abbrev fvInh (w : World) : Inhabited (FvS w) := ⟨⟨_, fvOk_nil w⟩⟩
def fvEnc {w : World} (x : FvS w) : List Value := fcCells x.1
def fvCmp {w : World} (x y : FvS w) : Int := Rl.ord x.1.1 y.1.1
theorem fv_swo (w : World) : SWO (ltOf (fvCmp (w := w))) where
  irrefl x := by unfold ltOf fvCmp; rw [Rl.ord_self]; decide
  trans x y z h1 h2 := by
    unfold ltOf fvCmp at *
    simp only [decide_eq_true_eq] at *
    exact Rl.ord_trans h1 h2
  ntrans x y z h1 h2 := by
    unfold ltOf fvCmp at *
    simp only [decide_eq_false_iff_not] at *
    intro h3
    rcases Rl.lt_or x.1.1 y.1.1 with h4 | h4 | h4
    · exact h1 h4
    · rw [h4] at h3; exact h2 h3
    · exact h2 (Rl.ord_trans h4 h3)
theorem fv_one {w : World} (x : FvS w) : ∀ v ∈ fvEnc x, v.oneCell' = true := by
  intro v hv
  obtain ⟨⟨⟨p, a⟩, u⟩, h⟩ := x
  obtain ⟨⟨ao, cap, hu, _⟩, _⟩ := h
  have hu : u = .slice ao a.length cap := hu
  subst hu
  simp [fvEnc, fcCells] at hv
  rcases hv with rfl | rfl <;> rfl
theorem sortWorldK_block {α : Type} [Inhabited α] (enc : α → List Value) (k : Nat) (w : World) (g m : Nat) (d : Array α) (os : Array Obj) (i : Nat) (hi : i < w.heap.size) (hne : ¬ i = g) : (sortWorldK enc k w g 0 m d os).heap[i]? = w.heap[i]? := by
  unfold sortWorldK putRowK putRow mapBlock Sort.ahead grow
  show ((w.heap.modify g _) ++ os)[i]? = _
  rw [Array.getElem?_append_left (by simpa using hi), Array.getElem?_modify, if_neg (fun e => hne e.symm)]
theorem sortWorldK_size {α : Type} [Inhabited α] (enc : α → List Value) (k : Nat) (w : World) (g m : Nat) (d : Array α) (os : Array Obj) : w.heap.size ≤ (sortWorldK enc k w g 0 m d os).heap.size := by
  unfold sortWorldK putRowK putRow mapBlock Sort.ahead grow
  show _ ≤ ((w.heap.modify g _) ++ os).size
  simp
theorem cmp_lays {w0 w : World} {g : Nat} (hg : w0.heap.size ≤ g) (hlow : ∀ k, k < w0.heap.size → w.heap[k]? = w0.heap[k]?) (size : Nat) : @CmpLays (FvS w0) (fvInh w0) Tryz.prog 71 #[] fvEnc 2 fvCmp g 0 size w := by
  letI : Inhabited (FvS w0) := fvInh w0
  intro m os dk _ x y
  have hl : ∀ k, k < w0.heap.size → (sortWorldK (fvEnc (w := w0)) 2 w g 0 m dk os).heap[k]? = w0.heap[k]? := fun k hk => (sortWorldK_block _ _ _ _ _ _ _ k (Nat.lt_of_lt_of_le hk (rl_low_size hlow)) (by omega)).trans (hlow k hk)
  exact Order_any x.1.1 y.1.1 x.1.2 y.1.2 _ (rl_ints_low x.2.1 hl) (rl_ints_low y.2.1 hl) x.2.2 y.2.2

theorem holds_row {w0 w : World} {B g cap : Nat} {Q : List (FvS w0)} (h : FRow w B g cap (Q.map (·.1))) : @HoldsK (FvS w0) (fvInh w0) fvEnc 2 w g 0 Q.toArray := by
  letI : Inhabited (FvS w0) := fvInh w0
  intro t ht
  have ht2 : t < Q.length * 2 := by simpa using ht
  refine ⟨?_, by rw [Nat.zero_add]; exact h.frozen t⟩
  rw [Nat.zero_add]
  have hc := World.ownsRow.cellAt h t (by rw [List.length_map]; exact ht2)
  obtain ⟨x, hx, hx2⟩ := fc_at (Q.map (·.1)) t (by rw [List.length_map]; exact ht2)
  rw [hc, hx2]
  have h1 : t / 2 < Q.length := by omega
  rw [List.getElem?_map, List.getElem?_eq_getElem h1] at hx
  have hx3 : Q[t / 2].1 = x := by simpa using hx
  show (fcCells x)[t % 2]? = some ((flatK fvEnc 2 Q.toArray)[t]!)
  rw [get_flatK fvEnc 2 Q.toArray t (by simpa using ht2)]
  have h2 : (Q.toArray)[t / 2]! = Q[t / 2] := by simp [h1]
  rw [h2]
  show _ = some ((fcCells Q[t / 2].1)[t % 2]!)
  rw [hx3]
  have h3 : t % 2 < (fcCells x).length := by show t % 2 < 2; omega
  rw [List.getElem?_eq_getElem h3, getElem!_pos (fcCells x) (t % 2) h3]
theorem row_sorted {w0 w : World} {B g cap n : Nat} {Q : List (FvS w0)} {d : Array (FvS w0)} {os : Array Obj} (h : FRow w B g cap (Q.map (·.1))) (hd : d.size = Q.length) :
    FRow (@sortWorldK (FvS w0) (fvInh w0) fvEnc 2 w g 0 n d os) B g cap (d.toList.map (·.1)) := by
  letI : Inhabited (FvS w0) := fvInh w0
  have hg := h.lt
  obtain ⟨h1, h2⟩ := h
  rcases h2 with ⟨h2, _⟩ | ⟨g', cap', cur, hv, hb, hh, hc1, hc2, hc3, hc4⟩
  · cases h2
  · injection hv with e1 _ e3
    injection e1 with e1
    injection e1 with e1
    subst e1 e3
    have hl : (d.toList.map (·.1)).length = Q.length := by rw [List.length_map, Array.length_toList, hd]
    refine ⟨fc_length _, .inr ⟨g, cap, putCells id 0 (flatK fvEnc 2 d) cur, rfl, hb, ?_, by rw [hl]; simpa using hc1, hc2, by simpa [putCells] using hc3, ?_⟩⟩
    · unfold sortWorldK putRowK putRow mapBlock Sort.ahead grow
      show ((w.heap.modify g _) ++ os)[g]? = _
      rw [Array.getElem?_append_left (by simpa using hg.2), Array.getElem?_modify, if_pos rfl, hh]
      rfl
    · apply List.ext_getElem?
      intro t
      rw [List.getElem?_take, Array.getElem?_toList, hl]
      by_cases ht : t < Q.length * 2
      · rw [if_pos ht]
        have hq : (Q.map (·.1)).length = Q.length := List.length_map _
        have hcs : t < cur.size := by
          rw [hc3]
          have : Q.length ≤ cap := by simpa using hc1
          omega
        obtain ⟨x, hx, hx2⟩ := fc_at (d.toList.map (·.1)) t (by rw [hl]; exact ht)
        rw [hx2]
        unfold putCells
        rw [Array.getElem?_mapIdx, Array.getElem?_eq_getElem hcs, Option.map_some, if_pos (by rw [size_flatK, hd]; omega)]
        have h4 : t / 2 < d.size := by omega
        rw [List.getElem?_map, Array.getElem?_toList, Array.getElem?_eq_getElem h4] at hx
        have hx3 : d[t / 2].1 = x := by simpa using hx
        rw [Nat.sub_zero, get_flatK fvEnc 2 d t (by rw [hd]; exact ht), getElem!_pos d _ h4]
        show some ((fcCells d[t / 2].1)[t % 2]!) = _
        rw [hx3]
        have h3 : t % 2 < (fcCells x).length := by show t % 2 < 2; omega
        rw [List.getElem?_eq_getElem h3, getElem!_pos (fcCells x) (t % 2) h3]
      · rw [if_neg ht, List.getElem?_eq_none]
        rw [fc_length, hl]
        omega

theorem sort_any (w0 w : World) (B g cap : Nat) (q : List Fv) (h0 : w0.heap.size ≤ g) (hlow : ∀ k, k < w0.heap.size → w.heap[k]? = w0.heap[k]?) (hown : FRow w B g cap q) (hq : ∀ p, p ∈ q → FvOk w0 p) (hn : q.length < 4611686018427387904) :
    Calls Tryz.prog 106 #[.slice (some ⟨g, 0, none⟩) q.length cap, .func (.func 71) #[] #[]] w fun e w' => e = .returned (.tuple #[]) ∧ ∃ q', q'.Perm q ∧ (q'.map (·.1)).Pairwise (fun a b => ¬ Rl.Lt b a) ∧ FRow w' B g cap q' ∧ w.grownBy w' (some g) := by
  obtain ⟨Q, rfl⟩ := fv_lift hq
  letI : Inhabited (FvS w0) := fvInh w0
  have eg : ∀ args w, (callFunc 71 args).run Tryz.prog w = .ok (.enter 71 args) w := enters_of Tryz.func71 (by kernel_rfl) rfl
  have hsz : Q.toArray.size = Q.length := by simp
  have hcon := AnyQ.slices_SortFunc Tryz.sortF 2 Tryz.isAgg55 Tryz.sizeOf55 fvEnc (fun _ => rfl) fv_one fvCmp (fv_swo w0) 71 #[] g 0 cap Q.toArray w eg (cmp_lays h0 hlow _) (holds_row hown) hown.lt.2 (by rw [hsz]; simpa using hn)
  rw [hsz] at hcon
  change Calls Tryz.prog 106 _ _ _ at hcon
  rw [List.length_map]
  refine hcon.mono ?_
  rintro e w' ⟨rfl, d', n, os, hp, hs, rfl⟩
  obtain ⟨p1, p2, p3⟩ := hp
  have hds : d'.size = Q.length := by rw [p1]; simp
  have e1 : d'.extract 0 Q.length = d' := by rw [← hds]; simp
  have e2 : Q.toArray.extract 0 Q.length = Q.toArray := by simp
  rw [e1, e2] at p3
  refine ⟨rfl, d'.toList.map (·.1), ?_, ?_, row_sorted hown hds, rfl, rfl, rfl, sortWorldK_size _ _ _ _ _ _ _, fun k hk hne => sortWorldK_block _ _ _ _ _ _ _ k hk (fun e => hne (by rw [e]))⟩
  · exact p3.map _
  · rw [List.pairwise_iff_getElem]
    intro i j hi hj hij
    have hi2 : i < d'.size := by simpa using hi
    have hj2 : j < d'.size := by simpa using hj
    have := hs i j (Nat.zero_le _) hij (by omega)
    rw [getElem!_pos d' j hj2, getElem!_pos d' i hi2] at this
    unfold ltOf fvCmp at this
    simp only [decide_eq_false_iff_not] at this
    simpa [Rl.Lt] using this

end Go.Proofs.YthenjegmigeieaaGreat

