/- Own texts, one behind the other (part 4). -/
import Derived.Test.YtmfaodapofamfaaGreatBundleC
import Derived.Test.YtmfaodapofamfaaGreatRows
import Derived.Deep.RegionHeld3
import Derived.Lib.BufferMore
import Derived.Laws.EntriesVeiled
/- The library's Clone, of updates, facts and ids. -/
namespace Go.Proofs.YtmfaodapofamfaaGreat
open Go.RowKit

/-- Cells that lie one behind the other. -/
def CellsAt (w : World) (ao : Option Addr) (xs : List Value) : Prop := xs = [] ∨ ∃ b off, ao = some ⟨b, off, none⟩ ∧ ∀ j u, xs[j]? = some u → w.cell? ⟨b, off + j, none⟩ = some u
abbrev idCells (x : Wr.Id) : List Value := [.int .i64 x.a, .int .i64 x.n]
theorem id_info : (Tryz.prog.info? 26).map (fun i => (i.zero, i.size, i.bytes)) = some (some (.agg #[.int .i64 0, .int .i64 0]), 2, 16) := by kernel_rfl
set_option maxRecDepth 100000 in
set_option maxHeartbeats 1000000 in
theorem cloneU_any (n : Nat) (xs : List Value) (ao : Option Addr) (cap : Nat) (w : World) (hA : CellsAt w ao xs) (hx : xs.length = n * 5) (h1 : ∀ u, u ∈ xs → u.oneCell' = true) (hn : n ≤ 1048576) (h0 : ao = none → n = 0) :
    Calls Tryz.prog 80 #[.slice ao n cap] w fun e w' => ∃ v', e = .returned v' ∧ w'.ownsRow w.heap.size 30 5 v' n xs ∧ Below w.heap.size w w' := by
  obtain ⟨i0, hi, hz0, hz1, hz2⟩ := info_parts up_info
  have q22 : ∀ (w : World) (a : Option Addr) (n c : Nat), (binOp .eql 22 (.slice a n c) (.slice none 0 0)).run Tryz.prog w = .ok (.bool a.isNone) w := fun w a n c => Lib.run_eql_slice_nil w 22 30 a n c 0 0 Tryz.underlying22
  have u22 : ∀ w, Sem.run Tryz.prog (underlying 22) w = .ok (TypeDesc.slice 30) w := run_underlying Tryz.underlying22
  have HA : Hid (CellsAt w ao xs) := hA
  have HX : Hid (xs.length = n * 5) := hx
  have H1 : Hid (∀ u, u ∈ xs → u.oneCell' = true) := h1
  clear hA hx h1
  cases ao with
  | none =>
    have hl0 : n = 0 := h0 rfl
    subst hl0
    have HE : Hid (xs = []) := List.eq_nil_of_length_eq_zero (by have := HX.out; omega)
    go_enter Tryz.func80, Tryz.ntmps80
    go_wp2_with fail
    go_ret
    exact ⟨_, rfl, by rw [HE.out]; exact World.ownsRow_nil _ _ _ _, Below.refl _ _⟩
  | some a =>
    clear h0
    have HC : Hid (∀ j u, xs[j]? = some u → w.cell? (a.add j) = some u) := by
      intro j u hj
      rcases HA.out with h | ⟨b, off, h, hc⟩
      · rw [h] at hj; simp at hj
      · rw [Option.some.inj h, Addr.add_lit]
        exact hc j u hj
    clear HA
    go_enter Tryz.func80, Tryz.ntmps80
    go_wp2_with (at_builtin; refine wpList_append_own _ rfl _ _ 22 rfl w.heap.size 30 i0 _ 5 88 Tryz.underlying22 hi hz0 hz1 hz2 rfl (by decide) _ _ _ rfl (World.ownsRow_made w #[] 0 (Nat.le_refl _) (Nat.zero_le _) (by simp)) a n cap xs rfl ?qc1 ?qc2 ?qc3 ?qc4 ?qc5 ?qc6 ?_)
    case qc1 => exact HX.out
    case qc2 =>
      intro j u hj
      exact Lib.cell?_alloc_some _ (HC.out j u hj)
    case qc3 => exact H1.out
    case qc4 => unfold maxLen; omega
    case qc5 => omega
    case qc6 => simp
    intro v' w' hown hgrow _
    obtain ⟨a9, c9, rfl⟩ := own_slice hown
    have hb : Below w.heap.size w w' := ((Below.refl w.heap.size w).alloc (Nat.le_refl _) _).grown hgrow (by simp) (fun k hk => by
      have : w.heap.size = k := by simpa [Value.ownBlock] using hk
      omega)
    have HO : Hid (w'.ownsRow w.heap.size 30 5 (.slice a9 n c9) n xs) := hown
    clear hown hgrow
    go_wp2_with fail
    go_ret
    exact ⟨_, rfl, HO.out, hb⟩
set_option maxRecDepth 100000 in
set_option maxHeartbeats 1000000 in
theorem cloneF_any (n : Nat) (xs : List Value) (ao : Option Addr) (cap : Nat) (w : World) (hA : CellsAt w ao xs) (hx : xs.length = n * 2) (h1 : ∀ u, u ∈ xs → u.oneCell' = true) (hn : n ≤ 1048576) (h0 : ao = none → n = 0) :
    Calls Tryz.prog 94 #[.slice ao n cap] w fun e w' => ∃ v', e = .returned v' ∧ w'.ownsRow w.heap.size 84 2 v' n xs ∧ Below w.heap.size w w' := by
  obtain ⟨i0, hi, hz0, hz1, hz2⟩ := info_parts rl_info49
  have q22 : ∀ (w : World) (a : Option Addr) (n c : Nat), (binOp .eql 28 (.slice a n c) (.slice none 0 0)).run Tryz.prog w = .ok (.bool a.isNone) w := fun w a n c => Lib.run_eql_slice_nil w 28 84 a n c 0 0 Tryz.underlying28
  have u22 : ∀ w, Sem.run Tryz.prog (underlying 28) w = .ok (TypeDesc.slice 84) w := run_underlying Tryz.underlying28
  have HA : Hid (CellsAt w ao xs) := hA
  have HX : Hid (xs.length = n * 2) := hx
  have H1 : Hid (∀ u, u ∈ xs → u.oneCell' = true) := h1
  clear hA hx h1
  cases ao with
  | none =>
    have hl0 : n = 0 := h0 rfl
    subst hl0
    have HE : Hid (xs = []) := List.eq_nil_of_length_eq_zero (by have := HX.out; omega)
    go_enter Tryz.func94, Tryz.ntmps94
    go_wp2_with fail
    go_ret
    exact ⟨_, rfl, by rw [HE.out]; exact World.ownsRow_nil _ _ _ _, Below.refl _ _⟩
  | some a =>
    clear h0
    have HC : Hid (∀ j u, xs[j]? = some u → w.cell? (a.add j) = some u) := by
      intro j u hj
      rcases HA.out with h | ⟨b, off, h, hc⟩
      · rw [h] at hj; simp at hj
      · rw [Option.some.inj h, Addr.add_lit]
        exact hc j u hj
    clear HA
    go_enter Tryz.func94, Tryz.ntmps94
    go_wp2_with (at_builtin; refine wpList_append_own _ rfl _ _ 28 rfl w.heap.size 84 i0 _ 2 32 Tryz.underlying28 hi hz0 hz1 hz2 rfl (by decide) _ _ _ rfl (World.ownsRow_made w #[] 0 (Nat.le_refl _) (Nat.zero_le _) (by simp)) a n cap xs rfl ?qc1 ?qc2 ?qc3 ?qc4 ?qc5 ?qc6 ?_)
    case qc1 => exact HX.out
    case qc2 =>
      intro j u hj
      exact Lib.cell?_alloc_some _ (HC.out j u hj)
    case qc3 => exact H1.out
    case qc4 => unfold maxLen; omega
    case qc5 => omega
    case qc6 => simp
    intro v' w' hown hgrow _
    obtain ⟨a9, c9, rfl⟩ := own_slice hown
    have hb : Below w.heap.size w w' := ((Below.refl w.heap.size w).alloc (Nat.le_refl _) _).grown hgrow (by simp) (fun k hk => by
      have : w.heap.size = k := by simpa [Value.ownBlock] using hk
      omega)
    have HO : Hid (w'.ownsRow w.heap.size 84 2 (.slice a9 n c9) n xs) := hown
    clear hown hgrow
    go_wp2_with fail
    go_ret
    exact ⟨_, rfl, HO.out, hb⟩
set_option maxRecDepth 100000 in
set_option maxHeartbeats 1000000 in
theorem cloneD_any (n : Nat) (xs : List Value) (ao : Option Addr) (cap : Nat) (w : World) (hA : CellsAt w ao xs) (hx : xs.length = n * 2) (h1 : ∀ u, u ∈ xs → u.oneCell' = true) (hn : n ≤ 1048576) (h0 : ao = none → n = 0) :
    Calls Tryz.prog 96 #[.slice ao n cap] w fun e w' => ∃ v', e = .returned v' ∧ w'.ownsRow w.heap.size 26 2 v' n xs ∧ Below w.heap.size w w' := by
  obtain ⟨i0, hi, hz0, hz1, hz2⟩ := info_parts id_info
  have q22 : ∀ (w : World) (a : Option Addr) (n c : Nat), (binOp .eql 27 (.slice a n c) (.slice none 0 0)).run Tryz.prog w = .ok (.bool a.isNone) w := fun w a n c => Lib.run_eql_slice_nil w 27 26 a n c 0 0 Tryz.underlying27
  have u22 : ∀ w, Sem.run Tryz.prog (underlying 27) w = .ok (TypeDesc.slice 26) w := run_underlying Tryz.underlying27
  have HA : Hid (CellsAt w ao xs) := hA
  have HX : Hid (xs.length = n * 2) := hx
  have H1 : Hid (∀ u, u ∈ xs → u.oneCell' = true) := h1
  clear hA hx h1
  cases ao with
  | none =>
    have hl0 : n = 0 := h0 rfl
    subst hl0
    have HE : Hid (xs = []) := List.eq_nil_of_length_eq_zero (by have := HX.out; omega)
    go_enter Tryz.func96, Tryz.ntmps96
    go_wp2_with fail
    go_ret
    exact ⟨_, rfl, by rw [HE.out]; exact World.ownsRow_nil _ _ _ _, Below.refl _ _⟩
  | some a =>
    clear h0
    have HC : Hid (∀ j u, xs[j]? = some u → w.cell? (a.add j) = some u) := by
      intro j u hj
      rcases HA.out with h | ⟨b, off, h, hc⟩
      · rw [h] at hj; simp at hj
      · rw [Option.some.inj h, Addr.add_lit]
        exact hc j u hj
    clear HA
    go_enter Tryz.func96, Tryz.ntmps96
    go_wp2_with (at_builtin; refine wpList_append_own _ rfl _ _ 27 rfl w.heap.size 26 i0 _ 2 16 Tryz.underlying27 hi hz0 hz1 hz2 rfl (by decide) _ _ _ rfl (World.ownsRow_made w #[] 0 (Nat.le_refl _) (Nat.zero_le _) (by simp)) a n cap xs rfl ?qc1 ?qc2 ?qc3 ?qc4 ?qc5 ?qc6 ?_)
    case qc1 => exact HX.out
    case qc2 =>
      intro j u hj
      exact Lib.cell?_alloc_some _ (HC.out j u hj)
    case qc3 => exact H1.out
    case qc4 => unfold maxLen; omega
    case qc5 => omega
    case qc6 => simp
    intro v' w' hown hgrow _
    obtain ⟨a9, c9, rfl⟩ := own_slice hown
    have hb : Below w.heap.size w w' := ((Below.refl w.heap.size w).alloc (Nat.le_refl _) _).grown hgrow (by simp) (fun k hk => by
      have : w.heap.size = k := by simpa [Value.ownBlock] using hk
      omega)
    have HO : Hid (w'.ownsRow w.heap.size 26 2 (.slice a9 n c9) n xs) := hown
    clear hown hgrow
    go_wp2_with fail
    go_ret
    exact ⟨_, rfl, HO.out, hb⟩

theorem ids_flat (l : List Wr.Id) : (l.map idCells).flatten.length = l.length * 2 := by
  induction l with
  | nil => rfl
  | cons a r ih =>
    rw [List.map_cons, List.flatten_cons, List.length_append, ih]
    show 2 + r.length * 2 = (r.length + 1) * 2
    omega
theorem flatD_get : ∀ (q : List Wr.Id) (i j : Nat), i < q.length → j < 2 → (q.map idCells).flatten[i * 2 + j]? = (idCells (idD q i))[j]?
  | [], i, j, hi, _ => absurd hi (by simp)
  | x :: r, 0, j, _, hj => by
    show (idCells x ++ (r.map idCells).flatten)[0 * 2 + j]? = (idCells x)[j]?
    rw [List.getElem?_append_left (by show 0 * 2 + j < 2; omega)]
    congr 1
    omega
  | x :: r, i + 1, j, hi, hj => by
    have h := flatD_get r i j (by simpa using hi) hj
    show (idCells x ++ (r.map idCells).flatten)[(i + 1) * 2 + j]? = _
    rw [List.getElem?_append_right (by show 2 ≤ _; omega)]
    have e : (i + 1) * 2 + j - (idCells x).length = i * 2 + j := by show (i + 1) * 2 + j - 2 = _; omega
    rw [e, h]
    rfl
theorem ids_cells {w : World} {ao : Option Addr} {l : List Wr.Id} (h : IdsAt w ao l) : CellsAt w ao (l.map idCells).flatten := by
  rcases h with rfl | ⟨b, off, rfl, h⟩
  · exact .inl rfl
  · refine .inr ⟨b, off, rfl, fun j u hj => ?_⟩
    have hjl : j < l.length * 2 := by
      rcases Nat.lt_or_ge j (l.length * 2) with h2 | h2
      · exact h2
      · rw [List.getElem?_eq_none (by rw [ids_flat]; exact h2)] at hj; cases hj
    have hi : j / 2 < l.length := by omega
    have e : j = j / 2 * 2 + j % 2 := by omega
    have hm : j % 2 < 2 := by omega
    rw [e, flatD_get l _ _ hi hm] at hj
    have eo : off + j = off + j / 2 * 2 + j % 2 := by omega
    rw [eo]
    obtain ⟨h0, h1⟩ := h _ hi
    generalize j % 2 = m at *
    match m, hm with
    | 0, _ => rw [← hj]; exact h0
    | 1, _ => rw [← hj]; exact h1
theorem own_ids {W : World} {B : Nat} {v : Value} {l : List Wr.Id} (h : W.ownsRow B 26 2 v l.length (l.map idCells).flatten) : IdsV W v l := by
  obtain ⟨ao, cap, rfl, hcap, hc⟩ := own_cells h
  refine ⟨ao, cap, rfl, ⟨hcap, fun e => ?_⟩, ?_⟩
  · rcases ownsRow_forms9 h with ⟨e2, h0⟩ | ⟨g, c2, e2⟩
    · injection e2
    · injection e2 with e3
      rw [e] at e3
      cases e3
  · rcases hc with h0 | ⟨g, rfl, hg⟩
    · exact .inl (List.eq_nil_of_length_eq_zero h0)
    · refine .inr ⟨g, 0, rfl, fun i hi => ?_⟩
      have key : ∀ j, j < 2 → W.cell? ⟨g, 0 + i * 2 + j, none⟩ = (idCells (idD l i))[j]? := fun j hj => by
        rw [Nat.zero_add, hg (i * 2 + j) (by omega), flatD_get l i j hi hj]
      exact ⟨by have := key 0 (by omega); simpa using this, by have := key 1 (by omega); simpa using this⟩
/-- Clone of updates. -/
theorem cloneUps_any (q : List Uv) (v : Value) (w : World) (hV : UpsV w v q) (hok : ∀ x, x ∈ q → UvOk w x) (hl : q.length ≤ 1000) :
    Calls Tryz.prog 80 #[v] w fun e w' => ∃ v', e = .returned v' ∧ URow w' w.heap.size v' q ∧ Below w.heap.size w w' := by
  obtain ⟨ao, cap, rfl, hc, hA⟩ := hV
  refine cloneU_any q.length _ ao cap w ?_ (ups_flat q) (uv_one hok) (by omega) (fun h => by have := hc.2 h; omega)
  rcases hA with rfl | ⟨b, off, rfl, h⟩
  · exact .inl rfl
  · exact .inr ⟨b, off, rfl, ups_cells h⟩
end Go.Proofs.YtmfaodapofamfaaGreat

/- A region by a table whose last operation comes behind all others, and may change anything. -/
namespace Go.Proofs.YtmfaodapofamfaaGreat
open Go.RowKit

/-- The last one waits for all. -/
def lastFine (ops : Array Oper) (oL : Oper) : Bool := (List.range (ops.size - 1)).all fun i => oL.after.toList.any fun e => Region.binds .any e && (e.on == i || ((ops[e.on]?).map fun o => o.after.toList.any fun f => f.on == i && Region.binds .any f).getD false)
/-- The table, for all but the last. -/
structure OpInL (ops : Array Oper) (T : Nat → Value → World → Prop) (a0 : Act) (w0 : World) (a : Act) (w : World) : Prop where
  below : Below w0.heap.size w0 w
  defers : a.defers = a0.defers
  size : a.tmps.size = a0.tmps.size
  still : ∀ t, t ∉ ops.toList.filterMap (·.dst) → a.tmps.getD t undef = a0.tmps.getD t undef
  all : ∀ (i : Nat) (o : Oper) (t : Nat), i + 1 < ops.size → ops[i]? = some o → o.dst = some t → T t (a.tmps.getD t undef) w

theorem wpOp_skip {P : Program} {ops : Array Oper} {Q : Exit → Act → World → Prop} {i : Nat} {o : Oper} {K : Act → World → Prop} {a : Act} {w w' : World} (ho : ops[i]? = some o) (hw : Region.wanted o (yielded ops a.tmps) = true) (hd : o.dst = none) (hr : (execOp a.eval o).run P w = .ok .skip w') (h : K a w') : wpOp P ops Q i K a w := by
  unfold wpOp
  rw [ho]
  dsimp only
  rw [if_pos hw]
  left
  unfold Oper.wp
  rw [hr, Oper.upon_skip, hd]
  exact h
section
variable {P : Program} {ops : Array Oper} {Q : Exit → Act → World → Prop}
theorem wp_region_tabL (T : Nat → Value → World → Prop) {id : Nat} {a0 : Act} {w0 : World} (oL : Oper) (hoL : ops[ops.size - 1]? = some oL) (hlf : lastFine ops oL = true) (hm : P.follows .mixedOrders = true)
    (hf : tabFine ops a0.tmps.size = true)
    (hmono : ∀ t v w w', Below w.heap.size w w' → T t v w → T t v w')
    (hop : AllOps (fun o => ∀ a w, OpIn ops T a0 w0 o a w → OpOk P ops Q T o a w) (ops.toList.take (ops.size - 1)))
    (hlast : ∀ a w, OpInL ops T a0 w0 a w → wpOp P ops Q (ops.size - 1) (fun a' w' => Q .normal a' w') a w) :
    (Code.region id ops true).wp P Q a0 w0 := by
  have hLs : ops.size - 1 < ops.size := (Array.getElem?_eq_some_iff.mp hoL).1
  unfold tabFine at hf
  rw [Bool.and_eq_true, Bool.and_eq_true] at hf
  obtain ⟨⟨hnd, hlt⟩, hah⟩ := hf
  have hnd := of_decide_eq_true hnd
  have hlt' : ∀ t, t ∈ ops.toList.filterMap (·.dst) → t < a0.tmps.size := fun t ht => of_decide_eq_true (List.all_eq_true.mp hlt t ht)
  have hah' : ∀ (i : Nat) (o : Oper), ops[i]? = some o → ∀ e, e ∈ o.after → e.on < i := fun i o ho e he => by
    have hi : i < ops.size := (Array.getElem?_eq_some_iff.mp ho).1
    have h := List.all_eq_true.mp hah i (List.mem_range.mpr hi)
    rw [ho, Option.map_some, Option.getD_some] at h
    exact of_decide_eq_true (List.all_eq_true.mp h e (by simpa using he))
  refine wp_region_inv (fun s a w => (s.size = ops.size ∧ ∀ (i : Nat) (o : Oper), s[i]? = some true → ops[i]? = some o → ∀ e, e ∈ o.after → Region.binds .any e = true → s[e.on]? = some true) ∧ ((s[ops.size - 1]? = some false ∧ Tabbed ops T a0 w0 s a w) ∨ ((∀ i, i < ops.size → s[i]? = some true) ∧ Q .normal a w))) hm ?_ ?_ ?_
  · rintro s a w hr ⟨⟨hs, hC⟩, ⟨hsL, hI⟩ | ⟨_, hQ⟩⟩
    · exfalso
      have hall : ∀ n : Nat, n ≤ ops.size → ∀ i : Nat, i < n → s[i]? = some true := by
        intro n
        induction n with
        | zero => intro _ i hi; exact absurd hi (Nat.not_lt_zero _)
        | succ n ih =>
          intro hn i hi
          have ih := ih (by omega)
          by_cases hin : i < n
          · exact ih i hin
          · have hin : i = n := by omega
            subst hin
            cases hsi : s[i]? with
            | none => rw [Array.getElem?_eq_none_iff] at hsi; omega
            | some b =>
              cases b with
              | true => rfl
              | false =>
                exfalso
                have hio : i < ops.size := by omega
                have : i ∈ Region.ready .any ops s := by
                  unfold Region.ready
                  refine List.mem_filter.mpr ⟨List.mem_range.mpr hio, ?_⟩
                  rw [Bool.and_eq_true]
                  refine ⟨by simp [Array.getD_eq_getD_getElem?, hsi], ?_⟩
                  have ho : ops[i]? = some ops[i] := Array.getElem?_eq_getElem hio
                  rw [ho, Option.map_some, Option.getD_some, Array.all_eq_true_iff_forall_mem]
                  intro e he
                  have h1 := ih e.on (hah' i _ ho e he)
                  simp [Array.getD_eq_getD_getElem?, h1]
                rw [hr] at this
                exact absurd this (by simp)
      have := hall ops.size (Nat.le_refl _) (ops.size - 1) hLs
      rw [hsL] at this
      cases this
    · exact hQ
  · rintro s a w i hi ⟨⟨hs, hC⟩, hI⟩
    obtain ⟨hsi, o, ho, haf⟩ := ready_mem hi
    have hup : ∀ j, s[j]? = some true → (s.setIfInBounds i true)[j]? = some true := fun j hj => by
      rw [Array.getElem?_setIfInBounds]
      by_cases hij : i = j
      · rw [if_pos hij, if_pos (by have := (Array.getElem?_eq_some_iff.mp hsi).1; omega)]
      · rw [if_neg hij]; exact hj
    have hss : (s.setIfInBounds i true).size = ops.size ∧ ∀ (i' : Nat) (o' : Oper), (s.setIfInBounds i true)[i']? = some true → ops[i']? = some o' → ∀ e, e ∈ o'.after → Region.binds .any e = true → (s.setIfInBounds i true)[e.on]? = some true := by
      refine ⟨by simp [hs], fun i' o' hi' ho' e he hb => ?_⟩
      by_cases hii : i = i'
      · subst hii
        rw [ho] at ho'
        cases ho'
        exact hup _ (haf e he hb)
      · rw [Array.getElem?_setIfInBounds, if_neg hii] at hi'
        exact hup _ (hC i' o' hi' ho' e he hb)
    rcases hI with ⟨hsL, hI⟩ | ⟨hall, _⟩
    · by_cases hiL : i = ops.size - 1
      · subst hiL
        rw [hoL] at ho
        cases ho
        have hdone : ∀ j, j + 1 < ops.size → s[j]? = some true := fun j hj => by
          unfold lastFine at hlf
          have h1 := List.all_eq_true.mp hlf j (List.mem_range.mpr (by omega))
          obtain ⟨e, he, h2⟩ := List.any_eq_true.mp h1
          rw [Bool.and_eq_true, Bool.or_eq_true] at h2
          have hse := haf e (by simpa using he) h2.1
          rcases h2.2 with h3 | h3
          · have h3 : e.on = j := by simpa using h3
            rw [← h3]
            exact hse
          · cases hoe : ops[e.on]? with
            | none => rw [hoe] at h3; simp at h3
            | some oe =>
              rw [hoe, Option.map_some, Option.getD_some] at h3
              obtain ⟨f, hf, h4⟩ := List.any_eq_true.mp h3
              rw [Bool.and_eq_true] at h4
              have h5 : f.on = j := by simpa using h4.1
              rw [← h5]
              exact hC e.on oe hse hoe f (by simpa using hf) h4.2
        refine wpOp_mono ?_ (hlast a w ⟨hI.below, hI.defers, hI.size, hI.still, fun j oj t hj hoj hd => hI.done j oj t (hdone j hj) hoj hd⟩)
        intro a' w' hQ
        refine ⟨hss, .inr ⟨fun j hj => ?_, hQ⟩⟩
        rw [Array.getElem?_setIfInBounds]
        by_cases hj2 : ops.size - 1 = j
        · rw [if_pos hj2, if_pos (by omega)]
        · rw [if_neg hj2]
          exact hdone j (by omega)
      · have hop' : OpOk P ops Q T o a w := by
          have hil : i < ops.size := (Array.getElem?_eq_some_iff.mp ho).1
          refine AllOps.mem _ hop o ?_ a w ⟨hI.below, hI.still, fun e he hb o' t ho' hd => hI.done e.on o' t (haf e he hb) ho' hd⟩
          rw [← Array.getElem?_toList] at ho
          refine List.mem_of_getElem? (i := i) ?_
          rw [List.getElem?_take, if_pos (by omega)]
          exact ho
        have hset : ∀ {v : Value} {w' : World}, (∀ t, o.dst = some t → T t v w') → Below w.heap.size w w' → Tabbed ops T a0 w0 (s.setIfInBounds i true) (a.put o.dst v) w' := by
          intro v w' hv hb
          refine ⟨hI.below.trans (hb.mono hI.below.size), by rw [put_defers]; exact hI.defers, by rw [put_size]; exact hI.size, fun t ht => ?_, fun j oj t hj hoj hd => ?_⟩
          · cases hd : o.dst with
            | none => exact hI.still t ht
            | some u =>
              have hne : t ≠ u := fun h => ht (h ▸ dst_mem ho hd)
              rw [put_get_ne hne]
              exact hI.still t ht
          · by_cases hij : j = i
            · subst hij
              rw [ho] at hoj
              cases hoj
              rw [hd, put_get_self (by rw [hI.size]; exact hlt' t (dst_mem ho hd))]
              exact hv t hd
            · have hj' : s[j]? = some true := by
                rw [Array.getElem?_setIfInBounds, if_neg (fun h => hij h.symm)] at hj
                exact hj
              have h1 := hmono t _ w w' hb (hI.done j oj t hj' hoj hd)
              cases hd2 : o.dst with
              | none => exact h1
              | some u =>
                have hne : t ≠ u := fun h => hij (dst_inj ops.toList hnd j i oj o t (by rw [Array.getElem?_toList]; exact hoj) (by rw [Array.getElem?_toList]; exact ho) hd (h ▸ hd2))
                rw [put_get_ne hne]
                exact h1
        have hsL' : (s.setIfInBounds i true)[ops.size - 1]? = some false := by
          rw [Array.getElem?_setIfInBounds, if_neg hiL]
          exact hsL
        unfold OpOk at hop'
        unfold wpOp
        rw [ho]
        dsimp only
        by_cases hw : Region.wanted o (yielded ops a.tmps) = true
        · rw [if_pos hw] at hop' ⊢
          refine hop'.imp (Oper.wp_mono ?_) (fun h => h)
          rintro a' w' ⟨v, rfl, hv, hb⟩
          exact ⟨hss, .inl ⟨hsL', hset hv hb⟩⟩
        · rw [if_neg hw] at hop' ⊢
          exact ⟨hss, .inl ⟨hsL', hset hop' (Below.refl _ _)⟩⟩
    · have := hall i (Array.getElem?_eq_some_iff.mp ho).1
      rw [hsi] at this
      cases this
  · refine ⟨⟨by simp, fun i o h => ?_⟩, .inl ⟨?_, ⟨⟨rfl, rfl, rfl, Nat.le_refl _, fun _ _ => rfl⟩, rfl, rfl, fun _ _ => rfl, fun i o t h _ _ => ?_⟩⟩⟩
    · rw [Array.getElem?_replicate] at h
      split at h <;> simp at h
    · rw [Array.getElem?_replicate, if_pos hLs]
    · rw [Array.getElem?_replicate] at h
      split at h <;> simp at h
end

end Go.Proofs.YtmfaodapofamfaaGreat

/- The document's Under: what an update hangs on. -/
namespace Go.Proofs.YtmfaodapofamfaaGreat
open Go.RowKit

theorem appIds_run (y : World) (B : Nat) (hB : B ≤ y.heap.size) (v : Value) (l0 : List Wr.Id) (hown : y.ownsRow B 26 2 v l0.length (l0.map idCells).flatten) (ao : Option Addr) (cap : Nat) (l : List Wr.Id) (hA : IdsAt y ao l) (hcap : ao = none → cap = 0) (hl : l0.length + l.length ≤ 1000000) (ty : TypeId) :
    ∃ v' y', (Builtin.append_ #[27, 27] ty #[v, .slice ao l.length cap]).run Tryz.prog y = .ok v' y' ∧ y'.ownsRow B 26 2 v' (l0 ++ l).length ((l0 ++ l).map idCells).flatten ∧ y.grownBy y' v.ownBlock := by
  obtain ⟨i0, hi, hz0, hz1, hz2⟩ := info_parts id_info
  cases ao with
  | none =>
    have hl0 : l = [] := by
      rcases hA with h | ⟨b, off, h, _⟩
      · exact h
      · cases h
    subst hl0
    have hr := run_append_owned_none (P := Tryz.prog) (w := y) B 27 ty 26 i0 2 Tryz.underlying27 hi v l0.length _ hown
    rw [hcap rfl]
    exact ⟨v, y, hr, by rw [List.append_nil]; exact hown, grown_refl _ _⟩
  | some ad =>
    obtain ⟨v', y', r1, r2, r3, _⟩ := run_append_own (P := Tryz.prog) y B 27 ty 26 i0 _ 2 16 Tryz.underlying27 hi hz0 hz1 hz2 rfl (by decide) v l0.length _ hown ad l.length cap (l.map idCells).flatten (ids_flat l) (by
      intro j u hj
      rcases ids_cells hA with h | ⟨b, off, h, hc⟩
      · rw [h] at hj; simp at hj
      · rw [Option.some.inj h, Addr.add_lit]
        exact hc j u hj) (fun u hu => by
      obtain ⟨c, hc, hu⟩ := List.mem_flatten.mp hu
      obtain ⟨p, hp, rfl⟩ := List.mem_map.mp hc
      simp only [idCells, List.mem_cons, List.not_mem_nil, or_false] at hu
      rcases hu with rfl | rfl <;> rfl) (by unfold maxLen; omega) (by omega) hB
    exact ⟨v', y', r1, by rw [List.length_append, List.map_append, List.flatten_append]; exact r2, r3⟩
theorem wp_app {P : Program} {w w' : World} {o : Oper} {a : Act} {K : Act → World → Prop} {Q : Exit → Act → World → Prop} (s x : Operand) (t : TypeId) (hop : o.op = Op.call { callee := Callee.builtin Builtin.append, args := #[s, x], argTypes := #[t, t] }) {v u v' : Value} (hs : a.eval s = v) (hx : a.eval x = u) (hrun : (Builtin.append_ #[t, t] o.type #[v, u]).run P w = .ok v' w') (h : K (a.put o.dst v') w') : o.wp P a w K Q := by
  unfold Oper.wp execOp
  simp only [hop, resolve, invoke, builtin, Sem.run_bind, Sem.run_pure, Result.andThen_ok, List.map_toArray, List.map_cons, List.map_nil, hs, hx, hrun]
  exact h
set_option maxRecDepth 100000 in
set_option maxHeartbeats 4000000 in
theorem Under_any (x : Uv) (w : World) (hx : UvOk w x) (hl : x.u.ps.length ≤ 6 ∧ x.u.ts.length ≤ 6) : Calls Tryz.prog 84 #[uvVal x] w fun e w' => ∃ v, e = .returned v ∧ IdsV w' v (Dg.under x.u) ∧ Below w.heap.size w w' := by
  have HP : Hid (IdsV w x.p x.u.ps) := hx.p
  have HT : Hid (IdsV w x.t x.u.ts) := hx.t
  obtain ⟨a1, d1, e1, hc1, _⟩ := hx.p
  obtain ⟨a2, d2, e2, _⟩ := hx.s
  obtain ⟨a3, d3, e3, hc3, _⟩ := hx.t
  have HC1 : Hid (a1 = none → d1 = 0) := hc1.2
  have HC3 : Hid (a3 = none → d3 = 0) := hc3.2
  clear hx hc1 hc3
  generalize x.u.says.length = n2 at *
  obtain ⟨⟨⟨ua, un⟩, ps, says, ts⟩, vp, vs, vt⟩ := x
  dsimp only at *
  subst e1 e2 e3
  have HB1 : Hid (Below w.heap.size w (w.alloc (.cells #[.int .i64 ua, .int .i64 un, .slice a1 ps.length d1, .slice a2 n2 d2, .slice a3 ts.length d3] 30))) := (Below.refl _ _).alloc (Nat.le_refl _) _
  have HH1 : Hid ((w.alloc (.cells #[.int .i64 ua, .int .i64 un, .slice a1 ps.length d1, .slice a2 n2 d2, .slice a3 ts.length d3] 30)).heap[w.heap.size]? = some (.cells #[.int .i64 ua, .int .i64 un, .slice a1 ps.length d1, .slice a2 n2 d2, .slice a3 ts.length d3] 30)) := rl_new w _
  go_enter Tryz.func84, Tryz.ntmps84
  go_upto_region 1 with fail
  generalize w.alloc (.cells #[.int .i64 ua, .int .i64 un, .slice a1 ps.length d1, .slice a2 n2 d2, .slice a3 ts.length d3] 30) = w1 at *
  have d2 : w1.cell? ⟨w.heap.size, 2, none⟩ = some (.slice a1 ps.length d1) := by rw [Lib.cell_of_heap HH1.out]; rfl
  have d4 : w1.cell? ⟨w.heap.size, 4, none⟩ = some (.slice a3 ts.length d3) := by rw [Lib.cell_of_heap HH1.out]; rfl
  refine wp_region_held_drew (S := (fun y => y.cell? ⟨w.heap.size, 2, none⟩ = some (.slice a1 ps.length d1) ∧ y.cell? ⟨w.heap.size, 4, none⟩ = some (.slice a3 ts.length d3)  )) (by kernel_rfl) (by go_keep) (fun hHeld => ?_)
  refine wpAnyH_take (i := 1) (v := ?v1x0) rfl (by kernel_rfl) (by kernel_rfl) (by kernel_rfl) (fun _ _ _ h => h) (Or.inl ⟨by rfl, ?hy1x0⟩) (by assumption) ?_
  case hy1x0 =>
    intro w hSw
    (try dsimp only at hSw)
    go_simp
    try with_reducible rfl
  try simp only [Act.put, List.setIfInBounds_toArray]
  refine wpAnyH_take (i := 2) (v := ?v2x1) rfl (by kernel_rfl) (by kernel_rfl) (by kernel_rfl) (fun _ _ _ h => h) (Or.inl ⟨by rfl, ?hy2x1⟩) (by assumption) ?_
  case hy2x1 =>
    intro w hSw
    (try dsimp only at hSw)
    go_simp
    try with_reducible rfl
  try simp only [Act.put]
  refine wpAnyH_take (i := 4) (v := ?v4x2) rfl (by kernel_rfl) (by kernel_rfl) (by kernel_rfl) (fun _ _ _ h => h) (Or.inl ⟨by rfl, ?hy4x2⟩) (by assumption) ?_
  case hy4x2 =>
    intro w hSw
    (try dsimp only at hSw)
    go_simp
    try with_reducible rfl
  try simp only [Act.put]
  refine wpAnyH_take (i := 5) (v := ?v5x3) rfl (by kernel_rfl) (by kernel_rfl) (by kernel_rfl) (fun _ _ _ h => h) (Or.inl ⟨by rfl, ?hy5x3⟩) (by assumption) ?_
  case hy5x3 =>
    intro w hSw
    (try dsimp only at hSw)
    go_simp
    try with_reducible rfl
  try simp only [Act.put]
  refine wpAnyH_ready (rs := [0]) (by kernel_rfl) (by simp) ?_
  refine AllReadyH.cons rfl (fun K hK => ?_) AllReadyH.nil
  go_simp
  have hS0 : ∀ y : World, Below w1.heap.size w1 y → y.cell? ⟨w.heap.size, 2, none⟩ = some (.slice a1 ps.length d1) ∧ y.cell? ⟨w.heap.size, 4, none⟩ = some (.slice a3 ts.length d3) := fun y hy => ⟨cell_below hy d2, cell_below hy d4⟩
  have hby0 : Below w1.heap.size w1 (w1.alloc (.cells #[] 26)).drew := by
    have h2 : Below w1.heap.size w1 (w1.alloc (.cells #[] 26)) := (Below.refl _ _).alloc (Nat.le_refl _) _
    exact ⟨h2.os, h2.tape, h2.output, h2.size, h2.block⟩
  have ho0 : (w1.alloc (.cells #[] 26)).drew.ownsRow w1.heap.size 26 2 (.slice (some ⟨w1.heap.size, 0, none⟩) 0 0) ([] : List Wr.Id).length (([] : List Wr.Id).map idCells).flatten := World.ownsRow_made w1 #[] 0 (Nat.le_refl _) (Nat.zero_le _) (by simp)
  have hIA : ∀ y : World, Below w1.heap.size w1 y → IdsAt y a1 ps ∧ IdsAt y a3 ts := fun y hy => by
    have hwy := HB1.out.trans (hy.mono HB1.out.size)
    obtain ⟨_, _, e1, _, k1⟩ := idsV_below HP.out hwy
    obtain ⟨_, _, e2, _, k2⟩ := idsV_below HT.out hwy
    cases e1
    cases e2
    exact ⟨k1, k2⟩
  refine hK.out _ _ (hS0 _ hby0) (fun hHeld => ?_)
  clear hK K
  generalize (w1.alloc (.cells #[] 26)).drew = y0 at *
  try simp only [Act.put, List.setIfInBounds_toArray, List.set_cons_zero, List.set_cons_succ]
  obtain ⟨v1, y1, r1, o1, g1⟩ := appIds_run y0 w1.heap.size hby0.size _ [] ho0 a1 d1 ps (hIA y0 hby0).1 HC1.out (by simp; omega) 27
  have hby1 : Below w1.heap.size w1 y1 := hby0.grown g1 hby0.size (fun k hk => (ho0.lt k hk).1)
  obtain ⟨p1, q1, rfl⟩ := own_slice o1
  simp only [List.nil_append] at o1 r1
  obtain ⟨v2, y2, r2, o2, g2⟩ := appIds_run y1 w1.heap.size hby1.size _ ps o1 a3 d3 ts (hIA y1 hby1).2 HC3.out (by omega) 27
  have hby2 : Below w1.heap.size w1 y2 := hby1.grown g2 hby1.size (fun k hk => (o1.lt k hk).1)
  obtain ⟨p2, q2, rfl⟩ := own_slice o2
  refine wpAnyH_ready (rs := [3]) (by kernel_rfl) (by simp) ?_
  refine AllReadyH.cons rfl (fun K hK => ?_) AllReadyH.nil
  rw [if_pos (wanted_none rfl)]
  refine wp_app (.tmp 3) (.tmp 5) 27 rfl rfl rfl r1 ?_
  refine hK.out _ _ (hS0 _ hby1) (fun hHeld => ?_)
  clear hK K
  simp only [Act.put, List.getElem_toArray, List.getElem_cons_succ, List.getElem_cons_zero, List.setIfInBounds_toArray, List.set_cons_succ, List.set_cons_zero]
  refine wpAnyH_ready (rs := [6]) (by kernel_rfl) (by simp) ?_
  refine AllReadyH.cons rfl (fun K hK => ?_) AllReadyH.nil
  rw [if_pos (wanted_none rfl)]
  refine wp_app (.tmp 6) (.tmp 8) 27 rfl rfl rfl r2 ?_
  refine hK.out _ _ (hS0 _ hby2) (fun hHeld => ?_)
  clear hK K
  simp only [Act.put, List.getElem_toArray, List.getElem_cons_succ, List.getElem_cons_zero, List.setIfInBounds_toArray, List.set_cons_succ, List.set_cons_zero]
  refine wpAnyH_take (i := 7) (v := ?v7z0) rfl (by kernel_rfl) (by kernel_rfl) (by kernel_rfl) (fun _ _ _ h => h) (Or.inl ⟨by rfl, ?hy7z0⟩) (by assumption) ?_
  case hy7z0 =>
    intro w hSw
    (try dsimp only at hSw)
    go_simp
    try with_reducible rfl
  simp only [Act.put, List.getElem_toArray, List.getElem_cons_succ, List.getElem_cons_zero, List.setIfInBounds_toArray, List.set_cons_succ, List.set_cons_zero]
  refine wpAnyH_done (by kernel_rfl) ?_ _
  have HF : Hid (IdsV y2 (.slice p2 (ps ++ ts).length q2) (ps ++ ts)) := own_ids o2
  have HBF : Hid (Below w.heap.size w y2) := HB1.out.trans (hby2.mono HB1.out.size)
  clear o1 o2 g1 g2 hby0 hby1 hby2 ho0 hIA hS0 r1 r2 hHeld d2 d4
  go_wp2_with fail
  go_ret
  exact ⟨.slice p2 (ps ++ ts).length q2, by rw [List.length_append]; rfl, HF.out, HBF.out⟩
end Go.Proofs.YtmfaodapofamfaaGreat

/- The document's IsReady. -/
namespace Go.Proofs.YtmfaodapofamfaaGreat
open Go.RowKit

theorem all_take (l : List Wr.Id) (p : Wr.Id → Bool) (k : Nat) (hk : k < l.length) : (l.take (k + 1)).all p = ((l.take k).all p && p (idD l k)) := by
  have e : l.take (k + 1) = l.take k ++ [idD l k] := by
    rw [List.take_add_one]
    congr 1
    simp [idD, hk]
  rw [e, List.all_append]
  simp
theorem all_no {l : List Wr.Id} {p : Wr.Id → Bool} {k : Nat} (hk : k < l.length) (h : p (idD l k) = false) : l.all p = false := by
  rw [List.all_eq_false]
  refine ⟨idD l k, ?_, by simp [h]⟩
  simp [idD, hk]
set_option maxRecDepth 100000 in
set_option maxHeartbeats 2000000 in
theorem IsReady_any (q : List Uv) (vq : Value) (x : Uv) (w : World) (hV : UpsV w vq q) (hq : q.length ≤ 1000) (hx : UvOk w x) (hl : x.u.ps.length ≤ 6 ∧ x.u.ts.length ≤ 6) :
    Calls Tryz.prog 41 #[vq, uvVal x] w fun e w' => e = .returned (.bool (Dg.carry (ups q) x.u)) ∧ Below w.heap.size w w' := by
  have HV : Hid (UpsV w vq q) := hV
  obtain ⟨ao, cap, rfl, _⟩ := hV
  have HX : Hid (UvOk w x) := hx
  have HL : Hid (x.u.ps.length ≤ 6 ∧ x.u.ts.length ≤ 6) := hl
  have hun : (Dg.under x.u).length ≤ 12 := by unfold Dg.under; rw [List.length_append]; omega
  obtain ⟨a1, n1, d1, a2, n2, d2, a3, n3, d3, e1, e2, e3⟩ := hx.forms
  have HF : Hid (Dg.carry (ups q) x.u = (Dg.under x.u).all (Dg.hasU (ups q))) := rfl
  clear hx hl
  obtain ⟨⟨⟨ua, un⟩, ps, says, ts⟩, vp, vs, vt⟩ := x
  dsimp only at *
  subst e1 e2 e3
  have HB1 : Hid (Below w.heap.size w (w.alloc (.cells #[.int .i64 ua, .int .i64 un, .slice a1 n1 d1, .slice a2 n2 d2, .slice a3 n3 d3] 30))) := (Below.refl _ _).alloc (Nat.le_refl _) _
  have HH1 : Hid ((w.alloc (.cells #[.int .i64 ua, .int .i64 un, .slice a1 n1 d1, .slice a2 n2 d2, .slice a3 n3 d3] 30)).heap[w.heap.size]? = some (.cells #[.int .i64 ua, .int .i64 un, .slice a1 n1 d1, .slice a2 n2 d2, .slice a3 n3 d3] 30)) := rl_new w _
  have HC : Hid (Calls Tryz.prog 84 #[uvVal ⟨⟨⟨ua, un⟩, ps, says, ts⟩, .slice a1 n1 d1, .slice a2 n2 d2, .slice a3 n3 d3⟩] (w.alloc (.cells #[.int .i64 ua, .int .i64 un, .slice a1 n1 d1, .slice a2 n2 d2, .slice a3 n3 d3] 30)) fun e w' => ∃ v, e = .returned v ∧ IdsV w' v (Dg.under ⟨⟨ua, un⟩, ps, says, ts⟩) ∧ Below (w.alloc (.cells #[.int .i64 ua, .int .i64 un, .slice a1 n1 d1, .slice a2 n2 d2, .slice a3 n3 d3] 30)).heap.size (w.alloc (.cells #[.int .i64 ua, .int .i64 un, .slice a1 n1 d1, .slice a2 n2 d2, .slice a3 n3 d3] 30)) w') :=
    Under_any ⟨⟨⟨ua, un⟩, ps, says, ts⟩, .slice a1 n1 d1, .slice a2 n2 d2, .slice a3 n3 d3⟩ _ (HX.out.below HB1.out) HL.out
  clear HX HL
  go_enter Tryz.func41, Tryz.ntmps41
  go_upto_region 1 with fail
  generalize w.alloc (.cells #[.int .i64 ua, .int .i64 un, .slice a1 n1 d1, .slice a2 n2 d2, .slice a3 n3 d3] 30) = w2 at *
  have q0 : w2.cell? ⟨w.heap.size, 0, none⟩ = some (.int .i64 ua) := by rw [Lib.cell_of_heap HH1.out]; rfl
  have q1 : w2.cell? ⟨w.heap.size, 1, none⟩ = some (.int .i64 un) := by rw [Lib.cell_of_heap HH1.out]; rfl
  have q2 : w2.cell? ⟨w.heap.size, 2, none⟩ = some (.slice a1 n1 d1) := by rw [Lib.cell_of_heap HH1.out]; rfl
  have q3 : w2.cell? ⟨w.heap.size, 3, none⟩ = some (.slice a2 n2 d2) := by rw [Lib.cell_of_heap HH1.out]; rfl
  have q4 : w2.cell? ⟨w.heap.size, 4, none⟩ = some (.slice a3 n3 d3) := by rw [Lib.cell_of_heap HH1.out]; rfl
  go_wp2_with fail
  refine Calls.mono HC.out ?_
  rintro e w3 ⟨v3, rfl, hi3, hb3⟩
  have HB3 : Hid (Below w.heap.size w w3) := HB1.out.trans (hb3.mono HB1.out.size)
  obtain ⟨ai, ci, rfl, _, hai⟩ := hi3
  have HAI : Hid (IdsAt w3 ai (Dg.under ⟨⟨ua, un⟩, ps, says, ts⟩)) := hai
  have HV3 : Hid (UpsV w3 (.slice ao q.length cap) q) := HV.out.kc (Kc.below HB3.out)
  clear HC q0 q1 q2 q3 q4 hai hb3 HB1 HH1 HV
  generalize Dg.under ⟨⟨ua, un⟩, ps, says, ts⟩ = l at *
  go_wp2_with fail
  go_loopw [6] (fun iv wr => ∃ k : Nat, k ≤ l.length ∧ iv = .int .i64 k ∧ Hid ((l.take k).all (Dg.hasU (ups q)) = true) ∧ Hid (Below w3.heap.size w3 wr)) (fun iv _ => l.length - (intOf iv).toNat)
  case atStart => exact ⟨0, Nat.zero_le _, rfl, rfl, Below.refl _ _⟩
  case round =>
    obtain ⟨k, hk, rfl, HR, HW⟩ := hrel
    have HVr : Hid (UpsV wr (.slice ao q.length cap) q) := HV3.out.kc (Kc.below HW.out)
    by_cases hlt : k < l.length
    · obtain ⟨b, off, rfl, p0, p1⟩ := ids_at HAI.out k hlt
      have a0 := cell_below HW.out p0
      have a1 := cell_below HW.out p1
      clear p0 p1
      have HS : Hid (Dg.hasU (ups q) (idD l k) = true → (l.take (k + 1)).all (Dg.hasU (ups q)) = true) := fun h => by rw [all_take l _ k hlt, HR.out, h]; rfl
      have HN : Hid (Dg.hasU (ups q) (idD l k) = false → Dg.carry (ups q) ⟨⟨ua, un⟩, ps, says, ts⟩ = false) := fun h => by rw [HF.out]; exact all_no hlt h
      clear HR
      generalize idD l k = z at *
      obtain ⟨za, zn⟩ := z
      dsimp only at a0 a1
      go_wp2_with fail
      refine Calls.mono (PlaceOf_any q ⟨za, zn⟩ _ wr HVr.out (by omega)) ?_
      rintro e w4 ⟨r, rfl, hr, hb4⟩
      have g := hr.neg
      have HW4 : Hid (Below w3.heap.size w3 w4) := HW.out.trans (hb4.mono HW.out.size)
      clear hr hb4 HW HVr a0 a1
      cases hh : Dg.hasU (ups q) ⟨za, zn⟩
      · have HE : Hid _ := HN.out hh
        rw [hh] at g
        have g2 : decide (r < 0) = true := g
        clear HN HS hh g
        go_wp2_with fail
        go_ret
        exact ⟨by rw [HE.out]; rfl, HB3.out.trans (HW4.out.mono HB3.out.size)⟩
      · have HE : Hid _ := HS.out hh
        rw [hh] at g
        have g2 : decide (r < 0) = false := g
        clear HN HS hh g
        go_wp2_with fail
        go_roundw
        case rel => exact ⟨k + 1, hlt, by go_num, HE.out, HW4.out⟩
        case measure => simp [intOf]; omega
    · have hdd : decide (k < l.length) = false := decide_eq_false hlt
      have HE : Hid (Dg.carry (ups q) ⟨⟨ua, un⟩, ps, says, ts⟩ = true) := by
        have h0 := HR.out
        rw [List.take_of_length_le (by omega)] at h0
        exact HF.out.trans h0
      go_wp2_with fail
      go_ret
      exact ⟨by rw [HE.out]; rfl, HB3.out.trans (HW.out.mono HB3.out.size)⟩
end Go.Proofs.YtmfaodapofamfaaGreat

/- Is one behind itself? What the document does, plain; and rows of truths. -/
namespace Go.Proofs.YtmfaodapofamfaaGreat
open Go.RowKit

def boolRow (l : List Bool) : Array Value := (l.map Value.bool).toArray
theorem boolRow_cell {w : World} {b : Nat} {l : List Bool} (h : w.heap[b]? = some (.cells (boolRow l) 4)) {i : Nat} (hi : i < l.length) : w.cell? ⟨b, i, none⟩ = some (.bool (l.getD i false)) := by
  rw [Lib.cell_of_heap h]
  unfold boolRow
  simp [hi]
theorem boolRow_set {w : World} {b : Nat} {l : List Bool} (h : w.heap[b]? = some (.cells (boolRow l) 4)) (i : Nat) (v : Bool) : (w.setCell ⟨b, i, none⟩ (.bool v)).heap[b]? = some (.cells (boolRow (l.set i v)) 4) := by
  rw [Lib.heap_setCell_same h]
  unfold boolRow
  simp [List.map_set]
theorem made_boolRow (n : Nat) : madeCells #[Value.bool false] n = boolRow (List.replicate n false) := by
  unfold boolRow
  apply Array.ext
  · simp [size_madeCells]
  · intro i h1 h2
    simp [madeCells, Nat.mod_one]
theorem heap_set_other {w : World} {b c i : Nat} {v : Value} (h : ¬ c = b) : (w.setCell ⟨b, i, none⟩ v).heap[c]? = w.heap[c]? := Below.heap_setCell _ _ _ _ h
theorem below_row {w wr w5 : World} {LB : Nat} (hb : Below w.heap.size w wr) (hg : wr.grownBy w5 (some LB)) (h : w.heap.size ≤ LB) : Below w.heap.size w w5 :=
  ⟨hg.os.trans hb.os, hg.tape.trans hb.tape, hg.output.trans hb.output, Nat.le_trans hb.size hg.size, fun j hj => (hg.block j (Nat.lt_of_lt_of_le hj hb.size) (fun e => by injection e with e; omega)).trans (hb.block j hj)⟩
/-- The row of truths, and all else as it was. -/
structure BRow (w : World) (LB : Nat) (W : World) (cur : List Bool) : Prop where
  row : W.heap[LB]? = some (.cells (boolRow cur) 4)
  gr : w.grownBy W (some LB)
theorem BRow.below {w W W' : World} {LB : Nat} {cur : List Bool} (h : BRow w LB W cur) (hb : Below W.heap.size W W') : BRow w LB W' cur :=
  ⟨(hb.block _ (Array.getElem?_eq_some_iff.mp h.row).1).trans h.row, ⟨hb.os.trans h.gr.os, hb.tape.trans h.gr.tape, hb.output.trans h.gr.output, Nat.le_trans h.gr.size hb.size, fun j hj hn => (hb.block j (Nat.lt_of_lt_of_le hj h.gr.size)).trans (h.gr.block j hj hn)⟩⟩
theorem BRow.set {w W : World} {LB : Nat} {cur : List Bool} (h : BRow w LB W cur) (i : Nat) (v : Bool) : BRow w LB (W.setCell ⟨LB, i, none⟩ (.bool v)) (cur.set i v) := by
  refine ⟨boolRow_set h.row i v, ⟨h.gr.os, h.gr.tape, h.gr.output, by have := h.gr.size; simpa using this, fun j hj hn => ?_⟩⟩
  have hjl : ¬ j = LB := fun e => hn (by rw [e])
  exact (heap_set_other hjl).trans (h.gr.block j hj hn)

namespace Dg
/-- Is there one of that id that is free? -/
def frees (q : List Uv) (f : List Bool) (x : Wr.Id) : Bool := (List.range q.length).any fun k => decide ((uvD q k).u.id = x) && f.getD k false
def okAt (q : List Uv) (f : List Bool) (i : Nat) : Bool := !(f.getD i false) && (under (uvD q i).u).all (frees q f)
def Inj (q : List Uv) : Prop := ∀ j k, j < q.length → k < q.length → (uvD q j).u.id = (uvD q k).u.id → j = k
theorem inj_of_nodup {q : List Uv} (h : ((ups q).map Wr.Up.id).Nodup) : Inj q := by
  intro j k hj hk e
  have h1 : ∀ i, i < q.length → ((ups q).map Wr.Up.id)[i]? = some (uvD q i).u.id := fun i hi => by simp [ups, uvD, hi]
  have h2 := h1 j hj
  rw [e, ← h1 k hk] at h2
  have hl : j < ((ups q).map Wr.Up.id).length := by simpa [ups] using hj
  exact (List.getElem?_inj hl h).mp h2
theorem frees_none {q : List Uv} {f : List Bool} {x : Wr.Id} (h : hasU (ups q) x = false) : frees q f x = false := by
  unfold frees
  rw [List.any_eq_false]
  intro k hk
  have hk := List.mem_range.mp hk
  have : (uvD q k).u.id ≠ x := fun e => by
    have h2 : hasU (ups q) x = true := hasU_iff.mpr ⟨(uvD q k).u, List.mem_map.mpr ⟨_, uvD_mem q k hk, rfl⟩, e⟩
    rw [h2] at h
    cases h
  simp [this]
theorem frees_at {q : List Uv} (hi : Inj q) {f : List Bool} {x : Wr.Id} {k : Nat} (hk : k < q.length) (h : (uvD q k).u.id = x) : frees q f x = f.getD k false := by
  unfold frees
  cases hf : f.getD k false with
  | true =>
    rw [List.any_eq_true]
    refine ⟨k, List.mem_range.mpr hk, ?_⟩
    rw [hf, decide_eq_true h]
    rfl
  | false =>
    rw [List.any_eq_false]
    intro j hj
    have hj := List.mem_range.mp hj
    by_cases e : (uvD q j).u.id = x
    · have := hi j k hj hk (e.trans h.symm)
      subst this
      rw [hf]
      simp
    · simp [e]
theorem frees_yes {q : List Uv} {f : List Bool} {x : Wr.Id} (h : frees q f x = true) : ∃ k, k < q.length ∧ (uvD q k).u.id = x ∧ f.getD k false = true := by
  unfold frees at h
  obtain ⟨k, hk, h⟩ := List.any_eq_true.mp h
  rw [Bool.and_eq_true] at h
  exact ⟨k, List.mem_range.mp hk, of_decide_eq_true h.1, h.2⟩
structure RndI (q : List Uv) (f : List Bool) (left : Nat) : Prop where
  len : f.length = q.length
  cm : ∀ i, i < q.length → f.getD i false = true → Cm (ups q) (uvD q i).u.id
  left : left = f.count false
theorem RndI.start (q : List Uv) : RndI q (List.replicate q.length false) q.length := by
  refine ⟨by simp, fun i hi h => ?_, by simp⟩
  simp [hi] at h
structure RndP (q : List Uv) (f : List Bool) (left i : Nat) (f' : List Bool) (left' : Nat) (ch : Bool) : Prop where
  st : RndI q f' left'
  no : ch = false → f' = f ∧ left' = left ∧ ∀ j, j < i → okAt q f j = false
  yes : ch = true → left' < left
theorem RndP.start {q : List Uv} {f : List Bool} {left : Nat} (h : RndI q f left) : RndP q f left 0 f left false := ⟨h, fun _ => ⟨rfl, rfl, fun j hj => by omega⟩, fun h => by cases h⟩
theorem RndP.le {q : List Uv} {f f' : List Bool} {left i left' : Nat} {ch : Bool} (h : RndP q f left i f' left' ch) : left' ≤ left := by
  cases ch with
  | false => exact Nat.le_of_eq (h.no rfl).2.1
  | true => exact Nat.le_of_lt (h.yes rfl)
theorem RndP.on {q : List Uv} {f f' : List Bool} {left i left' : Nat} {ch : Bool} (h : RndP q f left i f' left' ch) (hb : okAt q f' i = false) : RndP q f left (i + 1) f' left' ch := by
  refine ⟨h.st, fun e => ?_, h.yes⟩
  obtain ⟨h1, h2, h3⟩ := h.no e
  refine ⟨h1, h2, fun j hj => ?_⟩
  rcases Nat.lt_succ_iff_lt_or_eq.mp hj with hj | rfl
  · exact h3 j hj
  · rw [← h1]; exact hb
theorem RndP.go {q : List Uv} {f f' : List Bool} {left i left' : Nat} {ch : Bool} (h : RndP q f left i f' left' ch) (hi : i < q.length) (hb : okAt q f' i = true) : 1 ≤ left' ∧ RndP q f left (i + 1) (f'.set i true) (left' - 1) true := by
  unfold okAt at hb
  rw [Bool.and_eq_true, Bool.not_eq_true'] at hb
  have hl : i < f'.length := by rw [h.st.len]; exact hi
  have hf : f'[i] = false := by
    have := hb.1
    simpa [List.getD, hl] using this
  have hpos : 1 ≤ f'.count false := by
    refine List.count_pos_iff.mpr ?_
    rw [← hf]
    exact List.getElem_mem hl
  have hle := h.le
  have hlf := h.st.left
  refine ⟨by omega, ⟨by rw [List.length_set]; exact h.st.len, fun j hj hfj => ?_, ?_⟩, fun e => (by cases e), fun _ => by omega⟩
  · by_cases e : j = i
    · subst e
      refine .mk (uvD q j).u (List.mem_map.mpr ⟨_, uvD_mem q j hj, rfl⟩) (fun x hx => ?_)
      obtain ⟨k, hk, rfl, hfk⟩ := frees_yes (List.all_eq_true.mp hb.2 x hx)
      exact h.st.cm k hk hfk
    · refine h.st.cm j hj ?_
      have hj2 : j < f'.length := by rw [h.st.len]; exact hj
      have hij : ¬ i = j := fun e2 => e e2.symm
      simpa [List.getD, List.getElem?_set, hij] using hfj
  · rw [List.count_set hl, hf]
    simp
    omega
theorem RndP.fin {q : List Uv} (hi : Inj q) (hA : Apart (ups q)) {f f' : List Bool} {left left' : Nat} (h : RndP q f left q.length f' left' false) : decide (0 < left') = ((settle snoc [] (ups q)).2.length != 0) := by
  obtain ⟨h1, h2, h3⟩ := h.no rfl
  subst h1 h2
  have key : ∀ x, Cm (ups q) x → ∀ i, i < q.length → (uvD q i).u.id = x → f'.getD i false = true := by
    intro x hx
    induction hx with
    | mk u hu hx ih =>
      intro i hil e
      cases hf : f'.getD i false with
      | true => rfl
      | false =>
        have h4 := h3 i hil
        unfold okAt at h4
        rw [hf] at h4
        have he : (uvD q i).u = u := hA _ _ (List.mem_map.mpr ⟨_, uvD_mem q i hil, rfl⟩) hu e
        rw [he] at h4
        have h5 : (under u).all (frees q f') = true := by
          rw [List.all_eq_true]
          intro y hy
          obtain ⟨v, hv, e2⟩ := hasU_iff.mp (hx y hy).has
          obtain ⟨z, hz, rfl⟩ := List.mem_map.mp hv
          obtain ⟨k, hk, hzk⟩ := List.getElem_of_mem hz
          have hk2 : uvD q k = z := by rw [← hzk]; simp [uvD, hk]
          rw [frees_at hi hk (by rw [hk2]; exact e2)]
          exact ih y hy k hk (by rw [hk2]; exact e2)
        rw [h5] at h4
        cases h4
  have hz : left' = 0 ↔ (settle snoc [] (ups q)).2 = [] := by
    rw [round_iff hA, h.st.left, List.count_eq_zero]
    constructor
    · intro hn u hu
      obtain ⟨z, hz, rfl⟩ := List.mem_map.mp hu
      obtain ⟨k, hk, hzk⟩ := List.getElem_of_mem hz
      have hk2 : uvD q k = z := by rw [← hzk]; simp [uvD, hk]
      rw [← hk2]
      refine h.st.cm k hk ?_
      have hl : k < f'.length := by rw [h.st.len]; exact hk
      cases hf : f'[k] with
      | true => simp [List.getD, hl, hf]
      | false => exact absurd (hf ▸ List.getElem_mem hl) hn
    · intro hc hm
      obtain ⟨k, hk, hfk⟩ := List.getElem_of_mem hm
      have hkq : k < q.length := by rw [← h.st.len]; exact hk
      have := key _ (hc (uvD q k).u (List.mem_map.mpr ⟨_, uvD_mem q k hkq, rfl⟩)) k hkq rfl
      simp [List.getD, hk, hfk] at this
  cases hs : (settle snoc [] (ups q)).2 with
  | nil => rw [hz.mpr hs]; rfl
  | cons a r =>
    have : left' ≠ 0 := fun e => by have := hz.mp e; rw [hs] at this; cases this
    rw [decide_eq_true (by omega)]
    simp
end Dg
def bit : Value → Nat
  | .bool true => 1
  | _ => 0
end Go.Proofs.YtmfaodapofamfaaGreat

/- The document's IsRound. -/
namespace Go.Proofs.YtmfaodapofamfaaGreat
open Go.RowKit

theorem all_short {l : List Wr.Id} {p : Wr.Id → Bool} {k : Nat} (h : (l.take k).all p = false) : l.all p = false := by
  rw [List.all_eq_false] at h ⊢
  obtain ⟨x, hx, h⟩ := h
  exact ⟨x, List.mem_of_mem_take hx, h⟩
set_option maxRecDepth 100000 in
set_option maxHeartbeats 4000000 in
theorem IsRound_any (q : List Uv) (vq : Value) (w : World) (hV : UpsV w vq q) (hq : q.length ≤ 1000) (hok : ∀ x, x ∈ q → UvOk w x) (hl : ∀ x, x ∈ q → x.u.ps.length ≤ 6 ∧ x.u.ts.length ≤ 6) (hnd : ((ups q).map Wr.Up.id).Nodup) :
    Calls Tryz.prog 42 #[vq] w fun e w' => e = .returned (.bool ((Dg.settle Dg.snoc [] (ups q)).2.length != 0)) ∧ Below w.heap.size w w' := by
  have HV : Hid (UpsV w vq q) := hV
  have HOK : Hid (∀ x, x ∈ q → UvOk w x ∧ x.u.ps.length ≤ 6 ∧ x.u.ts.length ≤ 6) := fun x hx => ⟨hok x hx, hl x hx⟩
  have HJ : Hid (Dg.Inj q) := Dg.inj_of_nodup hnd
  have HAP : Hid (Dg.Apart (ups q)) := Dg.apart_of_nodup hnd
  obtain ⟨ao, cap, rfl, _, hA⟩ := hV
  have HA : Hid (UpsAt w ao q) := hA
  have hmk := run_make_row' (P := Tryz.prog) 92 4 (.bool false) 1 Tryz.underlying92 (by kernel_rfl) rfl .i64 .i64 q.length (by omega) (by omega)
  simp only [made_boolRow] at hmk
  have HBF : Hid (∀ b : Bool, b = ((Dg.settle Dg.snoc [] (ups q)).2.length != 0) → Ending.returned (.bool b) = Ending.returned (.bool ((Dg.settle Dg.snoc [] (ups q)).2.length != 0))) := fun b h => by rw [h]
  have HB1 : Hid (Below w.heap.size w (w.alloc (.cells (boolRow (List.replicate q.length false)) 4))) := (Below.refl _ _).alloc (Nat.le_refl _) _
  have HW1 : Hid ((w.alloc (.cells (boolRow (List.replicate q.length false)) 4)).heap[w.heap.size]? = some (.cells (boolRow (List.replicate q.length false)) 4)) := rl_new w _
  clear hok hl hnd hA
  go_enter Tryz.func42, Tryz.ntmps42
  go_wp2_with fail
  generalize w.alloc (.cells (boolRow (List.replicate q.length false)) 4) = w1 at *
  clear hmk
  have HST : Hid (BRow w1 w.heap.size w1 (List.replicate q.length false)) := ⟨HW1.out, grown_refl _ _⟩
  clear HW1
  go_loopw [4, 5] (fun lv cv wr => ∃ (f : List Bool) (left : Nat) (ch : Bool), left ≤ q.length ∧ lv = .int .i64 left ∧ cv = .bool ch ∧ Hid (Dg.RndI q f left) ∧ Hid (ch = false → Dg.RndP q f left q.length f left false) ∧ Hid (BRow w1 w.heap.size wr f)) (fun lv cv _ => 2 * (intOf lv).toNat + bit cv)
  case atStart => exact ⟨_, q.length, true, Nat.le_refl _, rfl, rfl, Dg.RndI.start q, (fun h => by cases h), HST.out⟩
  case round =>
    obtain ⟨f, left, ch, hle, rfl, rfl, HI, HE, HR⟩ := hrel
    clear HST
    generalize wr = wO at *
    cases ch
    · have HF : Hid _ := Dg.RndP.fin HJ.out HAP.out (HE.out rfl)
      have HBW : Hid (Below w.heap.size w wO) := below_row HB1.out HR.out.gr (Nat.le_refl _)
      clear HE HI HR
      go_wp2_with fail
      go_ret
      exact ⟨HBF.out _ (by rw [← HF.out]), HBW.out⟩
    · clear HE
      go_wp2_with fail
      go_loopw [4, 5, 6] (fun lv cv iv wr => ∃ (f' : List Bool) (left' : Nat) (ch : Bool) (i : Nat), i ≤ q.length ∧ left' ≤ left ∧ lv = .int .i64 left' ∧ cv = .bool ch ∧ iv = .int .i64 i ∧ Hid (Dg.RndP q f left i f' left' ch) ∧ Hid (BRow w1 w.heap.size wr f')) (fun _ _ iv _ => q.length - (intOf iv).toNat)
      case atStart => exact ⟨f, left, false, 0, Nat.zero_le _, Nat.le_refl _, rfl, rfl, rfl, Dg.RndP.start HI.out, HR.out⟩
      case round =>
        obtain ⟨f', left', ch, i, hi, hle', rfl, rfl, rfl, HP, HR2⟩ := hrel
        clear HI HR
        generalize wr = wM at *
        have HBM : Hid (Below w.heap.size w wM) := below_row HB1.out HR2.out.gr (Nat.le_refl _)
        by_cases hlt : i < q.length
        · have g1 : decide (i < q.length) = true := decide_eq_true hlt
          obtain ⟨b, off, rfl, p0, p1, p2, p3, p4⟩ := ups_at HA.out i hlt
          have c0 := cell_below HBM.out p0
          have c1 := cell_below HBM.out p1
          have c2 := cell_below HBM.out p2
          have c3 := cell_below HBM.out p3
          have c4 := cell_below HBM.out p4
          clear p0 p1 p2 p3 p4
          have hx := HOK.out _ (uvD_mem q i hlt)
          have hfl : i < f'.length := by rw [HP.out.st.len]; exact hlt
          have HOKI : Hid (Dg.okAt q f' i = (!(f'.getD i false) && (Dg.under (uvD q i).u).all (Dg.frees q f'))) := rfl
          have hun : (Dg.under (uvD q i).u).length ≤ 12 := by unfold Dg.under; rw [List.length_append]; omega
          have HUC : Hid (Calls Tryz.prog 84 #[uvVal (uvD q i)] wM fun e w' => ∃ v, e = .returned v ∧ IdsV w' v (Dg.under (uvD q i).u) ∧ Below wM.heap.size wM w') := Under_any _ _ (hx.1.below HBM.out) hx.2
          obtain ⟨a1, n1, d1, a2, n2, d2, a3, n3, d3, e1, e2, e3⟩ := hx.1.forms
          clear hx
          generalize uvD q i = x at *
          generalize hud : Dg.under x.u = l at *
          obtain ⟨⟨⟨ua, un⟩, ps, says, ts⟩, vp, vs, vt⟩ := x
          dsimp only at *
          subst e1 e2 e3
          clear hud
          go_wp2_with (fail)
          refine Calls.mono HUC.out ?_
          rintro e w3 ⟨v3, rfl, hi3, hb3⟩
          obtain ⟨ai, ci, rfl, _, hai⟩ := hi3
          have HAI : Hid (IdsAt w3 ai l) := hai
          have HB3 : Hid (Below wM.heap.size wM w3) := hb3
          have HR3 : Hid (BRow w1 w.heap.size w3 f') := HR2.out.below hb3
          have f3 := boolRow_cell HR3.out.row hfl
          clear HUC c0 c1 c2 c3 c4 hai hb3
          obtain ⟨fi, hfi⟩ : ∃ fi, fi = f'.getD i false := ⟨_, rfl⟩
          rw [← hfi] at f3
          have HFI : Hid (fi = f'.getD i false) := hfi
          clear hfi
          go_wp2_with fail
          clear f3
          go_loopw [8, 9] (fun kv iv wr => ∃ (ok : Bool) (k : Nat), k ≤ l.length ∧ kv = .bool ok ∧ iv = .int .i64 k ∧ Hid (ok = (!fi && (l.take k).all (Dg.frees q f'))) ∧ Hid (Below w3.heap.size w3 wr)) (fun _ iv _ => l.length - (intOf iv).toNat)
          case atStart => exact ⟨!fi, 0, Nat.zero_le _, rfl, rfl, by show _ = _; simp, Below.refl _ _⟩
          case round =>
            obtain ⟨ok, k, hk, rfl, rfl, HO, HW⟩ := hrel
            have HR4 : Hid (BRow w1 w.heap.size wr f') := HR3.out.below HW.out
            have HB4 : Hid (Below w.heap.size w wr) := below_row HB1.out HR4.out.gr (Nat.le_refl _)
            have HEND : Hid (∀ b, b = Dg.okAt q f' i → b = false → Dg.RndP q f left (i + 1) f' left' ch) := fun b e h => HP.out.on (e ▸ h)
            have HENY : Hid (∀ b, b = Dg.okAt q f' i → b = true → 1 ≤ left' ∧ Dg.RndP q f left (i + 1) (f'.set i true) (left' - 1) true) := fun b e h => HP.out.go hlt (e ▸ h)
            cases ok
            · have HN : Hid (Dg.RndP q f left (i + 1) f' left' ch) := by
                refine HEND.out _ rfl ?_
                have h0 : (!fi && (l.take k).all (Dg.frees q f')) = false := HO.out.symm
                rw [HOKI.out, ← HFI.out]
                cases fi with
                | true => rfl
                | false => exact all_short h0
              clear HEND HENY HP HOKI
              by_cases hkl : k < l.length
              · have g2 : decide (k < l.length) = true := decide_eq_true hkl
                go_wp2_with fail
                go_roundw
                case rel => exact ⟨f', left', ch, i + 1, hlt, hle', rfl, rfl, by go_num, HN.out, HR4.out⟩
                case measure => simp [intOf]; omega
              · have g2 : decide (k < l.length) = false := decide_eq_false hkl
                go_wp2_with fail
                go_roundw
                case rel => exact ⟨f', left', ch, i + 1, hlt, hle', rfl, rfl, by go_num, HN.out, HR4.out⟩
                case measure => simp [intOf]; omega
            · by_cases hkl : k < l.length
              · have g2 : decide (k < l.length) = true := decide_eq_true hkl
                obtain ⟨b', off', rfl, p0, p1⟩ := ids_at HAI.out k hkl
                have a0 := cell_below HW.out p0
                have a1 := cell_below HW.out p1
                clear p0 p1 HEND HENY
                have HS : Hid (∀ b, b = Dg.frees q f' (idD l k) → b = (!fi && (l.take (k + 1)).all (Dg.frees q f'))) := fun b h => by
                  have h0 : true = (!fi && (l.take k).all (Dg.frees q f')) := HO.out
                  rw [all_take l _ k hkl, ← Bool.and_assoc, ← h0, h]
                  simp
                have HVr : Hid (UpsV wr (.slice (some ⟨b, off, none⟩) q.length cap) q) := HV.out.kc (Kc.below HB4.out)
                clear HO
                generalize idD l k = z at *
                obtain ⟨za, zn⟩ := z
                dsimp only at a0 a1
                go_wp2_with fail
                refine Calls.mono (PlaceOf_any q ⟨za, zn⟩ _ wr HVr.out (by omega)) ?_
                rintro e w5 ⟨r, rfl, hr, hb5⟩
                have HW5 : Hid (Below w3.heap.size w3 w5) := HW.out.trans (hb5.mono HW.out.size)
                have HR5 : Hid (BRow w1 w.heap.size w5 f') := HR4.out.below hb5
                clear a0 a1 hb5 HVr HW HR4 HB4
                rcases hr with ⟨rfl, hh⟩ | ⟨n, rfl, hn, he⟩
                · have HX : Hid _ := HS.out false (by rw [Dg.frees_none hh])
                  clear hh HS
                  go_wp2_with fail
                  go_roundw
                  case rel => exact ⟨false, k + 1, hkl, rfl, by go_num, HX.out, HW5.out⟩
                  case measure => simp [intOf]; omega
                · have HX : Hid _ := HS.out (f'.getD n false) (by rw [Dg.frees_at HJ.out hn he])
                  have f5 := boolRow_cell HR5.out.row (i := n) (by rw [HP.out.st.len]; exact hn)
                  clear he HS
                  generalize f'.getD n false = fn at *
                  have g3 : decide (0 ≤ (n : Int)) = true := decide_eq_true (by omega)
                  go_wp2_with fail
                  go_roundw
                  case rel => exact ⟨fn, k + 1, hkl, rfl, by go_num, HX.out, HW5.out⟩
                  case measure => simp [intOf]; omega
              · have g2 : decide (k < l.length) = false := decide_eq_false hkl
                obtain ⟨hl1, hN⟩ : 1 ≤ left' ∧ Dg.RndP q f left (i + 1) (f'.set i true) (left' - 1) true := by
                  refine HENY.out _ rfl ?_
                  have h0 : true = (!fi && (l.take k).all (Dg.frees q f')) := HO.out
                  rw [List.take_of_length_le (by omega)] at h0
                  rw [HOKI.out, ← HFI.out]
                  exact h0.symm
                have HN : Hid (Dg.RndP q f left (i + 1) (f'.set i true) (left' - 1) true) := hN
                have HR6 : Hid (BRow w1 w.heap.size (wr.setCell ⟨w.heap.size, i, none⟩ (.bool true)) (f'.set i true)) := HR4.out.set i true
                have f5 := boolRow_cell HR4.out.row hfl
                have f6 := Lib.frozen_of_heap HR4.out.row i
                obtain ⟨m, rfl⟩ : ∃ m, left' = m + 1 := ⟨left' - 1, by omega⟩
                clear HEND HENY HP HOKI hN
                go_wp2_with fail
                go_roundw
                case rel => exact ⟨f'.set i true, m, true, i + 1, hlt, by omega, by go_num, rfl, by go_num, HN.out, HR6.out⟩
                case measure => simp [intOf]; omega
        · have g1 : decide (i < q.length) = false := decide_eq_false hlt
          have e : i = q.length := by omega
          subst e
          have HN : Hid (ch = false → Dg.RndP q f' left' q.length f' left' false) := fun h => by
            subst h
            obtain ⟨h1, h2, h3⟩ := HP.out.no rfl
            subst h1 h2
            exact HP.out
          have HI2 : Hid (Dg.RndI q f' left') := HP.out.st
          have hms : ch = true → left' < left := HP.out.yes
          clear HP
          go_wp2_with fail
          go_roundw
          case rel => exact ⟨f', left', ch, by omega, rfl, rfl, HI2.out, HN.out, HR2.out⟩
          case measure => cases ch <;> simp [intOf, bit] at hms ⊢ <;> omega
end Go.Proofs.YtmfaodapofamfaaGreat

/- One who marks what is behind some ids; knownBy. -/
namespace Go.Proofs.YtmfaodapofamfaaGreat
open Go.RowKit

section
variable {P : Program} {ops : Array Oper} {Q : Exit → Act → World → Prop} {a : Act} {w : World} {i : Nat} {o : Oper} {K : Act → World → Prop}
theorem wpOp_call {f : FuncId} {args : Array Value} (ho : ops[i]? = some o) (hw : Region.wanted o (yielded ops a.tmps) = true) (hr : (execOp a.eval o).run P w = .ok (.enter f args) w) (hc : Calls P f args w fun e w' => ∃ v, e = .returned v ∧ K (a.put o.dst v) w') : wpOp P ops Q i K a w := by
  refine wpOp_wp ho hw ?_
  unfold Oper.wp
  rw [hr, Oper.upon_enter]
  refine Calls.mono hc ?_
  rintro e w' ⟨v, rfl, h⟩
  exact h
end
/-- Where all but a row of truths stands, all blocks with a number stand. -/
theorem kn_row {w w' : World} {K : Nat} {f : List Bool} (hK : w.heap[K]? = some (.cells (boolRow f) 4)) (hg : w.grownBy w' (some K)) : Kn w w' := fun b hb o v e => by
  have hne : b ≠ K := fun e2 => by
    subst e2
    obtain ⟨p, n, hp⟩ := hb
    rw [Lib.cell_of_heap hK] at hp
    unfold boolRow at hp
    simp only [List.getElem?_toArray, List.getElem?_map] at hp
    cases hf : f[p]? with
    | none => rw [hf] at hp; cases hp
    | some x => rw [hf] at hp; cases hp
  rw [cell_heap (hg.block b (cell_lt e) (fun e2 => hne (by cases e2; rfl)))]
  exact e
namespace Gs
def fnV (BL BK BF : Nat) : Value := .func (.func 91) #[] #[.pointer (some ⟨BL, 0, none⟩), .pointer (some ⟨BK, 0, none⟩), .pointer (some ⟨BF, 0, none⟩)]
/-- The boxes of one who marks, and what is marked. -/
structure Kst (BL BK BF K n : Nat) (lv : Value) (w : World) (f : List Bool) : Prop where
  row : w.heap[K]? = some (.cells (boolRow f) 4)
  bl : w.heap[BL]? = some (.cells #[lv] 22)
  bk : w.heap[BK]? = some (.cells #[.slice (some ⟨K, 0, none⟩) n n] 92)
  bf : w.heap[BF]? = some (.cells #[fnV BL BK BF] 118)
theorem Kst.below {BL BK BF K n : Nat} {lv : Value} {w w' : World} {f : List Bool} (h : Kst BL BK BF K n lv w f) (hb : Below w.heap.size w w') : Kst BL BK BF K n lv w' f :=
  have k : ∀ {b : Nat} {x : Obj}, w.heap[b]? = some x → w'.heap[b]? = some x := fun e => (hb.block _ (Array.getElem?_eq_some_iff.1 e).1).trans e
  ⟨k h.row, k h.bl, k h.bk, k h.bf⟩
theorem Kst.set {BL BK BF K n : Nat} {lv : Value} {w : World} {f : List Bool} (h : Kst BL BK BF K n lv w f) (i : Nat) : Kst BL BK BF K n lv (w.setCell ⟨K, i, none⟩ (.bool true)) (f.set i true) := by
  have k : ∀ {b : Nat} {c : Array Value} {t : TypeId}, t ≠ 4 → w.heap[b]? = some (.cells c t) → (w.setCell ⟨K, i, none⟩ (.bool true)).heap[b]? = some (.cells c t) := fun ht e => by
    rw [heap_set_other (fun e2 => by rw [e2, h.row] at e; injection e with e; injection e with _ e _; exact ht e.symm)]
    exact e
  exact ⟨boolRow_set h.row i true, k (by decide) h.bl, k (by decide) h.bk, k (by decide) h.bf⟩
theorem set_grown {BL BK BF K n : Nat} {lv : Value} {w : World} {f : List Bool} (_ : Kst BL BK BF K n lv w f) (i : Nat) : w.grownBy (w.setCell ⟨K, i, none⟩ (.bool true)) (some K) :=
  ⟨rfl, rfl, rfl, by simp, fun j _ hn => heap_set_other (fun e => hn (by rw [e]))⟩
end Gs
def mkT6 (BL BK BF b f nq c k o : Nat) (a : Option Addr) (m d : Nat) (tQ : Nat) (vQ : Value) (_ : World) : Prop :=
  match tQ with
  | 32 => vQ = .func (.func 91) #[] #[.pointer (some ⟨BL, 0, none⟩), .pointer (some ⟨BK, 0, none⟩), .pointer (some ⟨BF, 0, none⟩)]
  | 33 => vQ = .slice (some ⟨b, f, none⟩) nq c
  | 34 => vQ = .int .i64 k
  | 35 => vQ = .pointer (some ⟨b, o, none⟩)
  | 36 => vQ = .pointer (some ⟨b, o + 2, none⟩)
  | 37 => vQ = .slice a m d
  | _ => True
theorem mkT6_mono (BL BK BF b f nq c k o : Nat) (a : Option Addr) (m d : Nat) (tQ : Nat) (vQ : Value) (W W' : World) (_ : Below W.heap.size W W') (h : mkT6 BL BK BF b f nq c k o a m d tQ vQ W) : mkT6 BL BK BF b f nq c k o a m d tQ vQ W' := by
  revert h
  unfold mkT6
  split <;> (intro h; first | exact h)
def mkT7 (BL BK BF b f nq c k o : Nat) (a : Option Addr) (m d : Nat) (tQ : Nat) (vQ : Value) (_ : World) : Prop :=
  match tQ with
  | 39 => vQ = .func (.func 91) #[] #[.pointer (some ⟨BL, 0, none⟩), .pointer (some ⟨BK, 0, none⟩), .pointer (some ⟨BF, 0, none⟩)]
  | 40 => vQ = .slice (some ⟨b, f, none⟩) nq c
  | 41 => vQ = .int .i64 k
  | 42 => vQ = .pointer (some ⟨b, o, none⟩)
  | 43 => vQ = .pointer (some ⟨b, o + 4, none⟩)
  | 44 => vQ = .slice a m d
  | _ => True
theorem mkT7_mono (BL BK BF b f nq c k o : Nat) (a : Option Addr) (m d : Nat) (tQ : Nat) (vQ : Value) (W W' : World) (_ : Below W.heap.size W W') (h : mkT7 BL BK BF b f nq c k o a m d tQ vQ W) : mkT7 BL BK BF b f nq c k o a m d tQ vQ W' := by
  revert h
  unfold mkT7
  split <;> (intro h; first | exact h)

set_option maxRecDepth 100000 in
set_option maxHeartbeats 4000000 in
theorem mark_any (q : List Uv) (hr : Wr.rise Dg.uOrd (ups q) = true) (hl : q.length ≤ 1000) (BL BK BF K : Nat) (ao : Option Addr) (cap : Nat) : ∀ (n : Nat) (f : List Bool) (ids : List Wr.Id) (iv : Value) (w : World), Gs.left f = n → f.length = q.length → Gs.Kst BL BK BF K q.length (.slice ao q.length cap) w f → IdsV w iv ids → ids.length ≤ 1000 → UpsV w (.slice ao q.length cap) q → (∀ y, y ∈ q → UvOk w y ∧ y.u.ps.length ≤ 6 ∧ y.u.ts.length ≤ 6) →
    Calls Tryz.prog 91 #[iv, .pointer (some ⟨BL, 0, none⟩), .pointer (some ⟨BK, 0, none⟩), .pointer (some ⟨BF, 0, none⟩)] w fun e w' => e = .returned (.tuple #[]) ∧ ∃ g, Gs.MarkP q ids f g ∧ Gs.Kst BL BK BF K q.length (.slice ao q.length cap) w' g ∧ w.grownBy w' (some K) := by
  intro n
  induction n using Nat.strongRecOn with
  | _ n ih =>
  intro f ids iv w hn hfl hK hI hil hV hok
  have IH : Hid (∀ (g : List Bool), Gs.left g < n → g.length = q.length → ∀ (ids : List Wr.Id) (iv : Value) (w : World), Gs.Kst BL BK BF K q.length (.slice ao q.length cap) w g → IdsV w iv ids → ids.length ≤ 1000 → UpsV w (.slice ao q.length cap) q → (∀ y, y ∈ q → UvOk w y ∧ y.u.ps.length ≤ 6 ∧ y.u.ts.length ≤ 6) →
    Calls Tryz.prog 91 #[iv, .pointer (some ⟨BL, 0, none⟩), .pointer (some ⟨BK, 0, none⟩), .pointer (some ⟨BF, 0, none⟩)] w fun e w' => e = .returned (.tuple #[]) ∧ ∃ g', Gs.MarkP q ids g g' ∧ Gs.Kst BL BK BF K q.length (.slice ao q.length cap) w' g' ∧ w.grownBy w' (some K)) := fun g h1 h2 ids iv w h3 h4 h5 h6 h7 => ih (Gs.left g) h1 g ids iv w rfl h2 h3 h4 h5 h6 h7
  obtain ⟨ai, ci, rfl, _, hiA⟩ := hI
  have HIA : Hid (IdsAt w ai ids) := hiA
  have HV : Hid (UpsV w (.slice ao q.length cap) q) := hV
  have HOK : Hid (∀ y, y ∈ q → UvOk w y ∧ y.u.ps.length ≤ 6 ∧ y.u.ts.length ≤ 6) := hok
  have HRS : Hid (Wr.rise Dg.uOrd (ups q) = true) := hr
  have HKS : Hid (Gs.Kst BL BK BF K q.length (.slice ao q.length cap) w f) := hK
  have HLN : Hid (Gs.left f = n ∧ f.length = q.length) := ⟨hn, hfl⟩
  have HKN : Hid (∀ z, w.grownBy z (some K) → Kn w z) := fun z hz => kn_row hK.row hz
  clear ih hiA hV hok hr hK hn hfl
  go_enter Tryz.func91, Tryz.ntmps91
  go_wp2_with fail
  go_loopw [11] (fun iv wr => ∃ (k : Nat) (g : List Bool), k ≤ ids.length ∧ iv = .int .i64 k ∧ Hid (Gs.MarkP q (ids.take k) f g) ∧ Hid (Gs.Kst BL BK BF K q.length (.slice ao q.length cap) wr g) ∧ Hid (w.grownBy wr (some K))) (fun iv _ => ids.length - (intOf iv).toNat)
  case atStart => exact ⟨0, f, Nat.zero_le _, rfl, Gs.MarkP.refl _ _, HKS.out, grown_refl _ _⟩
  case round =>
    clear HKS
    obtain ⟨k, g, hk, rfl, HM, HK, HG⟩ := hrel
    have hgl : g.length = q.length := HM.out.len.trans HLN.out.2
    by_cases hlt : k < ids.length
    · have g1 : decide (k < ids.length) = true := decide_eq_true hlt
      have HTK : Hid (ids.take (k + 1) = ids.take k ++ [idD ids k]) := by
        show _ = _
        rw [List.take_add_one, List.getElem?_eq_getElem hlt]
        unfold idD
        rw [List.getD_eq_getElem?_getD, List.getElem?_eq_getElem hlt]
        rfl
      obtain ⟨bi, oi, ei, i0, i1⟩ := ids_at HIA.out k hlt
      have hkn := HKN.out wr HG.out
      have j0 := hkn _ ⟨_, _, i0⟩ _ _ i0
      have j1 := hkn _ ⟨_, _, i0⟩ _ _ i1
      clear i0 i1 hkn
      generalize idD ids k = z at *
      obtain ⟨xa, xn⟩ := z
      dsimp only at j0 j1
      subst ei
      go_upto_region 3 with fail
      have b6 := heap_alloc_new wr (.cells #[.int .i64 xa, .int .i64 xn] 26)
      have g6 := new_below wr (.cells #[.int .i64 xa, .int .i64 xn] 26)
      generalize wr.alloc (.cells #[.int .i64 xa, .int .i64 xn] 26) = w2 at *
      have HK2 : Hid (Gs.Kst BL BK BF K q.length (.slice ao q.length cap) w2 g) := HK.out.below g6
      have HG2 : Hid (w.grownBy w2 (some K)) := grown_below HG.out g6
      have t0 : w2.cell? ⟨wr.heap.size, 0, none⟩ = some (.int .i64 xa) := by rw [Lib.cell_of_heap b6]; rfl
      have t1 : w2.cell? ⟨wr.heap.size, 1, none⟩ = some (.int .i64 xn) := by rw [Lib.cell_of_heap b6]; rfl
      have t2 : w2.cell? ⟨BL, 0, none⟩ = some (.slice ao q.length cap) := by rw [Lib.cell_of_heap HK2.out.bl]; rfl
      have HSE : Hid _ := search_any q ⟨xa, xn⟩ (.slice ao q.length cap) w2 (HV.out.kn (HKN.out _ HG2.out)) hl (fun y hy => (HOK.out y hy).1.kn (HKN.out _ HG2.out)) HRS.out
      clear b6 g6 HK HG j0 j1
      go_wp2_with fail
      refine Calls.mono HSE.out ?_
      rintro _ w3 ⟨r, bb, rfl, hbs, hb3⟩
      have HK3 : Hid (Gs.Kst BL BK BF K q.length (.slice ao q.length cap) w3 g) := HK2.out.below hb3
      have HG3 : Hid (w.grownBy w3 (some K)) := grown_below HG2.out hb3
      clear HSE HK2 HG2 hb3 t0 t1 t2
      rcases hbs with ⟨rfl, hrl, hre⟩ | ⟨rfl, hno⟩
      · have hgl2 : r < g.length := by omega
        have kc := boolRow_cell HK3.out.row hgl2
        have kb : w3.cell? ⟨BK, 0, none⟩ = some (.slice (some ⟨K, 0, none⟩) q.length q.length) := by rw [Lib.cell_of_heap HK3.out.bk]; rfl
        have hone : ∀ i, i < q.length → (uvD q i).u.id = ⟨xa, xn⟩ → i = r := fun i hi e => Gs.rise_id HRS.out hi hrl (e.trans hre.symm)
        cases hgr : g.getD r false with
        | true =>
          rw [hgr] at kc
          have HN : Hid (Gs.MarkP q (ids.take (k + 1)) f g) := by
            rw [HTK.out]
            exact HM.out.skip (fun i hi e => by rw [hone i hi e]; exact hgr)
          clear hone hre hgr HM HTK
          go_wp2_with fail
          go_roundw
          case rel => exact ⟨k + 1, g, hlt, by go_num, HN.out, HK3.out, HG3.out⟩
          case measure => simp [intOf]; omega
        | false =>
          rw [hgr] at kc
          have kf := Lib.frozen_of_heap HK3.out.row r
          have HK4 : Hid (Gs.Kst BL BK BF K q.length (.slice ao q.length cap) (w3.setCell ⟨K, r, none⟩ (.bool true)) (g.set r true)) := HK3.out.set r
          have HG4 : Hid (w.grownBy (w3.setCell ⟨K, r, none⟩ (.bool true)) (some K)) := grown_trans HG3.out (Gs.set_grown HK3.out r)
          have hll := Gs.left_set hgl2 hgr
          have hlm := Gs.left_mono HM.out.len HM.out.mono
          have HL4 : Hid (Gs.left (g.set r true) < n ∧ (g.set r true).length = q.length) := ⟨by have := HLN.out.1; omega, by rw [Gs.set_len]; exact hgl⟩
          have HVS : Hid (∀ g2 g3, Gs.MarkP q (uvD q r).u.ps (g.set r true) g2 → Gs.MarkP q (uvD q r).u.ts g2 g3 → Gs.MarkP q (ids.take (k + 1)) f g3) := fun g2 g3 h2 h3 => by
            rw [HTK.out, ← hre]
            exact HM.out.visit hrl hgl (fun i hi e => hone i hi (e.trans hre)) h2 h3
          clear hone hre hgr HM HTK hll hlm hgl2
          go_upto_region 6 with fail
          clear kc kb kf HK3 HG3
          generalize w3.setCell ⟨K, r, none⟩ (.bool true) = w4 at *
          generalize g.set r true = g4 at *
          have hxo := HOK.out _ (uvD_mem q r hrl)
          obtain ⟨ao', cap', ea, _, hA⟩ := HV.out
          cases ea
          obtain ⟨b, off, eb, p0, p1, p2, p3, p4⟩ := ups_at hA r hrl
          subst eb
          clear hA
          generalize uvD q r = x at *
          obtain ⟨b1, m1, f1, b2, m2, f2, b3, m3, f3, e1, e2, e3⟩ := hxo.1.forms
          have HX : Hid (UvOk w x ∧ x.u.ps.length ≤ 6 ∧ x.u.ts.length ≤ 6) := hxo
          clear hxo
          obtain ⟨⟨⟨va, vn⟩, ps, says, ts⟩, vp, vs, vt⟩ := x
          dsimp only at *
          subst e1 e2 e3
          have HPC : Hid (∀ z, Kn w z → z.cell? ⟨b, off + r * 5 + 2, none⟩ = some (.slice b1 m1 f1) ∧ z.cell? ⟨b, off + r * 5 + 4, none⟩ = some (.slice b3 m3 f3)) := fun z hz => ⟨hz _ ⟨_, _, p0⟩ _ _ p2, hz _ ⟨_, _, p0⟩ _ _ p4⟩
          clear p0 p1 p2 p3 p4
          have HSC6 : Hid (∀ z, Below w4.heap.size w4 z → z.cell? ⟨BF, 0, none⟩ = some (.func (.func 91) #[] #[.pointer (some ⟨BL, 0, none⟩), .pointer (some ⟨BK, 0, none⟩), .pointer (some ⟨BF, 0, none⟩)]) ∧ z.cell? ⟨BL, 0, none⟩ = some (.slice (some ⟨b, off, none⟩) q.length cap)) := fun z hz => ⟨cell_below hz (by rw [Lib.cell_of_heap HK4.out.bf]; rfl), cell_below hz (by rw [Lib.cell_of_heap HK4.out.bl]; rfl)⟩
          have HSI6 : Hid (∀ z, Below w4.heap.size w4 z → z.cell? ⟨b, off + r * 5 + 2, none⟩ = some (.slice b1 m1 f1)) := fun z hz => cell_below hz (HPC.out _ (HKN.out _ HG4.out)).1
          have HMK6 : Hid (∀ z, Below w4.heap.size w4 z → Calls Tryz.prog 91 #[.slice b1 m1 f1, .pointer (some ⟨BL, 0, none⟩), .pointer (some ⟨BK, 0, none⟩), .pointer (some ⟨BF, 0, none⟩)] z fun e w' => e = .returned (.tuple #[]) ∧ ∃ g', Gs.MarkP q ps g4 g' ∧ Gs.Kst BL BK BF K q.length (.slice (some ⟨b, off, none⟩) q.length cap) w' g' ∧ z.grownBy w' (some K)) := fun z hz => by
            have hkz := HKN.out z (grown_below HG4.out hz)
            exact IH.out g4 HL4.out.1 HL4.out.2 ps _ z (HK4.out.below hz) (HX.out.1.kn hkz).p (Nat.le_trans HX.out.2.1 (by decide)) (HV.out.kn hkz) (fun y hy => ⟨(HOK.out y hy).1.kn hkz, (HOK.out y hy).2⟩)
          refine wp_region_tail2 (mkT6 BL BK BF b off q.length cap r (off + r * 5) b1 m1 f1) 6 (by decide) (by kernel_rfl) (by kernel_rfl) (by kernel_rfl) (mkT6_mono _ _ _ _ _ _ _ _ _ _ _ _) ?hop6 ?hend6
          case hop6 =>
            refine AllOps.cons (fun a y h hpre => ?_) ?_
            · have e3 : a.eval (.tmp 3) = (.pointer (some ⟨BF, 0, none⟩) : Value) := h.old 3 (by kernel_rfl)
              obtain ⟨s0, s1⟩ := HSC6.out y h.below
              refine opOk_val (v := .func (.func 91) #[] #[.pointer (some ⟨BL, 0, none⟩), .pointer (some ⟨BK, 0, none⟩), .pointer (some ⟨BF, 0, none⟩)]) (w' := y) (wanted_none rfl) ?_ (fun t ht => by cases ht; exact rfl) (Below.refl _ _)
              have ec : ∀ v, a.eval (.const v) = v := fun _ => rfl
              generalize a.eval = ev at *
              clear h hpre
              go_simp
            refine AllOps.cons (fun a y h hpre => ?_) ?_
            · have e1 : a.eval (.tmp 1) = (.pointer (some ⟨BL, 0, none⟩) : Value) := h.old 1 (by kernel_rfl)
              obtain ⟨s0, s1⟩ := HSC6.out y h.below
              refine opOk_val (v := .slice (some ⟨b, off, none⟩) q.length cap) (w' := y) (wanted_none rfl) ?_ (fun t ht => by cases ht; exact rfl) (Below.refl _ _)
              have ec : ∀ v, a.eval (.const v) = v := fun _ => rfl
              generalize a.eval = ev at *
              clear h hpre
              go_simp
            refine AllOps.cons (fun a y h hpre => ?_) ?_
            · have e7 : a.eval (.tmp 7) = (.int .i64 r : Value) := h.old 7 (by kernel_rfl)
              refine opOk_val (v := .int .i64 r) (w' := y) (wanted_none rfl) ?_ (fun t ht => by cases ht; exact rfl) (Below.refl _ _)
              have ec : ∀ v, a.eval (.const v) = v := fun _ => rfl
              generalize a.eval = ev at *
              clear h hpre
              go_simp
            refine AllOps.cons (fun a y h hpre => ?_) ?_
            · have e33 : a.eval (.tmp 33) = (.slice (some ⟨b, off, none⟩) q.length cap : Value) := h.of 33 (by kernel_rfl)
              have e34 : a.eval (.tmp 34) = (.int .i64 r : Value) := h.of 34 (by kernel_rfl)
              refine opOk_val (v := .pointer (some ⟨b, (off + r * 5), none⟩)) (w' := y) (wanted_none rfl) ?_ (fun t ht => by cases ht; exact rfl) (Below.refl _ _)
              have ec : ∀ v, a.eval (.const v) = v := fun _ => rfl
              generalize a.eval = ev at *
              clear h hpre
              go_simp
            refine AllOps.cons (fun a y h hpre => ?_) ?_
            · have e35 : a.eval (.tmp 35) = (.pointer (some ⟨b, (off + r * 5), none⟩) : Value) := h.of 35 (by kernel_rfl)
              refine opOk_val (v := .pointer (some ⟨b, (off + r * 5) + 2, none⟩)) (w' := y) (wanted_none rfl) ?_ (fun t ht => by cases ht; exact rfl) (Below.refl _ _)
              have ec : ∀ v, a.eval (.const v) = v := fun _ => rfl
              generalize a.eval = ev at *
              clear h hpre
              go_simp
            refine AllOps.cons (fun a y h hpre => ?_) ?_
            · have e36 : a.eval (.tmp 36) = (.pointer (some ⟨b, (off + r * 5) + 2, none⟩) : Value) := h.of 36 (by kernel_rfl)
              have s2 := HSI6.out y h.below
              refine opOk_val (v := .slice b1 m1 f1) (w' := y) (wanted_none rfl) ?_ (fun t ht => by cases ht; exact rfl) (Below.refl _ _)
              have ec : ∀ v, a.eval (.const v) = v := fun _ => rfl
              generalize a.eval = ev at *
              clear h hpre
              go_simp
            exact AllOps.nil
          rintro ⟨tm0, df⟩ y hI _
          have e32 : Act.eval ⟨tm0, df⟩ (.tmp 32) = (.func (.func 91) #[] #[.pointer (some ⟨BL, 0, none⟩), .pointer (some ⟨BK, 0, none⟩), .pointer (some ⟨BF, 0, none⟩)] : Value) := hI.all 0 _ 32 (by decide) rfl rfl
          have e37 : Act.eval ⟨tm0, df⟩ (.tmp 37) = (.slice b1 m1 f1 : Value) := hI.all 5 _ 37 (by decide) rfl rfl
          have hsN : tm0.size = 47 := hI.size
          show wpOps Tryz.prog _ _ [6] _ _
          rw [wpOps_cons]
          refine wpOp_call (f := 91) (args := #[.slice b1 m1 f1, .pointer (some ⟨BL, 0, none⟩), .pointer (some ⟨BK, 0, none⟩), .pointer (some ⟨BF, 0, none⟩)]) rfl (wanted_none rfl) ?_ ?_
          · generalize Act.eval ⟨tm0, df⟩ = ev at *
            clear hI
            go_simp
          refine Calls.mono (HMK6.out y hI.below) ?_
          rintro _ y6 ⟨rfl, g6, hM6, hK6, hG6⟩
          refine ⟨_, rfl, ?_⟩
          have hstE : ∀ t, t ∉ [32, 33, 34, 35, 36, 37, 38] → (tm0.setIfInBounds 38 (.tuple #[])).getD t undef = _ := fun t ht => by
            have hC : t ≠ 38 := fun e => ht (by rw [e]; decide)
            exact (put_get_ne (a := ⟨tm0, df⟩) hC).trans (hI.still t ht)
          have hszE : (tm0.setIfInBounds 38 (.tuple #[])).size = 47 := by simp [hsN]
          obtain rfl : df = [] := hI.defers
          have HG6 : Hid (w4.grownBy y6 (some K)) := grown_trans (grownBy_of_below hI.below _) hG6
          have HM6 : Hid _ := hM6
          have HK6 : Hid _ := hK6
          clear hI hsN e32 e37 hG6 hM6 hK6 HMK6 HSC6 HSI6
          refine wpOps_end (t := 38) ?_
          generalize tm0.setIfInBounds 38 (.tuple #[]) = tm at *
          have hF8 := tmps_fold [32, 33, 34, 35, 36, 37, 38] tm _ (hszE.trans (by rfl)) hstE
          clear hszE hstE
          simp only [List.foldl_cons, List.foldl_nil] at hF8
          generalize tm.getD 32 undef = x32 at hF8
          generalize tm.getD 33 undef = x33 at hF8
          generalize tm.getD 34 undef = x34 at hF8
          generalize tm.getD 35 undef = x35 at hF8
          generalize tm.getD 36 undef = x36 at hF8
          generalize tm.getD 37 undef = x37 at hF8
          generalize tm.getD 38 undef = x38 at hF8
          simp only [List.setIfInBounds_toArray, List.set_cons_zero, List.set_cons_succ] at hF8
          subst hF8
          have HG6' : Hid (w.grownBy y6 (some K)) := grown_trans HG4.out HG6.out
          have HL6 : Hid (Gs.left g6 < n ∧ g6.length = q.length) := ⟨Nat.lt_of_le_of_lt (Gs.left_mono HM6.out.len HM6.out.mono) HL4.out.1, HM6.out.len.trans HL4.out.2⟩
          have HSC7 : Hid (∀ z, Below y6.heap.size y6 z → z.cell? ⟨BF, 0, none⟩ = some (.func (.func 91) #[] #[.pointer (some ⟨BL, 0, none⟩), .pointer (some ⟨BK, 0, none⟩), .pointer (some ⟨BF, 0, none⟩)]) ∧ z.cell? ⟨BL, 0, none⟩ = some (.slice (some ⟨b, off, none⟩) q.length cap)) := fun z hz => ⟨cell_below hz (by rw [Lib.cell_of_heap HK6.out.bf]; rfl), cell_below hz (by rw [Lib.cell_of_heap HK6.out.bl]; rfl)⟩
          have HSI7 : Hid (∀ z, Below y6.heap.size y6 z → z.cell? ⟨b, off + r * 5 + 4, none⟩ = some (.slice b3 m3 f3)) := fun z hz => cell_below hz (HPC.out _ (HKN.out _ HG6'.out)).2
          have HMK7 : Hid (∀ z, Below y6.heap.size y6 z → Calls Tryz.prog 91 #[.slice b3 m3 f3, .pointer (some ⟨BL, 0, none⟩), .pointer (some ⟨BK, 0, none⟩), .pointer (some ⟨BF, 0, none⟩)] z fun e w' => e = .returned (.tuple #[]) ∧ ∃ g', Gs.MarkP q ts g6 g' ∧ Gs.Kst BL BK BF K q.length (.slice (some ⟨b, off, none⟩) q.length cap) w' g' ∧ z.grownBy w' (some K)) := fun z hz => by
            have hkz := HKN.out z (grown_below HG6'.out hz)
            exact IH.out g6 HL6.out.1 HL6.out.2 ts _ z (HK6.out.below hz) (HX.out.1.kn hkz).t (Nat.le_trans HX.out.2.2 (by decide)) (HV.out.kn hkz) (fun y hy => ⟨(HOK.out y hy).1.kn hkz, (HOK.out y hy).2⟩)
          go_upto_region 7 with fail
          refine wp_region_tail2 (mkT7 BL BK BF b off q.length cap r (off + r * 5) b3 m3 f3) 6 (by decide) (by kernel_rfl) (by kernel_rfl) (by kernel_rfl) (mkT7_mono _ _ _ _ _ _ _ _ _ _ _ _) ?hop7 ?hend7
          case hop7 =>
            refine AllOps.cons (fun a y h hpre => ?_) ?_
            · have e3 : a.eval (.tmp 3) = (.pointer (some ⟨BF, 0, none⟩) : Value) := h.old 3 (by kernel_rfl)
              obtain ⟨s0, s1⟩ := HSC7.out y h.below
              refine opOk_val (v := .func (.func 91) #[] #[.pointer (some ⟨BL, 0, none⟩), .pointer (some ⟨BK, 0, none⟩), .pointer (some ⟨BF, 0, none⟩)]) (w' := y) (wanted_none rfl) ?_ (fun t ht => by cases ht; exact rfl) (Below.refl _ _)
              have ec : ∀ v, a.eval (.const v) = v := fun _ => rfl
              generalize a.eval = ev at *
              clear h hpre
              go_simp
            refine AllOps.cons (fun a y h hpre => ?_) ?_
            · have e1 : a.eval (.tmp 1) = (.pointer (some ⟨BL, 0, none⟩) : Value) := h.old 1 (by kernel_rfl)
              obtain ⟨s0, s1⟩ := HSC7.out y h.below
              refine opOk_val (v := .slice (some ⟨b, off, none⟩) q.length cap) (w' := y) (wanted_none rfl) ?_ (fun t ht => by cases ht; exact rfl) (Below.refl _ _)
              have ec : ∀ v, a.eval (.const v) = v := fun _ => rfl
              generalize a.eval = ev at *
              clear h hpre
              go_simp
            refine AllOps.cons (fun a y h hpre => ?_) ?_
            · have e7 : a.eval (.tmp 7) = (.int .i64 r : Value) := h.old 7 (by kernel_rfl)
              refine opOk_val (v := .int .i64 r) (w' := y) (wanted_none rfl) ?_ (fun t ht => by cases ht; exact rfl) (Below.refl _ _)
              have ec : ∀ v, a.eval (.const v) = v := fun _ => rfl
              generalize a.eval = ev at *
              clear h hpre
              go_simp
            refine AllOps.cons (fun a y h hpre => ?_) ?_
            · have e40 : a.eval (.tmp 40) = (.slice (some ⟨b, off, none⟩) q.length cap : Value) := h.of 40 (by kernel_rfl)
              have e41 : a.eval (.tmp 41) = (.int .i64 r : Value) := h.of 41 (by kernel_rfl)
              refine opOk_val (v := .pointer (some ⟨b, (off + r * 5), none⟩)) (w' := y) (wanted_none rfl) ?_ (fun t ht => by cases ht; exact rfl) (Below.refl _ _)
              have ec : ∀ v, a.eval (.const v) = v := fun _ => rfl
              generalize a.eval = ev at *
              clear h hpre
              go_simp
            refine AllOps.cons (fun a y h hpre => ?_) ?_
            · have e42 : a.eval (.tmp 42) = (.pointer (some ⟨b, (off + r * 5), none⟩) : Value) := h.of 42 (by kernel_rfl)
              refine opOk_val (v := .pointer (some ⟨b, (off + r * 5) + 4, none⟩)) (w' := y) (wanted_none rfl) ?_ (fun t ht => by cases ht; exact rfl) (Below.refl _ _)
              have ec : ∀ v, a.eval (.const v) = v := fun _ => rfl
              generalize a.eval = ev at *
              clear h hpre
              go_simp
            refine AllOps.cons (fun a y h hpre => ?_) ?_
            · have e43 : a.eval (.tmp 43) = (.pointer (some ⟨b, (off + r * 5) + 4, none⟩) : Value) := h.of 43 (by kernel_rfl)
              have s2 := HSI7.out y h.below
              refine opOk_val (v := .slice b3 m3 f3) (w' := y) (wanted_none rfl) ?_ (fun t ht => by cases ht; exact rfl) (Below.refl _ _)
              have ec : ∀ v, a.eval (.const v) = v := fun _ => rfl
              generalize a.eval = ev at *
              clear h hpre
              go_simp
            exact AllOps.nil
          rintro ⟨tm0, df⟩ y hI _
          have e39 : Act.eval ⟨tm0, df⟩ (.tmp 39) = (.func (.func 91) #[] #[.pointer (some ⟨BL, 0, none⟩), .pointer (some ⟨BK, 0, none⟩), .pointer (some ⟨BF, 0, none⟩)] : Value) := hI.all 0 _ 39 (by decide) rfl rfl
          have e44 : Act.eval ⟨tm0, df⟩ (.tmp 44) = (.slice b3 m3 f3 : Value) := hI.all 5 _ 44 (by decide) rfl rfl
          have hsN : tm0.size = 47 := hI.size
          show wpOps Tryz.prog _ _ [6] _ _
          rw [wpOps_cons]
          refine wpOp_call (f := 91) (args := #[.slice b3 m3 f3, .pointer (some ⟨BL, 0, none⟩), .pointer (some ⟨BK, 0, none⟩), .pointer (some ⟨BF, 0, none⟩)]) rfl (wanted_none rfl) ?_ ?_
          · generalize Act.eval ⟨tm0, df⟩ = ev at *
            clear hI
            go_simp
          refine Calls.mono (HMK7.out y hI.below) ?_
          rintro _ y7 ⟨rfl, g7, hM7, hK7, hG7⟩
          refine ⟨_, rfl, ?_⟩
          have hstE : ∀ t, t ∉ [39, 40, 41, 42, 43, 44, 45] → (tm0.setIfInBounds 45 (.tuple #[])).getD t undef = _ := fun t ht => by
            have hC : t ≠ 45 := fun e => ht (by rw [e]; decide)
            exact (put_get_ne (a := ⟨tm0, df⟩) hC).trans (hI.still t ht)
          have hszE : (tm0.setIfInBounds 45 (.tuple #[])).size = 47 := by simp [hsN]
          obtain rfl : df = [] := hI.defers
          have HG7 : Hid (y6.grownBy y7 (some K)) := grown_trans (grownBy_of_below hI.below _) hG7
          have HM7 : Hid _ := hM7
          have HK7 : Hid _ := hK7
          clear hI hsN e39 e44 hG7 hM7 hK7 HMK7 HSC7 HSI7
          refine wpOps_end (t := 45) ?_
          generalize tm0.setIfInBounds 45 (.tuple #[]) = tm at *
          have hF8 := tmps_fold [39, 40, 41, 42, 43, 44, 45] tm _ (hszE.trans (by rfl)) hstE
          clear hszE hstE
          simp only [List.foldl_cons, List.foldl_nil] at hF8
          generalize tm.getD 39 undef = x39 at hF8
          generalize tm.getD 40 undef = x40 at hF8
          generalize tm.getD 41 undef = x41 at hF8
          generalize tm.getD 42 undef = x42 at hF8
          generalize tm.getD 43 undef = x43 at hF8
          generalize tm.getD 44 undef = x44 at hF8
          generalize tm.getD 45 undef = x45 at hF8
          simp only [List.setIfInBounds_toArray, List.set_cons_zero, List.set_cons_succ] at hF8
          subst hF8
          have HN : Hid _ := HVS.out g6 g7 HM6.out HM7.out
          have HG7' : Hid (w.grownBy y7 (some K)) := grown_trans HG6'.out HG7.out
          clear HVS HM6 HM7 HG6 HG7 HG6' HG4
          go_wp2_with fail
          go_roundw
          case rel => exact ⟨k + 1, g7, hlt, by go_num, HN.out, HK7.out, HG7'.out⟩
          case measure => simp [intOf]; omega
      · have HN : Hid (Gs.MarkP q (ids.take (k + 1)) f g) := by
          rw [HTK.out]
          refine HM.out.skip (fun i hi e => ?_)
          have h2 := Gs.has_uvD hi
          rw [e, hno] at h2
          cases h2
        clear hno HM HTK
        go_wp2_with fail
        go_roundw
        case rel => exact ⟨k + 1, g, hlt, by go_num, HN.out, HK3.out, HG3.out⟩
        case measure => simp [intOf]; omega
    · have g1 : decide (k < ids.length) = false := decide_eq_false hlt
      have HN : Hid (Gs.MarkP q ids f g) := by
        have := HM.out
        rw [List.take_of_length_le (by omega)] at this
        exact this
      go_wp2_with fail
      exact bodyPost_end (v := .tuple #[]) (by simp [results, Tryz.results91, go_sem]) rfl ⟨rfl, g, HN.out, HK.out, HG.out⟩
end Go.Proofs.YtmfaodapofamfaaGreat

/- knownBy: which of some updates are heads, or behind one. -/
namespace Go.Proofs.YtmfaodapofamfaaGreat
open Go.RowKit

set_option maxRecDepth 100000 in
set_option maxHeartbeats 2000000 in
theorem knownBy_any (q : List Uv) (ids : List Wr.Id) (iv lv : Value) (w : World) (hr : Wr.rise Dg.uOrd (ups q) = true) (hl : q.length ≤ 1000) (hI : IdsV w iv ids) (hil : ids.length ≤ 1000) (hV : UpsV w lv q) (hok : ∀ y, y ∈ q → UvOk w y ∧ y.u.ps.length ≤ 6 ∧ y.u.ts.length ≤ 6) :
    Calls Tryz.prog 58 #[iv, lv] w fun e w' => ∃ K, e = .returned (.slice (some ⟨K, 0, none⟩) q.length q.length) ∧ w'.heap[K]? = some (.cells (boolRow (Gs.known (ups q) ids)) 4) ∧ w.heap.size ≤ K ∧ Below w.heap.size w w' := by
  obtain ⟨ao, cap, rfl, hcp, hA⟩ := id hV
  obtain ⟨ai, ci, rfl, hci, hAi⟩ := id hI
  have hmk := run_make_row' (P := Tryz.prog) 92 4 (.bool false) 1 Tryz.underlying92 (by kernel_rfl) rfl .i64 .i64 q.length (by omega) (by omega)
  simp only [made_boolRow] at hmk
  go_enter Tryz.func58, Tryz.ntmps58
  go_upto_region 1 with fail
  have b0 := heap_alloc_new w (.cells #[.slice ao q.length cap] 22)
  have g0 := new_below w (.cells #[.slice ao q.length cap] 22)
  generalize w.alloc (.cells #[.slice ao q.length cap] 22) = w1 at *
  have c0 : w1.cell? ⟨w.heap.size, 0, none⟩ = some (.slice ao q.length cap) := by rw [Lib.cell_of_heap b0]; rfl
  go_upto_region 2 with fail
  have b1 := heap_alloc_new w1 (.cells (boolRow (List.replicate q.length false)) 4)
  have g1 := new_below w1 (.cells (boolRow (List.replicate q.length false)) 4)
  have z1 : (w1.alloc (.cells (boolRow (List.replicate q.length false)) 4)).heap.size = w1.heap.size + 1 := by simp
  have b2 := heap_alloc_new (w1.alloc (.cells (boolRow (List.replicate q.length false)) 4)) (.cells #[.slice (some ⟨w1.heap.size, 0, none⟩) q.length q.length] 92)
  have g2 := new_below (w1.alloc (.cells (boolRow (List.replicate q.length false)) 4)) (.cells #[.slice (some ⟨w1.heap.size, 0, none⟩) q.length q.length] 92)
  rw [z1] at b2
  have b1' := (g2.block _ (by rw [z1]; exact Nat.lt_succ_self _)).trans b1
  have hb12 := g1.trans (g2.mono g1.size)
  have z2 : ((w1.alloc (.cells (boolRow (List.replicate q.length false)) 4)).alloc (.cells #[.slice (some ⟨w1.heap.size, 0, none⟩) q.length q.length] 92)).heap.size = w1.heap.size + 2 := by simp
  generalize (w1.alloc (.cells (boolRow (List.replicate q.length false)) 4)).alloc (.cells #[.slice (some ⟨w1.heap.size, 0, none⟩) q.length q.length] 92) = w2 at *
  clear b1 g1 g2 z1 hmk
  go_upto_region 3 with fail
  have b3 := heap_alloc_new w2 (.cells #[.nilFunc] 118)
  have g3 := new_below w2 (.cells #[.nilFunc] 118)
  rw [z2] at b3
  generalize w2.alloc (.cells #[.nilFunc] 118) = w3 at *
  have f0 : w3.cell? ⟨w1.heap.size + 2, 0, none⟩ = some .nilFunc := by rw [Lib.cell_of_heap b3]; rfl
  have f1 := Lib.frozen_of_heap b3 0
  go_upto_region 4 with fail
  have k3 : (w3.setCell ⟨w1.heap.size + 2, 0, none⟩ (.func (.func 91) #[] #[.pointer (some ⟨w.heap.size, 0, none⟩), .pointer (some ⟨w1.heap.size + 1, 0, none⟩), .pointer (some ⟨w1.heap.size + 2, 0, none⟩)])).heap[w1.heap.size + 2]? = some (.cells #[.func (.func 91) #[] #[.pointer (some ⟨w.heap.size, 0, none⟩), .pointer (some ⟨w1.heap.size + 1, 0, none⟩), .pointer (some ⟨w1.heap.size + 2, 0, none⟩)]] 118) := by rw [Lib.heap_setCell_same b3]; rfl
  have ko : ∀ j, j < w1.heap.size + 2 → (w3.setCell ⟨w1.heap.size + 2, 0, none⟩ (.func (.func 91) #[] #[.pointer (some ⟨w.heap.size, 0, none⟩), .pointer (some ⟨w1.heap.size + 1, 0, none⟩), .pointer (some ⟨w1.heap.size + 2, 0, none⟩)])).heap[j]? = w2.heap[j]? := fun j hj => by rw [heap_set_other (by omega)]; exact g3.block j (by rw [z2]; exact hj)
  have hsz : w.heap.size < w1.heap.size := (Array.getElem?_eq_some_iff.1 b0).1
  have hKS : Gs.Kst w.heap.size (w1.heap.size + 1) (w1.heap.size + 2) w1.heap.size q.length (.slice ao q.length cap) (w3.setCell ⟨w1.heap.size + 2, 0, none⟩ (.func (.func 91) #[] #[.pointer (some ⟨w.heap.size, 0, none⟩), .pointer (some ⟨w1.heap.size + 1, 0, none⟩), .pointer (some ⟨w1.heap.size + 2, 0, none⟩)])) (List.replicate q.length false) :=
    ⟨(ko _ (by omega)).trans b1', (ko _ (by omega)).trans ((hb12.block _ hsz).trans b0), (ko _ (by omega)).trans b2, k3⟩
  have hB4 : Below w.heap.size w (w3.setCell ⟨w1.heap.size + 2, 0, none⟩ (.func (.func 91) #[] #[.pointer (some ⟨w.heap.size, 0, none⟩), .pointer (some ⟨w1.heap.size + 1, 0, none⟩), .pointer (some ⟨w1.heap.size + 2, 0, none⟩)])) := ((g0.trans (hb12.mono g0.size)).trans (g3.mono (g0.trans (hb12.mono g0.size)).size)).setCell (p := ⟨w1.heap.size + 2, 0, none⟩) (by show w.heap.size ≤ w1.heap.size + 2; omega) _
  clear f0 f1 k3 ko b3 g3 b2 b1' hb12 z2 b0 c0
  generalize w3.setCell ⟨w1.heap.size + 2, 0, none⟩ (.func (.func 91) #[] #[.pointer (some ⟨w.heap.size, 0, none⟩), .pointer (some ⟨w1.heap.size + 1, 0, none⟩), .pointer (some ⟨w1.heap.size + 2, 0, none⟩)]) = w4 at *
  have HB4 : Hid (Below w.heap.size w w4) := hB4
  have hkn : Kn w w4 := Kn.below hB4
  have HMK : Hid _ := mark_any q hr hl w.heap.size (w1.heap.size + 1) (w1.heap.size + 2) w1.heap.size ao cap _ (List.replicate q.length false) ids (.slice ai ids.length ci) w4 rfl (List.length_replicate) hKS (hkn.ids hI) hil (hV.kn hkn) (fun y hy => ⟨(hok y hy).1.kn hkn, (hok y hy).2⟩)
  have c0 : w4.cell? ⟨w1.heap.size + 2, 0, none⟩ = some (.func (.func 91) #[] #[.pointer (some ⟨w.heap.size, 0, none⟩), .pointer (some ⟨w1.heap.size + 1, 0, none⟩), .pointer (some ⟨w1.heap.size + 2, 0, none⟩)]) := by rw [Lib.cell_of_heap hKS.bf]; rfl
  clear hKS hB4 hkn hok hV hI hA hAi hr hcp hci g0
  go_wp2_with fail
  refine Calls.mono HMK.out ?_
  rintro _ w5 ⟨rfl, g, hM, hK, hG⟩
  have c1 : w5.cell? ⟨w1.heap.size + 1, 0, none⟩ = some (.slice (some ⟨w1.heap.size, 0, none⟩) q.length q.length) := by rw [Lib.cell_of_heap hK.bk]; rfl
  have hrow := hK.row
  rw [hM.known] at hrow
  have HB5 : Hid (Below w.heap.size w w5) := below_row HB4.out hG (by omega)
  clear HMK hK hM hG HB4 c0
  go_wp2_with fail
  go_ret
  exact ⟨w1.heap.size, rfl, hrow, by omega, HB5.out⟩
end Go.Proofs.YtmfaodapofamfaaGreat

/- IndexFunc and ContainsFunc of updates; order; Rise. -/
namespace Go.Proofs.YtmfaodapofamfaaGreat
open Go.RowKit Go.Maps

set_option maxRecDepth 100000 in
set_option maxHeartbeats 1000000 in
theorem indexA_any (B : Nat) (P : Wr.Up → Bool) (q : List Uv) (v : Value) (w : World) (hV : UpsV w v q) (hl : q.length ≤ 1000) (hok : ∀ x, x ∈ q → UvOk w x) (hC : ∀ z x, Below w.heap.size w z → x ∈ q → Calls Tryz.prog 89 #[uvVal x, .pointer (some ⟨B, 0, none⟩)] z fun e w' => e = .returned (.bool (P x.u)) ∧ Below z.heap.size z w') :
    Calls Tryz.prog 108 #[v, .func (.func 89) #[] #[.pointer (some ⟨B, 0, none⟩)]] w fun e w' => ∃ r : Int, e = .returned (.int .i64 r) ∧ (decide (0 ≤ r) = (ups q).any P) ∧ Below w.heap.size w w' := by
  obtain ⟨ao, cap, rfl, _, hA⟩ := hV
  have HA : Hid (UpsAt w ao q) := hA
  have HF : Hid (∀ x, x ∈ q → UvOk w x) := hok
  have HC : Hid (∀ z x, Below w.heap.size w z → x ∈ q → Calls Tryz.prog 89 #[uvVal x, .pointer (some ⟨B, 0, none⟩)] z fun e w' => e = .returned (.bool (P x.u)) ∧ Below z.heap.size z w') := hC
  clear hok hC hA
  go_enter Tryz.func108, Tryz.ntmps108
  go_wp2_with fail
  go_loopw [8] (fun iv wr => ∃ k : Nat, k ≤ q.length ∧ iv = .int .i64 k ∧ Hid ((ups q).any P = ((ups (q.drop k)).any P)) ∧ Below w.heap.size w wr) (fun iv _ => q.length - (intOf iv).toNat)
  case atStart => exact ⟨0, Nat.zero_le _, rfl, rfl, Below.refl _ _⟩
  case round =>
    obtain ⟨k, hk, rfl, HR, hbw⟩ := hrel
    by_cases hlt : k < q.length
    · obtain ⟨b, off, rfl, c0, c1, c2, c3, c4⟩ := ups_at (HA.out.kc (Kc.below hbw)) k hlt
      have HD : Hid ((ups q).any P = (P (uvD q k).u || (ups (q.drop (k + 1))).any P)) := by
        show _ = _
        rw [HR.out, uvD_drop q k hlt]
        rfl
      have hm := uvD_mem q k hlt
      have HX : Hid (Calls Tryz.prog 89 #[uvVal (uvD q k), .pointer (some ⟨B, 0, none⟩)] wr fun e w' => e = .returned (.bool (P (uvD q k).u)) ∧ Below wr.heap.size wr w') := HC.out wr _ hbw hm
      obtain ⟨a1, n1, d1, a2, n2, d2, a3, n3, d3, e1, e2, e3⟩ := (HF.out _ hm).forms
      clear HR hm
      generalize uvD q k = x at *
      generalize P x.u = bx at *
      obtain ⟨⟨⟨ua, un⟩, ps, says, ts⟩, vp, vs, vt⟩ := x
      dsimp only at *
      subst e1 e2 e3
      cases bx
      · go_wp2_with (go_at_call 89; refine Calls.mono HX.out ?_; rintro e z1 ⟨rfl, hg1⟩)
        have hb1 := hbw.trans (hg1.mono hbw.size)
        go_roundw
        case rel => exact ⟨k + 1, hlt, by go_num, HD.out.trans (by rw [Bool.false_or]), hb1⟩
        case measure => simp [intOf]; omega
      · go_wp2_with (go_at_call 89; refine Calls.mono HX.out ?_; rintro e z1 ⟨rfl, hg1⟩)
        go_ret
        exact ⟨k, rfl, by rw [HD.out, decide_eq_true (by omega)]; rfl, hbw.trans (hg1.mono hbw.size)⟩
    · have hdd : decide (k < q.length) = false := decide_eq_false hlt
      have HE : Hid ((ups q).any P = false) := by
        show _ = _
        rw [HR.out, List.drop_of_length_le (by omega)]
        rfl
      go_wp2_with fail
      go_ret
      exact ⟨-1, rfl, by rw [HE.out]; rfl, hbw⟩
set_option maxRecDepth 100000 in
set_option maxHeartbeats 1000000 in
theorem containsA_any (B : Nat) (P : Wr.Up → Bool) (q : List Uv) (v : Value) (w : World) (hV : UpsV w v q) (hl : q.length ≤ 1000) (hok : ∀ x, x ∈ q → UvOk w x) (hC : ∀ z x, Below w.heap.size w z → x ∈ q → Calls Tryz.prog 89 #[uvVal x, .pointer (some ⟨B, 0, none⟩)] z fun e w' => e = .returned (.bool (P x.u)) ∧ Below z.heap.size z w') :
    Calls Tryz.prog 88 #[v, .func (.func 89) #[] #[.pointer (some ⟨B, 0, none⟩)]] w fun e w' => e = .returned (.bool ((ups q).any P)) ∧ Below w.heap.size w w' := by
  have HC : Hid _ := indexA_any B P q v w hV hl hok hC
  obtain ⟨ao, cap, rfl, _⟩ := id hV
  generalize (ups q).any P = bb at *
  clear hV hok hC
  go_enter Tryz.func88, Tryz.ntmps88
  go_wp2_with (go_at_call 108; refine Calls.mono HC.out ?_; rintro e z1 ⟨r, rfl, hr, hg1⟩)
  go_ret
  exact ⟨by rw [← hr]; rfl, hg1⟩
set_option maxRecDepth 100000 in
set_option maxHeartbeats 1000000 in
theorem indexB_any (B : Nat) (P : Wr.Up → Bool) (q : List Uv) (v : Value) (w : World) (hV : UpsV w v q) (hl : q.length ≤ 1000) (hok : ∀ x, x ∈ q → UvOk w x) (hC : ∀ z x, Below w.heap.size w z → x ∈ q → Calls Tryz.prog 90 #[uvVal x, .pointer (some ⟨B, 0, none⟩)] z fun e w' => e = .returned (.bool (P x.u)) ∧ Below z.heap.size z w') :
    Calls Tryz.prog 108 #[v, .func (.func 90) #[] #[.pointer (some ⟨B, 0, none⟩)]] w fun e w' => ∃ r : Int, e = .returned (.int .i64 r) ∧ (decide (0 ≤ r) = (ups q).any P) ∧ Below w.heap.size w w' := by
  obtain ⟨ao, cap, rfl, _, hA⟩ := hV
  have HA : Hid (UpsAt w ao q) := hA
  have HF : Hid (∀ x, x ∈ q → UvOk w x) := hok
  have HC : Hid (∀ z x, Below w.heap.size w z → x ∈ q → Calls Tryz.prog 90 #[uvVal x, .pointer (some ⟨B, 0, none⟩)] z fun e w' => e = .returned (.bool (P x.u)) ∧ Below z.heap.size z w') := hC
  clear hok hC hA
  go_enter Tryz.func108, Tryz.ntmps108
  go_wp2_with fail
  go_loopw [8] (fun iv wr => ∃ k : Nat, k ≤ q.length ∧ iv = .int .i64 k ∧ Hid ((ups q).any P = ((ups (q.drop k)).any P)) ∧ Below w.heap.size w wr) (fun iv _ => q.length - (intOf iv).toNat)
  case atStart => exact ⟨0, Nat.zero_le _, rfl, rfl, Below.refl _ _⟩
  case round =>
    obtain ⟨k, hk, rfl, HR, hbw⟩ := hrel
    by_cases hlt : k < q.length
    · obtain ⟨b, off, rfl, c0, c1, c2, c3, c4⟩ := ups_at (HA.out.kc (Kc.below hbw)) k hlt
      have HD : Hid ((ups q).any P = (P (uvD q k).u || (ups (q.drop (k + 1))).any P)) := by
        show _ = _
        rw [HR.out, uvD_drop q k hlt]
        rfl
      have hm := uvD_mem q k hlt
      have HX : Hid (Calls Tryz.prog 90 #[uvVal (uvD q k), .pointer (some ⟨B, 0, none⟩)] wr fun e w' => e = .returned (.bool (P (uvD q k).u)) ∧ Below wr.heap.size wr w') := HC.out wr _ hbw hm
      obtain ⟨a1, n1, d1, a2, n2, d2, a3, n3, d3, e1, e2, e3⟩ := (HF.out _ hm).forms
      clear HR hm
      generalize uvD q k = x at *
      generalize P x.u = bx at *
      obtain ⟨⟨⟨ua, un⟩, ps, says, ts⟩, vp, vs, vt⟩ := x
      dsimp only at *
      subst e1 e2 e3
      cases bx
      · go_wp2_with (go_at_call 90; refine Calls.mono HX.out ?_; rintro e z1 ⟨rfl, hg1⟩)
        have hb1 := hbw.trans (hg1.mono hbw.size)
        go_roundw
        case rel => exact ⟨k + 1, hlt, by go_num, HD.out.trans (by rw [Bool.false_or]), hb1⟩
        case measure => simp [intOf]; omega
      · go_wp2_with (go_at_call 90; refine Calls.mono HX.out ?_; rintro e z1 ⟨rfl, hg1⟩)
        go_ret
        exact ⟨k, rfl, by rw [HD.out, decide_eq_true (by omega)]; rfl, hbw.trans (hg1.mono hbw.size)⟩
    · have hdd : decide (k < q.length) = false := decide_eq_false hlt
      have HE : Hid ((ups q).any P = false) := by
        show _ = _
        rw [HR.out, List.drop_of_length_le (by omega)]
        rfl
      go_wp2_with fail
      go_ret
      exact ⟨-1, rfl, by rw [HE.out]; rfl, hbw⟩
set_option maxRecDepth 100000 in
set_option maxHeartbeats 1000000 in
theorem containsB_any (B : Nat) (P : Wr.Up → Bool) (q : List Uv) (v : Value) (w : World) (hV : UpsV w v q) (hl : q.length ≤ 1000) (hok : ∀ x, x ∈ q → UvOk w x) (hC : ∀ z x, Below w.heap.size w z → x ∈ q → Calls Tryz.prog 90 #[uvVal x, .pointer (some ⟨B, 0, none⟩)] z fun e w' => e = .returned (.bool (P x.u)) ∧ Below z.heap.size z w') :
    Calls Tryz.prog 88 #[v, .func (.func 90) #[] #[.pointer (some ⟨B, 0, none⟩)]] w fun e w' => e = .returned (.bool ((ups q).any P)) ∧ Below w.heap.size w w' := by
  have HC : Hid _ := indexB_any B P q v w hV hl hok hC
  obtain ⟨ao, cap, rfl, _⟩ := id hV
  generalize (ups q).any P = bb at *
  clear hV hok hC
  go_enter Tryz.func88, Tryz.ntmps88
  go_wp2_with (go_at_call 108; refine Calls.mono HC.out ?_; rintro e z1 ⟨r, rfl, hr, hg1⟩)
  go_ret
  exact ⟨by rw [← hr]; rfl, hg1⟩
set_option maxRecDepth 100000 in
set_option maxHeartbeats 1000000 in
theorem indexC_any (B : Nat) (P : Wr.Up → Bool) (q : List Uv) (v : Value) (w : World) (hV : UpsV w v q) (hl : q.length ≤ 1000) (hok : ∀ x, x ∈ q → UvOk w x) (hC : ∀ z x, Below w.heap.size w z → x ∈ q → Calls Tryz.prog 73 #[.map (some B), uvVal x] z fun e w' => e = .returned (.bool (P x.u)) ∧ Below z.heap.size z w') :
    Calls Tryz.prog 108 #[v, .func (.func 73) #[.map (some B)] #[]] w fun e w' => ∃ r : Int, e = .returned (.int .i64 r) ∧ (decide (0 ≤ r) = (ups q).any P) ∧ Below w.heap.size w w' := by
  obtain ⟨ao, cap, rfl, _, hA⟩ := hV
  have HA : Hid (UpsAt w ao q) := hA
  have HF : Hid (∀ x, x ∈ q → UvOk w x) := hok
  have HC : Hid (∀ z x, Below w.heap.size w z → x ∈ q → Calls Tryz.prog 73 #[.map (some B), uvVal x] z fun e w' => e = .returned (.bool (P x.u)) ∧ Below z.heap.size z w') := hC
  clear hok hC hA
  go_enter Tryz.func108, Tryz.ntmps108
  go_wp2_with fail
  go_loopw [8] (fun iv wr => ∃ k : Nat, k ≤ q.length ∧ iv = .int .i64 k ∧ Hid ((ups q).any P = ((ups (q.drop k)).any P)) ∧ Below w.heap.size w wr) (fun iv _ => q.length - (intOf iv).toNat)
  case atStart => exact ⟨0, Nat.zero_le _, rfl, rfl, Below.refl _ _⟩
  case round =>
    obtain ⟨k, hk, rfl, HR, hbw⟩ := hrel
    by_cases hlt : k < q.length
    · obtain ⟨b, off, rfl, c0, c1, c2, c3, c4⟩ := ups_at (HA.out.kc (Kc.below hbw)) k hlt
      have HD : Hid ((ups q).any P = (P (uvD q k).u || (ups (q.drop (k + 1))).any P)) := by
        show _ = _
        rw [HR.out, uvD_drop q k hlt]
        rfl
      have hm := uvD_mem q k hlt
      have HX : Hid (Calls Tryz.prog 73 #[.map (some B), uvVal (uvD q k)] wr fun e w' => e = .returned (.bool (P (uvD q k).u)) ∧ Below wr.heap.size wr w') := HC.out wr _ hbw hm
      obtain ⟨a1, n1, d1, a2, n2, d2, a3, n3, d3, e1, e2, e3⟩ := (HF.out _ hm).forms
      clear HR hm
      generalize uvD q k = x at *
      generalize P x.u = bx at *
      obtain ⟨⟨⟨ua, un⟩, ps, says, ts⟩, vp, vs, vt⟩ := x
      dsimp only at *
      subst e1 e2 e3
      cases bx
      · go_wp2_with (go_at_call 73; refine Calls.mono HX.out ?_; rintro e z1 ⟨rfl, hg1⟩)
        have hb1 := hbw.trans (hg1.mono hbw.size)
        go_roundw
        case rel => exact ⟨k + 1, hlt, by go_num, HD.out.trans (by rw [Bool.false_or]), hb1⟩
        case measure => simp [intOf]; omega
      · go_wp2_with (go_at_call 73; refine Calls.mono HX.out ?_; rintro e z1 ⟨rfl, hg1⟩)
        go_ret
        exact ⟨k, rfl, by rw [HD.out, decide_eq_true (by omega)]; rfl, hbw.trans (hg1.mono hbw.size)⟩
    · have hdd : decide (k < q.length) = false := decide_eq_false hlt
      have HE : Hid ((ups q).any P = false) := by
        show _ = _
        rw [HR.out, List.drop_of_length_le (by omega)]
        rfl
      go_wp2_with fail
      go_ret
      exact ⟨-1, rfl, by rw [HE.out]; rfl, hbw⟩
set_option maxRecDepth 100000 in
set_option maxHeartbeats 1000000 in
theorem containsC_any (B : Nat) (P : Wr.Up → Bool) (q : List Uv) (v : Value) (w : World) (hV : UpsV w v q) (hl : q.length ≤ 1000) (hok : ∀ x, x ∈ q → UvOk w x) (hC : ∀ z x, Below w.heap.size w z → x ∈ q → Calls Tryz.prog 73 #[.map (some B), uvVal x] z fun e w' => e = .returned (.bool (P x.u)) ∧ Below z.heap.size z w') :
    Calls Tryz.prog 88 #[v, .func (.func 73) #[.map (some B)] #[]] w fun e w' => e = .returned (.bool ((ups q).any P)) ∧ Below w.heap.size w w' := by
  have HC : Hid _ := indexC_any B P q v w hV hl hok hC
  obtain ⟨ao, cap, rfl, _⟩ := id hV
  generalize (ups q).any P = bb at *
  clear hV hok hC
  go_enter Tryz.func88, Tryz.ntmps88
  go_wp2_with (go_at_call 108; refine Calls.mono HC.out ?_; rintro e z1 ⟨r, rfl, hr, hg1⟩)
  go_ret
  exact ⟨by rw [← hr]; rfl, hg1⟩
end Go.Proofs.YtmfaodapofamfaaGreat

/- The order of updates; do they rise? -/
namespace Go.Proofs.YtmfaodapofamfaaGreat
open Go.RowKit Go.Maps

set_option maxRecDepth 100000 in
set_option maxHeartbeats 1000000 in
theorem order_any (x y : Uv) (w w0 : World) (hx : UvOk w0 x) (hy : UvOk w0 y) : Calls Tryz.prog 76 #[uvVal x, uvVal y] w fun e w' => e = .returned (.int .i64 (Dg.uOrd x.u y.u)) ∧ Gr w w' := by
  obtain ⟨a1, n1, d1, a2, n2, d2, a3, n3, d3, e1, e2, e3⟩ := hx.forms
  obtain ⟨b1, m1, f1, b2, m2, f2, b3, m3, f3, g1, g2, g3⟩ := hy.forms
  obtain ⟨⟨⟨ua, un⟩, ps, says, ts⟩, vp, vs, vt⟩ := x
  obtain ⟨⟨⟨xa, xn⟩, ps2, says2, ts2⟩, vp2, vs2, vt2⟩ := y
  dsimp only at *
  subst e1 e2 e3 g1 g2 g3
  clear hx hy
  have HO : Hid (∀ z, Calls Tryz.prog 66 #[idVal ⟨ua, un⟩, idVal ⟨xa, xn⟩] z fun e w' => e = .returned (.int .i64 (Wr.idOrd ⟨ua, un⟩ ⟨xa, xn⟩)) ∧ Gr z w') := fun z => uOrder_any ⟨ua, un⟩ ⟨xa, xn⟩ z
  have HU : Hid (Dg.uOrd ⟨⟨ua, un⟩, ps, says, ts⟩ ⟨⟨xa, xn⟩, ps2, says2, ts2⟩ = Wr.idOrd ⟨ua, un⟩ ⟨xa, xn⟩) := rfl
  generalize Dg.uOrd ⟨⟨ua, un⟩, ps, says, ts⟩ ⟨⟨xa, xn⟩, ps2, says2, ts2⟩ = od at *
  generalize Wr.idOrd ⟨ua, un⟩ ⟨xa, xn⟩ = oe at *
  obtain rfl : od = oe := HU.out
  have HG : Hid (Gr w ((w.alloc (.cells #[.int .i64 ua, .int .i64 un, .slice a1 n1 d1, .slice a2 n2 d2, .slice a3 n3 d3] 30)).alloc (.cells #[.int .i64 xa, .int .i64 xn, .slice b1 m1 f1, .slice b2 m2 f2, .slice b3 m3 f3] 30))) := ((Gr.refl w).alloc _).alloc _
  go_enter Tryz.func76, Tryz.ntmps76
  go_wp2_with (go_at_call 66; refine Calls.mono (HO.out _) ?_; rintro e z1 ⟨rfl, hg1⟩)
  go_ret
  exact ⟨rfl, HG.out.trans hg1⟩
theorem ups_getD (q : List Uv) (i : Nat) : (ups q).getD i uvZ.u = (uvD q i).u := by
  unfold ups uvD
  rw [List.getD_eq_getElem?_getD, List.getD_eq_getElem?_getD, List.getElem?_map]
  cases q[i]? <;> rfl
set_option maxRecDepth 100000 in
set_option maxHeartbeats 2000000 in
theorem RiseU_any (q : List Uv) (v : Value) (w : World) (hV : UpsV w v q) (hl : q.length ≤ 1000) (hok : ∀ x, x ∈ q → UvOk w x) : Calls Tryz.prog 87 #[v, .func (.func 76) #[] #[]] w fun e w' => e = .returned (.bool (Wr.rise Dg.uOrd (ups q))) ∧ Below w.heap.size w w' := by
  obtain ⟨ao, cap, rfl, _, hA⟩ := hV
  have HA : Hid (UpsAt w ao q) := hA
  have HF : Hid (∀ x, x ∈ q → UvOk w x) := hok
  clear hok hA
  go_enter Tryz.func87, Tryz.ntmps87
  go_wp2_with fail
  go_loopw [5] (fun iv wr => ∃ k : Nat, 1 ≤ k ∧ k ≤ q.length + 1 ∧ iv = .int .i64 k ∧ Hid (Wr.rise Dg.uOrd (ups q) = Wr.rise Dg.uOrd ((ups q).drop (k - 1))) ∧ Below w.heap.size w wr) (fun iv _ => q.length + 2 - (intOf iv).toNat)
  case atStart => exact ⟨1, Nat.le_refl _, by omega, rfl, rfl, Below.refl _ _⟩
  case round =>
    obtain ⟨k, hk1, hk, rfl, HR, hbw⟩ := hrel
    obtain ⟨j, hkj⟩ : ∃ j, k = j + 1 := ⟨k - 1, by omega⟩
    by_cases hlt : k < q.length
    · have hltj : j < q.length := by omega
      have hwr : IntKind.i64.wrap ((k : Int) - 1) = (j : Int) := by
        have e : ((k : Int) - 1) = (j : Int) := by omega
        rw [e]
        simp [IntKind.wrap, IntKind.bits, IntKind.signed]
        omega
      have HD : Hid (Wr.rise Dg.uOrd (ups q) = (decide (Dg.uOrd (uvD q j).u (uvD q k).u < 0) && Wr.rise Dg.uOrd ((ups q).drop j.succ))) := by
        show _ = _
        rw [HR.out, hkj, Nat.add_sub_cancel, ← ups_getD, ← ups_getD]
        exact Wr.rise_step Dg.uOrd uvZ.u (ups q) j (by show j + 1 < (q.map Uv.u).length; rw [List.length_map]; omega)
      have HKJ : Hid (k = j + 1) := hkj
      clear hkj
      obtain ⟨b, off, rfl, p0, p1, p2, p3, p4⟩ := ups_at (HA.out.kc (Kc.below hbw)) j hltj
      obtain ⟨b2, off2, hv2, r0, r1, r2, r3, r4⟩ := ups_at (HA.out.kc (Kc.below hbw)) k hlt
      injection hv2 with hv2
      injection hv2 with hb2 ho2 _
      subst hb2 ho2
      have hx := HF.out _ (uvD_mem q j hltj)
      have hy := HF.out _ (uvD_mem q k hlt)
      have HN : Hid (∀ z, Below wr.heap.size wr z → Calls Tryz.prog 76 #[uvVal (uvD q j), uvVal (uvD q k)] z fun e w' => e = .returned (.int .i64 (Dg.uOrd (uvD q j).u (uvD q k).u)) ∧ Below wr.heap.size wr w' ∧ UpIn w' b (off + j * 5) (uvD q j) ∧ UpIn w' b (off + k * 5) (uvD q k)) := by
        intro z hz
        refine (order_any (uvD q j) (uvD q k) z w hx hy).mono ?_
        rintro e w' ⟨h1, h2⟩
        have h3 := hz.trans (h2.below.mono hz.size)
        exact ⟨h1, h3, (Kc.below h3).up ⟨p0, p1, p2, p3, p4⟩, (Kc.below h3).up ⟨r0, r1, r2, r3, r4⟩⟩
      obtain ⟨a1, n1, d1, a2, n2, d2, a3, n3, d3, e1, e2, e3⟩ := hx.forms
      obtain ⟨b1, m1, f1, b2, m2, f2, b3, m3, f3, g1, g2, g3⟩ := hy.forms
      clear HR hx hy
      generalize hod : Dg.uOrd (uvD q j).u (uvD q k).u = od at *
      clear hod
      generalize uvD q j = x at *
      generalize uvD q k = y at *
      obtain ⟨⟨⟨ua, un⟩, ps, says, ts⟩, vp, vs, vt⟩ := x
      obtain ⟨⟨⟨xa, xn⟩, ps2, says2, ts2⟩, vp2, vs2, vt2⟩ := y
      unfold UpIn at HN
      dsimp only at *
      subst e1 e2 e3 g1 g2 g3
      have HGA : ∀ b o, Below wr.heap.size wr b → Below wr.heap.size wr (b.alloc o) := fun _ o h => h.alloc h.size o
      have HGD : ∀ b, Below wr.heap.size wr b → Below wr.heap.size wr b.drew := fun _ h => ⟨h.os, h.tape, h.output, h.size, h.block⟩
      have HGR : Below wr.heap.size wr wr := Below.refl _ _
      by_cases ho : 0 ≤ od
      · have hod : decide (0 ≤ od) = true := decide_eq_true ho
        have HE : Hid (Wr.rise Dg.uOrd (ups q) = false) := by
          show _ = _
          rw [HD.out, decide_eq_false (by omega)]
          rfl
        clear HD
        go_upto_region 4 with fail
        go_region_held3 (fun yy => yy.cell? ⟨b, off + j * 5, none⟩ = some (.int .i64 ua) ∧ yy.cell? ⟨b, off + j * 5 + 1, none⟩ = some (.int .i64 un) ∧ yy.cell? ⟨b, off + j * 5 + 2, none⟩ = some (.slice a1 n1 d1) ∧ yy.cell? ⟨b, off + j * 5 + 3, none⟩ = some (.slice a2 n2 d2) ∧ yy.cell? ⟨b, off + j * 5 + 4, none⟩ = some (.slice a3 n3 d3) ∧ yy.cell? ⟨b, off + k * 5, none⟩ = some (.int .i64 xa) ∧ yy.cell? ⟨b, off + k * 5 + 1, none⟩ = some (.int .i64 xn) ∧ yy.cell? ⟨b, off + k * 5 + 2, none⟩ = some (.slice b1 m1 f1) ∧ yy.cell? ⟨b, off + k * 5 + 3, none⟩ = some (.slice b2 m2 f2) ∧ yy.cell? ⟨b, off + k * 5 + 4, none⟩ = some (.slice b3 m3 f3) ∧ Below wr.heap.size wr yy) (go_keep) (
          (go_at_call 76; refine Calls.mono (HN.out _ ?_) ?_; (simp [*]); rintro e w2 ⟨rfl, hb2, ⟨z0, z1, z2, z3, z4⟩, s0, s1, s2, s3, s4⟩))
        clear HGA HGD HGR HN z0 z1 z2 z3 z4 s0 s1 s2 s3 s4 p0 p1 p2 p3 p4 r0 r1 r2 r3 r4
        have hb3 := hbw.trans (hb2.mono hbw.size)
        clear hb2 hbw
        go_wp2_with fail
        go_ret
        exact ⟨by rw [HE.out]; rfl, hb3⟩
      · have hod : decide (0 ≤ od) = false := decide_eq_false ho
        have HE : Hid (Wr.rise Dg.uOrd (ups q) = Wr.rise Dg.uOrd ((ups q).drop k)) := by
          show _ = _
          rw [HD.out, decide_eq_true (by omega), Bool.true_and, HKJ.out]
        clear HD
        go_upto_region 4 with fail
        go_region_held3 (fun yy => yy.cell? ⟨b, off + j * 5, none⟩ = some (.int .i64 ua) ∧ yy.cell? ⟨b, off + j * 5 + 1, none⟩ = some (.int .i64 un) ∧ yy.cell? ⟨b, off + j * 5 + 2, none⟩ = some (.slice a1 n1 d1) ∧ yy.cell? ⟨b, off + j * 5 + 3, none⟩ = some (.slice a2 n2 d2) ∧ yy.cell? ⟨b, off + j * 5 + 4, none⟩ = some (.slice a3 n3 d3) ∧ yy.cell? ⟨b, off + k * 5, none⟩ = some (.int .i64 xa) ∧ yy.cell? ⟨b, off + k * 5 + 1, none⟩ = some (.int .i64 xn) ∧ yy.cell? ⟨b, off + k * 5 + 2, none⟩ = some (.slice b1 m1 f1) ∧ yy.cell? ⟨b, off + k * 5 + 3, none⟩ = some (.slice b2 m2 f2) ∧ yy.cell? ⟨b, off + k * 5 + 4, none⟩ = some (.slice b3 m3 f3) ∧ Below wr.heap.size wr yy) (go_keep) (
          (go_at_call 76; refine Calls.mono (HN.out _ ?_) ?_; (simp [*]); rintro e w2 ⟨rfl, hb2, ⟨z0, z1, z2, z3, z4⟩, s0, s1, s2, s3, s4⟩))
        clear HGA HGD HGR HN z0 z1 z2 z3 z4 s0 s1 s2 s3 s4 p0 p1 p2 p3 p4 r0 r1 r2 r3 r4
        have hb3 := hbw.trans (hb2.mono hbw.size)
        clear hb2 hbw
        go_wp2_with fail
        go_roundw
        case rel => exact ⟨k + 1, by omega, by omega, by go_num, HE.out, hb3⟩
        case measure => simp [intOf]; omega
    · have hltI : decide (k < q.length) = false := decide_eq_false hlt
      have HE : Hid (Wr.rise Dg.uOrd (ups q) = true) := HR.out.trans (Wr.rise_end Dg.uOrd (ups q) (k - 1) (by show ¬ k - 1 + 1 < (q.map Uv.u).length; rw [List.length_map]; omega))
      go_wp2_with fail
      go_ret
      exact ⟨by rw [HE.out]; rfl, hbw⟩
end Go.Proofs.YtmfaodapofamfaaGreat

