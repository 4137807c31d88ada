/- Own texts, one behind the other (part 6). -/
import Derived.Test.YtmfaodapofamfaaBundleE
import Derived.Test.YtmfaodapofamfaaRows
import Derived.WideKeyEntry
/- Maps that count ids. -/
namespace Go.Proofs.Ytmfaodapofamfaa
open Go.RowKit Go.Maps

set_option maxRecDepth 100000
theorem idKey : WideMaps.KeyLaw Try.prog 30 := deep_law_laid idLaid (m := 5) (by decide) (by decide) (by kernel_rfl) (by rw [Try.underlying30])
theorem intZero (w : World) : (zeroValue 3).run Try.prog w = .ok (.int .i64 0) w := by kernel_rfl
/-- A map's datum that tells how often each of these ids was named. -/
def NmD (L : List Wr.Id) (D : DataW Unit) : Prop := ∀ x, Wr.isId x = true → D.atKey (keyLit x) (.lit (.int .i64 0)) = .lit (.int .i64 (L.count x))
def NmAt (w : World) (B : Nat) (L : List Wr.Id) : Prop := ∃ D : DataW Unit, w.ownsMap Try.prog 30 (plainElem Try.prog 3) B L.length D ∧ NmD L D
theorem NmAt.below {w w' : World} {B : Nat} {L : List Wr.Id} (h : NmAt w B L) (hb : Below w.heap.size w w') : NmAt w' B L := by
  obtain ⟨D, ⟨es, clock, h1, h2, h3, h4⟩, hN⟩ := h
  exact ⟨D, ⟨es, clock, (hb.block _ (Array.getElem?_eq_some_iff.mp h1).1).trans h1, h2, h3, h4⟩, hN⟩
theorem nmAt_made (w : World) : NmAt (w.alloc (.map #[] 0)) w.heap.size [] := ⟨_, World.ownsMap_made _ _ _ _, fun _ _ => rfl⟩
/-- 'named[x]' read. -/
theorem NmAt.look {w : World} {B : Nat} {L : List Wr.Id} (h : NmAt w B L) {x : Wr.Id} (hx : Wr.isId x = true) : (Instr.lookup 109 (.map (some B)) (idVal x) false).run Try.prog w = .ok (.int .i64 (L.count x)) w := by
  obtain ⟨D, h1, h2⟩ := h
  obtain ⟨c, r1, r2, _⟩ := h1.lookup_int idLaw Try.underlying109 Try.underlying3 (intZero w) (keyOf_id hx)
  rw [h2 x hx] at r2
  have : c = (L.count x : Int) := by simpa using r2.symm
  rw [← this]
  exact r1
theorem setBlock_twice (w : World) (b : Nat) (o o' : Obj) : ChangeMaps.setBlock (ChangeMaps.setBlock w b o) b o' = ChangeMaps.setBlock w b o' := by
  unfold ChangeMaps.setBlock
  simp
theorem setBlock_self {w : World} {b : Nat} {o : Obj} (h : w.heap[b]? = some o) : ChangeMaps.setBlock w b o = w := by
  obtain ⟨hb, rfl⟩ := Array.getElem?_eq_some_iff.mp h
  have e : w.heap.setIfInBounds b w.heap[b] = w.heap := by
    apply Array.ext (by simp)
    intro i h1 h2
    rw [Array.getElem_setIfInBounds]
    split
    · rename_i hbi
      subst hbi
      rfl
    · rfl
  show { w with heap := w.heap.setIfInBounds b w.heap[b] } = w
  rw [e]
/-- 'named[x]++': what the three operations do. -/
theorem NmAt.inc {w : World} {B : Nat} {L : List Wr.Id} (h : NmAt w B L) (hl : L.length ≤ 1000000) {x : Wr.Id} (hx : Wr.isId x = true) :
    ∃ (v0 : Value) (st : Nat) (w1 w2 : World), (Instr.mapEntry 109 (.map (some B)) (idVal x)).run Try.prog w = .ok (.tuple #[v0, .int .i64 st]) w1 ∧ (Instr.lookup 109 (.map (some B)) (idVal x) false).run Try.prog w1 = .ok (.int .i64 (L.count x)) w1 ∧
      (Instr.entryStore 109 (.map (some B)) (.int .i64 st) (.int .i64 ((L.count x : Int) + 1))).run Try.prog w1 = .ok () w2 ∧ NmAt w2 B (L ++ [x]) ∧ w.grownBy w2 (some B) := by
  have hlook := h.look hx
  obtain ⟨D, hown, hD⟩ := h
  have hT := hown.tidy idLaw
  have hcnt : L.count x ≤ L.length := List.count_le_length
  obtain ⟨es, clock, hb, F, hs, rfl⟩ := id hown
  obtain ⟨v0, st, es1, clock1, r1, hv0, hstore⟩ := WideElems.entry_then_store idKey Try.underlying109 (z := .int .i64 0) intZero hb F (keyOf_id hx)
  have hb1 : (ChangeMaps.setBlock w B (.map es1 clock1)).heap[B]? = some (.map es1 clock1) := ChangeMaps.heap_setBlock_same hb _
  obtain ⟨es', clock', r3, r4⟩ := hstore (ChangeMaps.setBlock w B (.map es1 clock1)) (.int .i64 ((L.count x : Int) + 1)) hb1
  -- what a plain store would leave
  obtain ⟨w', q1, q2, q3⟩ := hown.update idLaw Try.underlying109 (by unfold maxLen; omega) (keyOf_id hx) (plainElem_int (a := (L.count x : Int) + 1) Try.underlying3 (WalkArith.wf_i64 (by omega)))
  rw [r4] at q1
  have hw' : w' = ChangeMaps.setBlock w B (.map es' clock') := by injection q1 with _ e; exact e.symm
  have hss : ChangeMaps.setBlock (ChangeMaps.setBlock w B (.map es1 clock1)) B (.map es' clock') = w' := by
    rw [hw', setBlock_twice]
  have hlk : (Instr.lookup 109 (.map (some B)) (idVal x) false).run Try.prog (ChangeMaps.setBlock w B (.map es1 clock1)) = .ok (.int .i64 (L.count x)) (ChangeMaps.setBlock w B (.map es1 clock1)) := by
    rcases idKey.find w (keyOf_id hx) es.toList F.keys with ⟨f1, f2⟩ | ⟨j, e0, f1, f2, f3⟩
    · -- it was not there: nought is there now
      have m1 : (Instr.mapEntry 109 (.map (some B)) (idVal x)).run Try.prog w = .ok (.tuple #[.int .i64 0, goInt clock]) (ChangeMaps.setBlock w B (.map (es.push ⟨idVal x, .int .i64 0, clock⟩) (clock + 1))) := by
        simp [Instr.mapEntry, run_underlying Try.underlying109, MapKept.run_getObj_map hb, idKey.check w false (keyOf_id hx), f1, MapKept.run_setObj_map _ hb, Result.andThen, ChangeMaps.setBlock]
      have m2 : (Instr.mapUpdate 109 (.map (some B)) (idVal x) (.int .i64 0)).run Try.prog w = .ok () (ChangeMaps.setBlock w B (.map (es.push ⟨idVal x, .int .i64 0, clock⟩) (clock + 1))) := by
        simp [Instr.mapUpdate, run_underlying Try.underlying109, MapKept.run_getObj_map hb, idKey.check w false (keyOf_id hx), f1, MapKept.run_setObj_map _ hb, ChangeMaps.setBlock]
      rw [m1] at r1
      have e1 : ChangeMaps.setBlock w B (.map es1 clock1) = ChangeMaps.setBlock w B (.map (es.push ⟨idVal x, .int .i64 0, clock⟩) (clock + 1)) := by injection r1 with _ e; exact e.symm
      obtain ⟨w9, p1, p2, _⟩ := hown.update idLaw Try.underlying109 (by unfold maxLen; omega) (keyOf_id hx) (plainElem_int (a := 0) Try.underlying3 (by decide))
      rw [m2] at p1
      have e2 : w9 = ChangeMaps.setBlock w B (.map es1 clock1) := by rw [e1]; injection p1 with _ e; exact e.symm
      rw [← e2]
      obtain ⟨c, g1, g2, _⟩ := p2.lookup_int idLaw Try.underlying109 Try.underlying3 (intZero w9) (keyOf_id hx)
      rw [atKey_put_same hT.isMap (keyLit_is _)] at g2
      have hc0 : c = 0 := by simpa using g2.symm
      have hcn : (L.count x : Int) = 0 := by
        have l1 := hlook
        have l2 : (Instr.lookup 109 (.map (some B)) (idVal x) false).run Try.prog w = .ok (.int .i64 0) w := by
          simp [Instr.lookup, run_underlying Try.underlying109, MapKept.run_getObj_map hb, idKey.check w es.isEmpty (keyOf_id hx), f1]
        rw [l2] at l1
        injection l1 with l1 _
        injection l1 with _ l1
        exact l1.symm
      rw [hcn, ← hc0]
      exact g1
    · -- it was there: nothing has turned
      have hj : es[j]? = some e0 := by simpa using f2
      have hsame : es.modify j (fun e => { e with key := idVal x }) = es := by
        apply Array.ext'
        rw [Array.toList_modify]
        apply List.ext_getElem?
        intro i
        rw [List.getElem?_modify]
        by_cases hij : j = i
        · subst hij
          rw [f2]
          simp [← f3]
        · simp [hij]
      have m1 : (Instr.mapEntry 109 (.map (some B)) (idVal x)).run Try.prog w = .ok (.tuple #[e0.val, goInt e0.born]) (ChangeMaps.setBlock w B (.map es clock)) := by
        simp [Instr.mapEntry, run_underlying Try.underlying109, MapKept.run_getObj_map hb, idKey.check w false (keyOf_id hx), f1, hj, f3, idKey.stays w (keyOf_id hx), hsame, MapKept.run_setObj_map _ hb, Result.andThen, ChangeMaps.setBlock]
      rw [m1] at r1
      have e1 : ChangeMaps.setBlock w B (.map es1 clock1) = w := by
        have e : ChangeMaps.setBlock w B (.map es1 clock1) = ChangeMaps.setBlock w B (.map es clock) := by injection r1 with _ e; exact e.symm
        rw [e, setBlock_self hb]
      rw [e1]
      exact hlook
  refine ⟨v0, st, ChangeMaps.setBlock w B (.map es1 clock1), w', r1, hlk, ?_, ?_, q3⟩
  · rw [← hss]; exact r3
  · refine ⟨_, by rw [List.length_append]; exact q2, fun y hy => ?_⟩
    rw [List.count_append]
    by_cases e : y = x
    · subst e
      rw [atKey_put_same hT.isMap (keyLit_is _)]
      simp
    · rw [atKey_put_other (fun e2 => e (keyLit_inj hy hx e2)), hD y hy]
      have : List.count y [x] = 0 := by rw [List.count_eq_zero]; simp; exact e
      rw [this]
      rfl
end Go.Proofs.Ytmfaodapofamfaa

/- Package slices: DeleteFunc of updates, by what is named. -/
namespace Go.Proofs.Ytmfaodapofamfaa
open Go.RowKit Go.Maps

theorem row_cutU {w : World} {B g cap n : Nat} {xs : List Value} {q : List Uv} (h : w.ownsRow B 34 5 (.slice (some ⟨g, 0, none⟩) n cap) n xs) (hn : q.length ≤ n) (hq : ∀ j, j < q.length * 5 → xs[j]? = ((q.map uvCells).flatten)[j]?) : UGRow w B g cap q := by
  obtain ⟨h1, h2⟩ := h
  rcases h2 with ⟨h2, _⟩ | ⟨g', cap', cur, hv, hb, hh, hc1, hc2, hc3, hc4⟩
  · cases h2
  · injection hv with e1 _ e3
    injection e1 with e1
    injection e1 with e1
    subst e1 e3
    refine ⟨ups_flat _, .inr ⟨g, cap, cur, rfl, hb, hh, by omega, hc2, hc3, ?_⟩⟩
    apply List.ext_getElem?
    intro t
    rw [List.getElem?_take]
    by_cases ht : t < q.length * 5
    · rw [if_pos ht, ← hq t ht, ← hc4, List.getElem?_take, if_pos (by omega)]
    · rw [if_neg ht, List.getElem?_eq_none]
      rw [ups_flat]
      omega
/-- What is behind the first ones is cleared. -/
theorem clear_rowU (w : World) (B g cap : Nat) (q : List Uv) (k : Nat) (h : UGRow w B g cap q) (hk : k < q.length) :
    ∃ w', (∀ ty, (Builtin.clear_ #[22] ty #[.slice (some ⟨g, k * 5, none⟩) (q.length - k) (cap - k)]).run Try.prog w = .ok (.tuple #[]) w') ∧ UGRow w' B g cap (q.take k) ∧ w.grownBy w' (some g) := by
  obtain ⟨m, hm⟩ : ∃ m, q.length - k = m + 1 := ⟨q.length - k - 1, by omega⟩
  obtain ⟨vs, hvs⟩ : ∃ vs, vs = (Builtin.zeroCells (Value.agg #[.int .i64 0, .int .i64 0, .slice none 0 0, .slice none 0 0, .slice none 0 0]).cells (m + 1)).toList := ⟨_, rfl⟩
  have hlen : vs.length = (m + 1) * 5 := by rw [hvs]; simp [Builtin.zeroCells, Value.cells]
  have hone : ∀ v ∈ vs, v.oneCell' = true := by
    intro v hv
    rw [hvs] at hv
    simp [Builtin.zeroCells, Value.cells] at hv
    obtain ⟨a, ha, rfl⟩ := hv
    have h5 : a % 5 = 0 ∨ a % 5 = 1 ∨ a % 5 = 2 ∨ a % 5 = 3 ∨ a % 5 = 4 := by omega
    rcases h5 with h2 | h2 | h2 | h2 | h2
    · simp [h2]; rfl
    · simp [h2]; rfl
    · simp [h2]; rfl
    · simp [h2]; rfl
    · simp [h2]; rfl
  have hst := run_storeCells_cells (P := Try.prog) g (k * 5) vs 0 w (by
    intro j hj
    rw [hlen] at hj
    have hc := World.ownsRow.cellAt h (k * 5 + j) (by omega)
    obtain ⟨x, hx, hx2⟩ := uc_at q (k * 5 + j) (by omega)
    rw [Nat.add_zero, hc, hx2, List.getElem?_eq_getElem (show (k * 5 + j) % 5 < (uvCells x).length by show _ < 5; omega)]
    rfl) (by intro j _; exact World.ownsRow.frozenAt h _) hone
  simp only [Nat.add_zero] at hst
  obtain ⟨ys, a1, a2, a3, a4⟩ := own_sets vs (k * 5) w _ h
  refine ⟨w.setCells g (k * 5) vs, ?_, row_cutU (q := q.take k) a3 (by rw [List.length_take]; omega) (fun j hj => ?_), a4⟩
  · intro ty
    have hz : ∀ w, (zeroValue 34).run Try.prog w = .ok (.agg #[.int .i64 0, .int .i64 0, .slice none 0 0, .slice none 0 0, .slice none 0 0]) w := fun w => by kernel_rfl
    rw [hm]
    simp [Builtin.clear_, run_underlying Try.underlying22, hz, ← hvs, hst]
  · rw [List.length_take] at hj
    rw [a2 j (by omega)]
    obtain ⟨x, hx, hx2⟩ := uc_at q j (by omega)
    obtain ⟨z, hz, hz2⟩ := uc_at (q.take k) j (by rw [List.length_take]; omega)
    rw [List.getElem?_take, if_pos (by omega), hx] at hz
    obtain rfl : x = z := by simpa using hz
    rw [hx2, hz2]

set_option maxRecDepth 100000 in
set_option maxHeartbeats 1000000 in
theorem named1_any (B NB : Nat) (L : List Wr.Id) (x : Uv) (w w0 : World) (hM : NmAt w B L) (hbx : w.cell? ⟨NB, 0, none⟩ = some (.map (some B))) (hx : UvOk w0 x) (hi : Wr.isId x.u.id = true) :
    Calls Try.prog 71 #[uvVal x, .pointer (some ⟨NB, 0, none⟩)] w fun e w' => e = .returned (.bool (decide (0 < L.count x.u.id))) ∧ Below w.heap.size w w' := by
  obtain ⟨a1, n1, d1, a2, n2, d2, a3, n3, d3, e1, e2, e3⟩ := hx.forms
  obtain ⟨⟨⟨ua, un⟩, ps, says, ts⟩, vp, vs, vt⟩ := x
  dsimp only at *
  subst e1 e2 e3
  have HB1 : Hid (Below w.heap.size w (w.alloc (.cells #[.int .i64 ua, .int .i64 un, .slice a1 n1 d1, .slice a2 n2 d2, .slice a3 n3 d3] 34))) := (Below.refl _ _).alloc (Nat.le_refl _) _
  have c9 : (w.alloc (.cells #[.int .i64 ua, .int .i64 un, .slice a1 n1 d1, .slice a2 n2 d2, .slice a3 n3 d3] 34)).cell? ⟨NB, 0, none⟩ = some (.map (some B)) := cell_below HB1.out hbx
  have hlk := (hM.below HB1.out).look hi
  clear hM hx hi
  go_enter Try.func71, Try.ntmps71
  go_wp2_with fail
  go_ret
  refine ⟨?_, HB1.out⟩
  simp
set_option maxRecDepth 100000 in
set_option maxHeartbeats 1000000 in
theorem indexD_any (NB : Nat) (P : Wr.Up → Bool) (q : List Uv) (v : Value) (w : World) (hV : UpsV w v q) (hl : q.length ≤ 1000) (hok : ∀ x, x ∈ q → UvOk w x) (hC : ∀ z x, Below w.heap.size w z → x ∈ q → Calls Try.prog 71 #[uvVal x, .pointer (some ⟨NB, 0, none⟩)] z fun e w' => e = .returned (.bool (P x.u)) ∧ Below z.heap.size z w') :
    Calls Try.prog 68 #[v, .func (.func 71) #[] #[.pointer (some ⟨NB, 0, none⟩)]] w fun e w' => ((e = .returned (.int .i64 (-1)) ∧ (∀ x, x ∈ q → P x.u = false)) ∨ ∃ k : Nat, e = .returned (.int .i64 k) ∧ k < q.length ∧ P (uvD q k).u = true ∧ ∀ x, x ∈ q.take k → P x.u = false) ∧ Below w.heap.size w w' := by
  obtain ⟨ao, cap, rfl, _, hA⟩ := hV
  have HA : Hid (UpsAt w ao q) := hA
  have HF : Hid (∀ x, x ∈ q → UvOk w x) := hok
  have HC : Hid (∀ z x, Below w.heap.size w z → x ∈ q → Calls Try.prog 71 #[uvVal x, .pointer (some ⟨NB, 0, none⟩)] z fun e w' => e = .returned (.bool (P x.u)) ∧ Below z.heap.size z w') := hC
  clear hok hC hA
  go_enter Try.func68, Try.ntmps68
  go_wp2_with fail
  go_loopw [8] (fun iv wr => ∃ k : Nat, k ≤ q.length ∧ iv = .int .i64 k ∧ Hid (∀ x, x ∈ q.take k → P x.u = false) ∧ Below w.heap.size w wr) (fun iv _ => q.length - (intOf iv).toNat)
  case atStart => exact ⟨0, Nat.zero_le _, rfl, fun x hx => absurd hx (by simp), Below.refl _ _⟩
  case round =>
    obtain ⟨k, hk, rfl, HR, hbw⟩ := hrel
    by_cases hlt : k < q.length
    · obtain ⟨b, off, rfl, c0, c1, c2, c3, c4⟩ := ups_at (HA.out.kc (Kc.below hbw)) k hlt
      have hm := uvD_mem q k hlt
      have HX : Hid (Calls Try.prog 71 #[uvVal (uvD q k), .pointer (some ⟨NB, 0, none⟩)] wr fun e w' => e = .returned (.bool (P (uvD q k).u)) ∧ Below wr.heap.size wr w') := HC.out wr _ hbw hm
      have HT : Hid (P (uvD q k).u = false → ∀ x, x ∈ q.take (k + 1) → P x.u = false) := fun h x hx => by
        rw [uvD_take q k hlt] at hx
        rcases List.mem_append.mp hx with hx | hx
        · exact HR.out x hx
        · rw [List.mem_singleton.mp hx]; exact h
      have HPK : Hid (∀ b, P (uvD q k).u = b → P (uvD q k).u = b) := fun _ h => h
      obtain ⟨a1, n1, d1, a2, n2, d2, a3, n3, d3, e1, e2, e3⟩ := (HF.out _ hm).forms
      have HUV : Hid (uvD q k = uvD q k) := rfl
      cases hbx : P (uvD q k).u
      · rw [hbx] at HX
        have HT2 : Hid _ := HT.out hbx
        clear HT HPK hbx HUV hm
        generalize uvD q k = x at *
        obtain ⟨⟨⟨ua, un⟩, ps, says, ts⟩, vp, vs, vt⟩ := x
        dsimp only at *
        subst e1 e2 e3
        go_wp2_with (go_at_call 71; refine Calls.mono HX.out ?_; rintro e z1 ⟨rfl, hg1⟩)
        have hb1 := hbw.trans (hg1.mono hbw.size)
        go_roundw
        case rel => exact ⟨k + 1, hlt, by go_num, HT2.out, hb1⟩
        case measure => simp [intOf]; omega
      · rw [hbx] at HX
        have HPT : Hid (P (uvD q k).u = true) := hbx
        clear HT HPK hbx HUV hm
        generalize hxe : uvD q k = x at *
        have HXE : Hid (uvD q k = x) := hxe
        clear hxe
        obtain ⟨⟨⟨ua, un⟩, ps, says, ts⟩, vp, vs, vt⟩ := x
        dsimp only at *
        subst e1 e2 e3
        go_wp2_with (go_at_call 71; refine Calls.mono HX.out ?_; rintro e z1 ⟨rfl, hg1⟩)
        go_ret
        exact ⟨.inr ⟨k, rfl, hlt, by rw [HXE.out]; exact HPT.out, HR.out⟩, hbw.trans (hg1.mono hbw.size)⟩
    · have hdd : decide (k < q.length) = false := decide_eq_false hlt
      have HE : Hid (∀ x, x ∈ q → P x.u = false) := fun x hx => HR.out x (by rw [List.take_of_length_le (by omega)]; exact hx)
      go_wp2_with fail
      go_ret
      exact ⟨.inl ⟨rfl, HE.out⟩, hbw⟩
/-- What is left of updates. -/
def keepU (P : Wr.Up → Bool) (q : List Uv) : List Uv := q.filter (fun x => !P x.u)
theorem keepU_all {P : Wr.Up → Bool} {q : List Uv} (h : ∀ x, x ∈ q → P x.u = false) : keepU P q = q := List.filter_eq_self.mpr fun x hx => by rw [h x hx]; rfl
theorem keepU_snoc (P : Wr.Up → Bool) (q : List Uv) (x : Uv) : keepU P (q ++ [x]) = if P x.u = true then keepU P q else keepU P q ++ [x] := by
  unfold keepU
  rw [List.filter_append]
  cases h : P x.u <;> simp [h]
theorem keepU_len (P : Wr.Up → Bool) (q : List Uv) : (keepU P q).length ≤ q.length := List.length_filter_le _ _
end Go.Proofs.Ytmfaodapofamfaa

/- Package slices: DeleteFunc of updates. -/
namespace Go.Proofs.Ytmfaodapofamfaa
open Go.RowKit Go.Maps

set_option maxRecDepth 100000 in
set_option maxHeartbeats 4000000 in
theorem delete_any (NB : Nat) (P : Wr.Up → Bool) (q : List Uv) (v : Value) (w0 w : World) (hb0 : Below w0.heap.size w0 w) (hrow : URow w w0.heap.size v q) (hl : q.length ≤ 1000) (hok : ∀ x, x ∈ q → UvOk w0 x) (hC : ∀ z x, Below w0.heap.size w0 z → x ∈ q → Calls Try.prog 71 #[uvVal x, .pointer (some ⟨NB, 0, none⟩)] z fun e w' => e = .returned (.bool (P x.u)) ∧ Below z.heap.size z w') :
    Calls Try.prog 69 #[v, .func (.func 71) #[] #[.pointer (some ⟨NB, 0, none⟩)]] w fun e w' => ∃ v', e = .returned v' ∧ URow w' w0.heap.size v' (keepU P q) ∧ Below w0.heap.size w0 w' := by
  have HI : Hid (Calls Try.prog 68 #[v, .func (.func 71) #[] #[.pointer (some ⟨NB, 0, none⟩)]] w fun e w' => ((e = .returned (.int .i64 (-1)) ∧ (∀ x, x ∈ q → P x.u = false)) ∨ ∃ k : Nat, e = .returned (.int .i64 k) ∧ k < q.length ∧ P (uvD q k).u = true ∧ ∀ x, x ∈ q.take k → P x.u = false) ∧ Below w.heap.size w w') := indexD_any NB P q v w (own_ups hrow) hl (fun x hx => (hok x hx).below hb0) (fun z x hz hx => hC z x (hb0.trans (hz.mono hb0.size)) hx)
  have HO : Hid (∀ x, x ∈ q → UvOk w0 x) := hok
  have HC : Hid (∀ z x, Below w0.heap.size w0 z → x ∈ q → Calls Try.prog 71 #[uvVal x, .pointer (some ⟨NB, 0, none⟩)] z fun e w' => e = .returned (.bool (P x.u)) ∧ Below z.heap.size z w') := hC
  obtain ⟨av, cap, rfl⟩ := own_slice hrow
  clear hok hC
  go_enter Try.func69, Try.ntmps69
  go_wp2_with fail
  refine Calls.mono HI.out ?_
  rintro e w1 ⟨⟨rfl, hall⟩ | ⟨k, rfl, hk, hpk, htk⟩, hb1⟩
  · have HK : Hid (keepU P q = q) := keepU_all hall
    have HR1 : Hid (URow w1 w0.heap.size (.slice av q.length cap) q) := ownsRow_below hrow hb1
    have HB1 : Hid (Below w0.heap.size w0 w1) := hb0.trans (hb1.mono hb0.size)
    clear hall hrow HI hb1 hb0
    go_wp2_with fail
    go_ret
    exact ⟨_, rfl, by rw [HK.out]; exact HR1.out, HB1.out⟩
  · obtain ⟨g, rfl⟩ : ∃ g, av = some ⟨g, 0, none⟩ := by
      rcases ownsRow_forms9 hrow with ⟨_, h0⟩ | ⟨g, c, hv⟩
      · omega
      · injection hv with hv
        exact ⟨g, hv⟩
    have hcap : q.length ≤ cap := by
      obtain ⟨_, _, e9, h9, _⟩ := own_cells hrow
      injection e9 with _ _ e9
      omega
    have hrow1 := ownsRow_below hrow hb1
    have hbw1 := hb0.trans (hb1.mono hb0.size)
    have HST : Hid (q.take k = keepU P (q.take (k + 1))) := by
      show _ = _
      rw [uvD_take q k hk, keepU_snoc, if_pos hpk, keepU_all htk]
    have gne : ((k : Int) == -1) = false := by
      have : ¬ (k : Int) = -1 := by omega
      exact beq_false_of_ne this
    have hkl := hk
    clear hpk htk HI hrow hb1 hb0
    go_wp2_with fail
    go_loopw [5, 6] (fun iv jv wr => ∃ (i j : Nat) (R : List Uv), i < j ∧ j ≤ q.length ∧ iv = .int .i64 i ∧ jv = .int .i64 j ∧ R.length = q.length ∧ wr.ownsRow w0.heap.size 34 5 (.slice (some ⟨g, 0, none⟩) q.length cap) q.length (R.map uvCells).flatten ∧ Hid (R.take i = keepU P (q.take j)) ∧ Hid (R.drop j = q.drop j) ∧ Hid (∀ x, x ∈ R → x ∈ q) ∧ Below w0.heap.size w0 wr) (fun _ jv _ => q.length - (intOf jv).toNat)
    case atStart => exact ⟨k, k + 1, q, by omega, by omega, rfl, by go_num, rfl, hrow1, HST.out, rfl, fun _ h => h, hbw1⟩
    case round =>
      clear hrow1 hbw1 HST gne
      obtain ⟨i, j, R, hij, hj, rfl, rfl, hRl, hrow, HTK, HDR, HMQ, hb⟩ := hrel
      have HRL : Hid (R.length = q.length) := hRl
      have hglt : w0.heap.size ≤ g := (hrow.lt g rfl).1
      clear hRl
      have hrow : UGRow wr w0.heap.size g cap R := by
        unfold UGRow
        rw [HRL.out]
        exact hrow
      by_cases hlt : j < q.length
      · have hin := row_in hrow (m := j) (by rw [HRL.out]; exact hlt)
        have hRj : uvD R j = uvD q j := by
          have h1 : R[j]? = q[j]? := by
            have := congrArg (fun l => l[0]?) HDR.out
            simpa using this
          unfold uvD
          rw [List.getD_eq_getElem?_getD, List.getD_eq_getElem?_getD, h1]
        rw [hRj] at hin
        have hmem := uvD_mem q j hlt
        have hxo := HO.out _ hmem
        have HTJ : Hid (q.take (j + 1) = q.take j ++ [uvD q j]) := uvD_take q j hlt
        have HCX : Hid (∀ z, Below w0.heap.size w0 z → Calls Try.prog 71 #[uvVal (uvD q j), .pointer (some ⟨NB, 0, none⟩)] z fun e w' => e = .returned (.bool (P (uvD q j).u)) ∧ Below z.heap.size z w') := fun z hz => HC.out z _ hz hmem
        have HDR2 : Hid (R.drop (j + 1) = q.drop (j + 1)) := by
          show _ = _
          have := congrArg (List.drop 1) HDR.out
          rw [List.drop_drop, List.drop_drop] at this
          exact this
        have HKS : Hid (keepU P (q.take (j + 1)) = if P (uvD q j).u = true then keepU P (q.take j) else keepU P (q.take j) ++ [uvD q j]) := by
          show _ = _
          rw [HTJ.out, keepU_snoc]
        clear hRj HTJ HDR
        have HMX : Hid (uvD q j ∈ q) := hmem
        clear hmem
        generalize uvD q j = x at *
        obtain ⟨b1, m1, f1, b2, m2, f2, b3, m3, f3, o1, o2, o3⟩ := hxo.forms
        obtain ⟨⟨⟨xa, xn⟩, ps, says, ts⟩, vp, vs, vt⟩ := x
        dsimp only at *
        subst o1 o2 o3
        obtain ⟨c0, c1, c2, c3, c4⟩ := id hin
        dsimp only at c0 c1 c2 c3 c4
        have hsz := hb.size
        have HBN : Hid (Below w0.heap.size w0 (wr.alloc (.cells #[.int .i64 xa, .int .i64 xn, .slice b1 m1 f1, .slice b2 m2 f2, .slice b3 m3 f3] 34))) := hb.alloc hsz _
        have HBW : Hid (Below wr.heap.size wr (wr.alloc (.cells #[.int .i64 xa, .int .i64 xn, .slice b1 m1 f1, .slice b2 m2 f2, .slice b3 m3 f3] 34))) := (Below.refl _ _).alloc (Nat.le_refl _) _
        have HNW : Hid ((wr.alloc (.cells #[.int .i64 xa, .int .i64 xn, .slice b1 m1 f1, .slice b2 m2 f2, .slice b3 m3 f3] 34)).heap[wr.heap.size]? = some (.cells #[.int .i64 xa, .int .i64 xn, .slice b1 m1 f1, .slice b2 m2 f2, .slice b3 m3 f3] 34)) := rl_new wr _
        cases hpx : P ⟨⟨xa, xn⟩, ps, says, ts⟩
        · -- it stays
          rw [hpx] at HCX
          have hKS := HKS.out
          rw [hpx] at hKS
          go_upto_region 9 with (go_at_call 71; refine Calls.mono (HCX.out _ HBN.out) ?_; rintro e z1 ⟨rfl, hg1⟩)
          have hb1 := HBW.out.trans (hg1.mono HBW.out.size)
          have hB1 := HBN.out.trans (hg1.mono HBN.out.size)
          have hnw := (hg1.block _ (by simp)).trans HNW.out
          have k0 : z1.cell? ⟨wr.heap.size, 0, none⟩ = some (.int .i64 xa) := by rw [Lib.cell_of_heap hnw]; rfl
          have k1' : z1.cell? ⟨wr.heap.size, 1, none⟩ = some (.int .i64 xn) := by rw [Lib.cell_of_heap hnw]; rfl
          have k2' : z1.cell? ⟨wr.heap.size, 2, none⟩ = some (.slice b1 m1 f1) := by rw [Lib.cell_of_heap hnw]; rfl
          have k3' : z1.cell? ⟨wr.heap.size, 3, none⟩ = some (.slice b2 m2 f2) := by rw [Lib.cell_of_heap hnw]; rfl
          have k4' : z1.cell? ⟨wr.heap.size, 4, none⟩ = some (.slice b3 m3 f3) := by rw [Lib.cell_of_heap hnw]; rfl
          have hrow7 := ownsRow_below hrow hb1
          have hiR : i < R.length := by rw [HRL.out]; omega
          have hr7 := row_in hrow7 (m := i) hiR
          have hyq := HO.out _ (HMQ.out _ (uvD_mem R i hiR))
          obtain ⟨e1, l1, k1, e2, l2, k2, e3, l3, k3, y1, y2, y3⟩ := hyq.forms
          generalize uvD R i = y at *
          obtain ⟨⟨⟨ya, yn⟩, ps9, says9, ts9⟩, vp9, vs9, vt9⟩ := y
          dsimp only at *
          subst y1 y2 y3
          dsimp only [UpIn] at hr7
          have rz0 : (z1).cell? ⟨g, i * 5, none⟩ = some (.int .i64 ya) := by exact hr7.1
          have ry0 : (z1).frozen? ⟨g, i * 5, none⟩ = false := by exact World.ownsRow.frozenAt hrow7 _
          have rz1 : ((z1).setCell ⟨g, i * 5, none⟩ (.int .i64 xa)).cell? ⟨g, i * 5 + 1, none⟩ = some (.int .i64 yn) := by rw [cell_set_ne _ (by omega)]; exact hr7.2.1
          have ry1 : ((z1).setCell ⟨g, i * 5, none⟩ (.int .i64 xa)).frozen? ⟨g, i * 5 + 1, none⟩ = false := by rw [World.frozen?_setCell]; exact World.ownsRow.frozenAt hrow7 _
          have rz2 : (((z1).setCell ⟨g, i * 5, none⟩ (.int .i64 xa)).setCell ⟨g, i * 5 + 1, none⟩ (.int .i64 xn)).cell? ⟨g, i * 5 + 2, none⟩ = some (.slice e1 l1 k1) := by rw [cell_set_ne _ (by omega)]; rw [cell_set_ne _ (by omega)]; exact hr7.2.2.1
          have ry2 : (((z1).setCell ⟨g, i * 5, none⟩ (.int .i64 xa)).setCell ⟨g, i * 5 + 1, none⟩ (.int .i64 xn)).frozen? ⟨g, i * 5 + 2, none⟩ = false := by rw [World.frozen?_setCell]; rw [World.frozen?_setCell]; exact World.ownsRow.frozenAt hrow7 _
          have rz3 : ((((z1).setCell ⟨g, i * 5, none⟩ (.int .i64 xa)).setCell ⟨g, i * 5 + 1, none⟩ (.int .i64 xn)).setCell ⟨g, i * 5 + 2, none⟩ (.slice b1 m1 f1)).cell? ⟨g, i * 5 + 3, none⟩ = some (.slice e2 l2 k2) := by rw [cell_set_ne _ (by omega)]; rw [cell_set_ne _ (by omega)]; rw [cell_set_ne _ (by omega)]; exact hr7.2.2.2.1
          have ry3 : ((((z1).setCell ⟨g, i * 5, none⟩ (.int .i64 xa)).setCell ⟨g, i * 5 + 1, none⟩ (.int .i64 xn)).setCell ⟨g, i * 5 + 2, none⟩ (.slice b1 m1 f1)).frozen? ⟨g, i * 5 + 3, none⟩ = false := by rw [World.frozen?_setCell]; rw [World.frozen?_setCell]; rw [World.frozen?_setCell]; exact World.ownsRow.frozenAt hrow7 _
          have rz4 : (((((z1).setCell ⟨g, i * 5, none⟩ (.int .i64 xa)).setCell ⟨g, i * 5 + 1, none⟩ (.int .i64 xn)).setCell ⟨g, i * 5 + 2, none⟩ (.slice b1 m1 f1)).setCell ⟨g, i * 5 + 3, none⟩ (.slice b2 m2 f2)).cell? ⟨g, i * 5 + 4, none⟩ = some (.slice e3 l3 k3) := by rw [cell_set_ne _ (by omega)]; rw [cell_set_ne _ (by omega)]; rw [cell_set_ne _ (by omega)]; rw [cell_set_ne _ (by omega)]; exact hr7.2.2.2.2
          have ry4 : (((((z1).setCell ⟨g, i * 5, none⟩ (.int .i64 xa)).setCell ⟨g, i * 5 + 1, none⟩ (.int .i64 xn)).setCell ⟨g, i * 5 + 2, none⟩ (.slice b1 m1 f1)).setCell ⟨g, i * 5 + 3, none⟩ (.slice b2 m2 f2)).frozen? ⟨g, i * 5 + 4, none⟩ = false := by rw [World.frozen?_setCell]; rw [World.frozen?_setCell]; rw [World.frozen?_setCell]; rw [World.frozen?_setCell]; exact World.ownsRow.frozenAt hrow7 _
          have hput : UGRow ((((((z1).setCell ⟨g, i * 5, none⟩ (.int .i64 xa)).setCell ⟨g, i * 5 + 1, none⟩ (.int .i64 xn)).setCell ⟨g, i * 5 + 2, none⟩ (.slice b1 m1 f1)).setCell ⟨g, i * 5 + 3, none⟩ (.slice b2 m2 f2)).setCell ⟨g, i * 5 + 4, none⟩ (.slice b3 m3 f3)) w0.heap.size g cap (R.set i ⟨⟨⟨xa, xn⟩, ps, says, ts⟩, .slice b1 m1 f1, .slice b2 m2 f2, .slice b3 m3 f3⟩) := by
            unfold UGRow
            rw [List.length_set, flat5_set R i _ hiR]
            exact (World.ownsRow.stored (World.ownsRow.stored (World.ownsRow.stored (World.ownsRow.stored (World.ownsRow.stored hrow7 (i * 5) _).1 (i * 5 + 1) _).1 (i * 5 + 2) _).1 (i * 5 + 3) _).1 (i * 5 + 4) _).1
          have HGR : Hid (z1.grownBy ((((((z1).setCell ⟨g, i * 5, none⟩ (.int .i64 xa)).setCell ⟨g, i * 5 + 1, none⟩ (.int .i64 xn)).setCell ⟨g, i * 5 + 2, none⟩ (.slice b1 m1 f1)).setCell ⟨g, i * 5 + 3, none⟩ (.slice b2 m2 f2)).setCell ⟨g, i * 5 + 4, none⟩ (.slice b3 m3 f3)) (some g)) := ((((grown_set z1 _ _ _).trans_row (grown_set _ _ _ _)).trans_row (grown_set _ _ _ _)).trans_row (grown_set _ _ _ _)).trans_row (grown_set _ _ _ _)
          have HB8 : Hid (Below w0.heap.size w0 ((((((z1).setCell ⟨g, i * 5, none⟩ (.int .i64 xa)).setCell ⟨g, i * 5 + 1, none⟩ (.int .i64 xn)).setCell ⟨g, i * 5 + 2, none⟩ (.slice b1 m1 f1)).setCell ⟨g, i * 5 + 3, none⟩ (.slice b2 m2 f2)).setCell ⟨g, i * 5 + 4, none⟩ (.slice b3 m3 f3))) := hB1.grown HGR.out hB1.size (fun k e => by cases e; exact hglt)
          have HPUT : Hid (((((((z1).setCell ⟨g, i * 5, none⟩ (.int .i64 xa)).setCell ⟨g, i * 5 + 1, none⟩ (.int .i64 xn)).setCell ⟨g, i * 5 + 2, none⟩ (.slice b1 m1 f1)).setCell ⟨g, i * 5 + 3, none⟩ (.slice b2 m2 f2)).setCell ⟨g, i * 5 + 4, none⟩ (.slice b3 m3 f3)).ownsRow w0.heap.size 34 5 (.slice (some ⟨g, 0, none⟩) q.length cap) q.length ((R.set i ⟨⟨⟨xa, xn⟩, ps, says, ts⟩, .slice b1 m1 f1, .slice b2 m2 f2, .slice b3 m3 f3⟩).map uvCells).flatten) := by
            have h9 := hput
            unfold UGRow at h9
            rw [List.length_set, HRL.out] at h9
            exact h9
          have HT2 : Hid ((R.set i ⟨⟨⟨xa, xn⟩, ps, says, ts⟩, .slice b1 m1 f1, .slice b2 m2 f2, .slice b3 m3 f3⟩).take (i + 1) = keepU P (q.take (j + 1))) := by
            show _ = _
            rw [hKS]
            simp only [Bool.false_eq_true, if_false]
            rw [← HTK.out, List.take_add_one, List.take_set_of_le (Nat.le_refl _), List.getElem?_set, if_pos rfl, if_pos hiR]
            rfl
          have HD3 : Hid ((R.set i ⟨⟨⟨xa, xn⟩, ps, says, ts⟩, .slice b1 m1 f1, .slice b2 m2 f2, .slice b3 m3 f3⟩).drop (j + 1) = q.drop (j + 1)) := by
            show _ = _
            rw [List.drop_set, if_pos (by omega)]
            exact HDR2.out
          have HM3 : Hid (∀ x, x ∈ R.set i ⟨⟨⟨xa, xn⟩, ps, says, ts⟩, .slice b1 m1 f1, .slice b2 m2 f2, .slice b3 m3 f3⟩ → x ∈ q) := fun x hx => by
            rcases List.mem_or_eq_of_mem_set hx with h | h
            · exact HMQ.out x h
            · rw [h]; exact HMX.out
          clear hrow hb hrow7 hput hin hr7 HTK HKS hKS HCX hnw hyq hg1 hb1 hB1 c0 c1 c2 c3 c4
          go_wp2_with fail
          go_roundw
          case rel => exact ⟨i + 1, j + 1, R.set i ⟨⟨⟨xa, xn⟩, ps, says, ts⟩, .slice b1 m1 f1, .slice b2 m2 f2, .slice b3 m3 f3⟩, by omega, by omega, by go_num, by go_num, by rw [List.length_set]; exact HRL.out, HPUT.out, HT2.out, HD3.out, HM3.out, HB8.out⟩
          case measure => simp [intOf]; omega
        · rw [hpx] at HCX
          have hKS := HKS.out
          rw [hpx] at hKS
          have HT2 : Hid (R.take i = keepU P (q.take (j + 1))) := by
            show _ = _
            rw [hKS, HTK.out]
            rfl
          have HROW : Hid (∀ z, Below wr.heap.size wr z → z.ownsRow w0.heap.size 34 5 (.slice (some ⟨g, 0, none⟩) q.length cap) q.length (R.map uvCells).flatten) := fun z hz => by
            have h9 := ownsRow_below hrow hz
            rw [HRL.out] at h9
            exact h9
          clear HKS hKS HTK hin hrow
          go_wp2_with (go_at_call 71; refine Calls.mono (HCX.out _ HBN.out) ?_; rintro e z1 ⟨rfl, hg1⟩)
          have HR1 : Hid _ := HROW.out z1 (HBW.out.trans (hg1.mono HBW.out.size))
          have HB8 : Hid (Below w0.heap.size w0 z1) := HBN.out.trans (hg1.mono HBN.out.size)
          clear HROW hg1 HCX
          go_roundw
          case rel => exact ⟨i, j + 1, R, by omega, by omega, rfl, by go_num, HRL.out, HR1.out, HT2.out, HDR2.out, HMQ.out, HB8.out⟩
          case measure => simp [intOf]; omega
      · obtain rfl : j = q.length := by omega
        obtain ⟨w9, hcl, hrow9, hgr⟩ := clear_rowU wr w0.heap.size g cap R i hrow (by rw [HRL.out]; omega)
        rw [HRL.out] at hcl
        have HKQ : Hid (R.take i = keepU P q) := by
          show _ = _
          rw [HTK.out, List.take_length]
        have HLN : Hid ((keepU P q).length = i) := by
          show _ = _
          rw [← HKQ.out, List.length_take, HRL.out]
          omega
        have HFN : Hid (URow w9 w0.heap.size (.slice (some ⟨g, 0, none⟩) i cap) (keepU P q) ∧ Below w0.heap.size w0 w9) := by
          refine ⟨?_, hb.grown hgr hb.size (fun k e => by cases e; exact hglt)⟩
          have h9 := hrow9
          unfold UGRow at h9
          rw [HKQ.out, HLN.out] at h9
          show World.ownsRow _ _ _ _ _ _ _
          rw [HLN.out]
          exact h9
        clear hrow hrow9 hgr HTK HKQ hb
        have hiq : i ≤ q.length := by omega
        have hic : i ≤ cap := by omega
        have hjj : decide (q.length < q.length) = false := by simp
        go_wp2_with fail
        go_ret
        exact ⟨_, rfl, HFN.out.1, HFN.out.2⟩
end Go.Proofs.Ytmfaodapofamfaa

/- Package dag: unnamed. -/
namespace Go.Proofs.Ytmfaodapofamfaa
open Go.RowKit Go.Maps

theorem flatMap_take {α β : Type} (f : α → List β) (q : List α) (k : Nat) (x : α) (h : q.take (k + 1) = q.take k ++ [x]) : (q.take (k + 1)).flatMap f = (q.take k).flatMap f ++ f x := by
  rw [h, List.flatMap_append]
  simp
theorem ids_take {l : List Wr.Id} {k : Nat} (hk : k < l.length) : l.take (k + 1) = l.take k ++ [idD l k] := by
  rw [List.take_succ_eq_append_getElem hk]
  simp [idD, List.getD_eq_getElem?_getD, hk]
theorem flat_len {q : List Uv} {f : Uv → List Wr.Id} (h : ∀ x, x ∈ q → (f x).length ≤ 6) : ∀ k, ((q.take k).flatMap f).length ≤ k * 6 := by
  intro k
  induction k with
  | zero => simp
  | succ k ih =>
    by_cases hk : k < q.length
    · rw [flatMap_take f q k _ (uvD_take q k hk), List.length_append]
      have := h _ (uvD_mem q k hk)
      omega
    · have e : q.take (k + 1) = q.take k := by rw [List.take_of_length_le (by omega), List.take_of_length_le (by omega)]
      rw [e]
      omega

set_option maxRecDepth 100000 in
set_option maxHeartbeats 1000000 in
theorem namesP_any (x : Uv) (w w0 : World) (hx : UvOk w0 x) : Calls Try.prog 55 #[uvVal x] w fun e w' => e = .returned x.p ∧ Below w.heap.size w w' := by
  obtain ⟨a1, n1, d1, a2, n2, d2, a3, n3, d3, e1, e2, e3⟩ := hx.forms
  obtain ⟨⟨⟨ua, un⟩, ps, says, ts⟩, vp, vs, vt⟩ := x
  dsimp only at *
  subst e1 e2 e3
  have HB1 : Hid (Below w.heap.size w (w.alloc (.cells #[.int .i64 ua, .int .i64 un, .slice a1 n1 d1, .slice a2 n2 d2, .slice a3 n3 d3] 34))) := (Below.refl _ _).alloc (Nat.le_refl _) _
  clear hx
  go_enter Try.func55, Try.ntmps55
  go_wp2_with fail
  go_ret
  exact ⟨rfl, HB1.out⟩
set_option maxRecDepth 100000 in
set_option maxHeartbeats 4000000 in
theorem unnamedP_any (q : List Uv) (v : Value) (w : World) (hV : UpsV w v q) (hl : q.length ≤ 1000) (hok : ∀ x, x ∈ q → UvOk w x) (hid : ∀ x, x ∈ q → IdsOk x.u) :
    Calls Try.prog 54 #[v, .func (.func 55) #[] #[]] w fun e w' => ∃ v', e = .returned v' ∧ URow w' w.heap.size v' (keepU (fun u => decide (0 < (q.flatMap (fun x => x.u.ps)).count u.id)) q) ∧ Below w.heap.size w w' := by
  have HO : Hid (∀ x, x ∈ q → UvOk w x ∧ IdsOk x.u) := fun x hx => ⟨hok x hx, hid x hx⟩
  have HV : Hid (UpsV w v q) := hV
  have HLF : Hid (∀ k, ((q.take k).flatMap (fun x => x.u.ps)).length ≤ k * 6) := flat_len (fun x hx => (hid x hx).lp)
  obtain ⟨ao, cap, rfl, _, hA⟩ := hV
  have HA : Hid (UpsAt w ao q) := hA
  clear hok hid hA
  have hmm := @run_makeMap Try.prog
  have hbm : Below w.heap.size w ((w.alloc (.map #[] 0)).alloc (.cells #[.map (some w.heap.size)] 109)) := ((Below.refl _ _).alloc (Nat.le_refl _) _).alloc (by simp) _
  have hs2 : ((w.alloc (.map #[] 0)).alloc (.cells #[.map (some w.heap.size)] 109)).heap.size = w.heap.size + 2 := by simp
  have hx2 : ((w.alloc (.map #[] 0)).alloc (.cells #[.map (some w.heap.size)] 109)).heap[w.heap.size + 1]? = some (.cells #[.map (some w.heap.size)] 109) := by
    have := rl_new (w.alloc (.map #[] 0)) (.cells #[.map (some w.heap.size)] 109)
    rw [World.size_alloc] at this
    exact this
  have hn2 : NmAt ((w.alloc (.map #[] 0)).alloc (.cells #[.map (some w.heap.size)] 109)) w.heap.size [] := (nmAt_made w).below ((Below.refl _ _).alloc (Nat.le_refl _) _)
  go_enter Try.func54, Try.ntmps54
  go_upto_region 2 with fail
  generalize (w.alloc (.map #[] 0)).alloc (.cells #[.map (some w.heap.size)] 109) = w2 at *
  go_wp2_with fail
  clear hmm
  go_loopw [13] (fun iv wr => ∃ k : Nat, k ≤ q.length ∧ iv = .int .i64 k ∧ Hid (NmAt wr w.heap.size ((q.take k).flatMap (fun x => x.u.ps))) ∧ Hid (wr.heap[w.heap.size + 1]? = some (.cells #[.map (some w.heap.size)] 109)) ∧ Below w.heap.size w wr) (fun iv _ => q.length - (intOf iv).toNat)
  case atStart => exact ⟨0, Nat.zero_le _, rfl, hn2, hx2, hbm⟩
  case round =>
    clear hn2 hx2 hbm hs2
    obtain ⟨k, hk, rfl, HN, HX, hbw⟩ := hrel
    by_cases hlt : k < q.length
    · obtain ⟨b, off, rfl, c0, c1, c2, c3, c4⟩ := ups_at (HA.out.kc (Kc.below hbw)) k hlt
      have hmem := uvD_mem q k hlt
      have hxo := HO.out _ hmem
      have HFT : Hid ((q.take (k + 1)).flatMap (fun x => x.u.ps) = (q.take k).flatMap (fun x => x.u.ps) ++ (uvD q k).u.ps) := flatMap_take (fun x : Uv => x.u.ps) q k _ (uvD_take q k hlt)
      have hlen := HLF.out k
      generalize (q.take k).flatMap (fun x => x.u.ps) = L0 at *
      have HNM : Hid (∀ z, Calls Try.prog 55 #[uvVal (uvD q k)] z fun e w' => e = .returned (uvD q k).p ∧ Below z.heap.size z w') := fun z => namesP_any _ z w hxo.1
      have HIV : Hid (IdsV w (uvD q k).p (uvD q k).u.ps) := hxo.1.p
      have HII : Hid (∀ y, y ∈ (uvD q k).u.ps → Wr.isId y = true) := hxo.2.ps
      have hl6 : (uvD q k).u.ps.length ≤ 6 := hxo.2.lp
      obtain ⟨a1, n1, d1, a2, n2, d2, a3, n3, d3, e1, e2, e3⟩ := hxo.1.forms
      obtain ⟨ia, ic, hie, _, _⟩ := hxo.1.p
      clear hxo hmem
      generalize uvD q k = x at *
      obtain ⟨⟨⟨ua, un⟩, ps, says, ts⟩, vp, vs, vt⟩ := x
      dsimp only at *
      subst e1 e2 e3
      injection hie with hie1 hie2 hie3
      subst hie1 hie2 hie3
      have HB1 : Hid (Below wr.heap.size wr (wr.alloc (.cells #[.int .i64 ua, .int .i64 un, .slice a1 ps.length d1, .slice a2 n2 d2, .slice a3 n3 d3] 34))) := (Below.refl _ _).alloc (Nat.le_refl _) _
      go_upto_region 6 with (go_at_call 55; refine Calls.mono (HNM.out _) ?_; rintro e w3 ⟨rfl, hb3⟩)
      have hb13 := HB1.out.trans (hb3.mono HB1.out.size)
      have hbw3 := hbw.trans (hb13.mono hbw.size)
      have HN3 : Hid (NmAt w3 w.heap.size L0) := HN.out.below hb13
      have HX3 : Hid (w3.heap[w.heap.size + 1]? = some (.cells #[.map (some w.heap.size)] 109)) := (hb13.block _ (Array.getElem?_eq_some_iff.1 HX.out).1).trans HX.out
      clear HN HX c0 c1 c2 c3 c4 HB1 hb3 hb13 hbw HNM
      go_loopw [21] (fun iv wr => ∃ m : Nat, m ≤ ps.length ∧ iv = .int .i64 m ∧ Hid (NmAt wr w.heap.size (L0 ++ ps.take m)) ∧ Hid (wr.heap[w.heap.size + 1]? = some (.cells #[.map (some w.heap.size)] 109)) ∧ Below w.heap.size w wr) (fun iv _ => ps.length - (intOf iv).toNat)
      case atStart => exact ⟨0, Nat.zero_le _, rfl, by rw [List.take_zero, List.append_nil]; exact HN3.out, HX3.out, hbw3⟩
      case round =>
        clear HN3 HX3 hbw3
        obtain ⟨m, hm, rfl, HN, HX, hbw⟩ := hrel
        by_cases hmt : m < ps.length
        · obtain ⟨_, _, e9, _, hA9⟩ := idsV_below HIV.out hbw
          cases e9
          obtain ⟨b9, off9, rfl, c0, c1⟩ := ids_at hA9 m hmt
          have hyi := HII.out (idD ps m) (by simp [idD, hmt])
          have HTM : Hid (L0 ++ ps.take (m + 1) = (L0 ++ ps.take m) ++ [idD ps m]) := by
            show _ = _
            rw [ids_take hmt, List.append_assoc]
          have hlm : (L0 ++ ps.take m).length ≤ 1000000 := by rw [List.length_append, List.length_take]; omega
          generalize L0 ++ ps.take m = L1 at *
          generalize idD ps m = y at *
          obtain ⟨ya, yn⟩ := y
          dsimp only at c0 c1
          have hbA : Below wr.heap.size wr (wr.alloc (.cells #[.int .i64 ya, .int .i64 yn] 30)) := (Below.refl _ _).alloc (Nat.le_refl _) _
          have hsw := hbw.size
          have HBA : Hid (Below w.heap.size w (wr.alloc (.cells #[.int .i64 ya, .int .i64 yn] 30))) := hbw.alloc hsw _
          have HNA : Hid (NmAt (wr.alloc (.cells #[.int .i64 ya, .int .i64 yn] 30)) w.heap.size L1) := HN.out.below hbA
          have HXA : Hid ((wr.alloc (.cells #[.int .i64 ya, .int .i64 yn] 30)).heap[w.heap.size + 1]? = some (.cells #[.map (some w.heap.size)] 109)) := (hbA.block _ (Array.getElem?_eq_some_iff.1 HX.out).1).trans HX.out
          have HYA : Hid ((wr.alloc (.cells #[.int .i64 ya, .int .i64 yn] 30)).heap[wr.heap.size]? = some (.cells #[.int .i64 ya, .int .i64 yn] 30)) := rl_new wr _
          go_upto_region 8 with fail
          generalize wr.heap.size = yb at *
          generalize wr.alloc (.cells #[.int .i64 ya, .int .i64 yn] 30) = w4 at *
          clear c0 c1 HN HX hbw hbA hsw
          have hnd : NmAt w4.drew w.heap.size L1 := HNA.out.below ⟨rfl, rfl, rfl, Nat.le_refl _, fun _ _ => rfl⟩
          have hlk := hnd.look hyi
          obtain ⟨v0, st, w5, w6, hen, hlk2, hst, hn6, hg6⟩ := hnd.inc hlm hyi
          have d0 : w4.drew.cell? ⟨w.heap.size + 1, 0, none⟩ = some (.map (some w.heap.size)) := by show w4.cell? _ = _; rw [Lib.cell_of_heap HXA.out]; rfl
          have d1' : w4.drew.cell? ⟨yb, 0, none⟩ = some (.int .i64 ya) := by show w4.cell? _ = _; rw [Lib.cell_of_heap HYA.out]; rfl
          have d2' : w4.drew.cell? ⟨yb, 1, none⟩ = some (.int .i64 yn) := by show w4.cell? _ = _; rw [Lib.cell_of_heap HYA.out]; rfl
          have HN6 : Hid (NmAt w6 w.heap.size (L1 ++ [⟨ya, yn⟩])) := hn6
          have HG6 : Hid (Below w.heap.size w w6) := HBA.out.grown ⟨hg6.os, hg6.tape, hg6.output, hg6.size, hg6.block⟩ HBA.out.size (fun j e => by cases e; exact Nat.le_refl _)
          have HX6 : Hid (w6.heap[w.heap.size + 1]? = some (.cells #[.map (some w.heap.size)] 109)) := (hg6.block _ (Array.getElem?_eq_some_iff.1 HXA.out).1 (fun e => by injection e; omega)).trans HXA.out
          have hcw : IntKind.i64.wrap ((L1.count ⟨ya, yn⟩ : Int) + 1) = (L1.count ⟨ya, yn⟩ : Int) + 1 := by
            have : L1.count ⟨ya, yn⟩ ≤ L1.length := List.count_le_length
            simp [IntKind.wrap, IntKind.bits, IntKind.signed]
            omega
          clear hnd hn6 hg6 HNA HBA HXA HYA
          generalize (L1.count ⟨ya, yn⟩ : Int) = cc at *
          go_region
          all_goals (
            go_wp2_with fail
            go_roundw
            case rel => exact ⟨m + 1, hmt, by go_num, by rw [HTM.out]; exact HN6.out, HX6.out, HG6.out⟩
            case measure => simp [intOf]; omega)
        · have hdd : decide (m < ps.length) = false := decide_eq_false hmt
          obtain rfl : m = ps.length := by omega
          have HNE : Hid (NmAt wr w.heap.size ((q.take (k + 1)).flatMap (fun x => x.u.ps))) := by
            have h9 := HN.out
            rw [List.take_length, ← HFT.out] at h9
            exact h9
          clear HN
          go_wp2_with fail
          go_roundw
          case rel => exact ⟨k + 1, hlt, by go_num, HNE.out, HX.out, hbw⟩
          case measure => simp [intOf]; omega
    · have hdd : decide (k < q.length) = false := decide_eq_false hlt
      obtain rfl : k = q.length := by omega
      have hne := HN.out
      rw [List.take_length] at hne
      have HNE : Hid (NmAt wr w.heap.size (q.flatMap (fun x => x.u.ps))) := hne
      have HCL : Hid (Calls Try.prog 70 #[.slice ao q.length cap] wr fun e w' => ∃ v', e = .returned v' ∧ URow w' wr.heap.size v' q ∧ Below wr.heap.size wr w') := cloneUps_any q _ wr (HV.out.kc (Kc.below hbw)) (fun x hx => (HO.out x hx).1.below hbw) hl
      have HBW : Hid (Below w.heap.size w wr) := hbw
      clear hne HN hbw
      go_wp2_with fail
      refine Calls.mono HCL.out ?_
      rintro e w7 ⟨v7, rfl, hr7, hb7⟩
      have HDD : Hid (Calls Try.prog 69 #[v7, .func (.func 71) #[] #[.pointer (some ⟨w.heap.size + 1, 0, none⟩)]] w7 fun e w' => ∃ v', e = .returned v' ∧ URow w' wr.heap.size v' (keepU (fun u => decide (0 < (q.flatMap (fun x => x.u.ps)).count u.id)) q) ∧ Below wr.heap.size wr w') :=
        delete_any (w.heap.size + 1) _ q v7 wr w7 hb7 hr7 hl (fun x hx => (HO.out x hx).1.below HBW.out) (fun z x hz hx => named1_any w.heap.size (w.heap.size + 1) _ x z w (HNE.out.below hz) (by rw [Lib.cell_of_heap ((hz.block _ (Array.getElem?_eq_some_iff.1 HX.out).1).trans HX.out)]; rfl) (HO.out x hx).1 (HO.out x hx).2.id)
      obtain ⟨a7, c7, rfl⟩ := own_slice hr7
      clear hr7 hb7 HCL
      go_wp2_with fail
      refine Calls.mono HDD.out ?_
      rintro e w8 ⟨v8, rfl, hr8, hb8⟩
      obtain ⟨qk, HKK⟩ : ∃ qk, Hid (keepU (fun u => decide (0 < (q.flatMap (fun x => x.u.ps)).count u.id)) q = qk) := ⟨_, rfl⟩
      rw [HKK.out] at hr8
      obtain ⟨a8, c8, rfl⟩ := own_slice hr8
      have HR8 : Hid (URow w8 w.heap.size (.slice a8 qk.length c8) qk) := rl_own_le (base' := w.heap.size) hr8 HBW.out.size
      have HB8 : Hid (Below w.heap.size w w8) := HBW.out.trans (hb8.mono HBW.out.size)
      clear hr8 hb8 HDD
      go_wp2_with fail
      go_ret
      exact ⟨_, rfl, by rw [HKK.out]; exact HR8.out, HB8.out⟩

end Go.Proofs.Ytmfaodapofamfaa

/- Package dag: Heads and Facts. -/
namespace Go.Proofs.Ytmfaodapofamfaa
open Go.RowKit Go.Maps

namespace Dg
/-- Is it named by one of them? -/
def named (f : Wr.Up → List Wr.Id) (h : List Wr.Up) (u : Wr.Up) : Bool := h.any fun v => Wr.has (f v) u.id
def free (f : Wr.Up → List Wr.Id) (h : List Wr.Up) : List Wr.Up := h.filter fun u => !named f h u
def heads (h : List Wr.Up) : List Wr.Id := (free Wr.Up.ps h).map Wr.Up.id
/-- Something, if nothing is wrong. -/
def ifOk {α : Type} (e : Int) (l : List α) : List α := if e = 0 then l else []
theorem ifOk_ok {α : Type} {e : Int} (h : e = 0) (l : List α) : ifOk e l = l := if_pos h
theorem ifOk_no {α : Type} {e : Int} (h : ¬ e = 0) (l : List α) : ifOk e l = [] := if_neg h
end Dg
theorem named_count (f : Wr.Up → List Wr.Id) (q : List Uv) (u : Wr.Up) : decide (0 < (q.flatMap (fun x => f x.u)).count u.id) = Dg.named f (ups q) u := by
  have h : (0 < (q.flatMap (fun x => f x.u)).count u.id) ↔ Dg.named f (ups q) u = true := by
    rw [List.count_pos_iff]
    unfold Dg.named ups
    rw [List.mem_flatMap, List.any_map, List.any_eq_true]
    constructor
    · rintro ⟨x, hx, h⟩
      exact ⟨x, hx, by unfold Wr.has; simpa using h⟩
    · rintro ⟨x, hx, h⟩
      exact ⟨x, hx, by unfold Wr.has at h; simpa using h⟩
  cases hb : Dg.named f (ups q) u with
  | true => exact decide_eq_true (h.mpr hb)
  | false => exact decide_eq_false (fun e => by rw [h.mp e] at hb; cases hb)
theorem ups_keep (P : Wr.Up → Bool) (q : List Uv) : ups (keepU P q) = (ups q).filter (fun u => !P u) := by
  unfold ups keepU
  rw [List.filter_map]
  rfl
theorem ups_free (f : Wr.Up → List Wr.Id) (q : List Uv) : ups (keepU (fun u => decide (0 < (q.flatMap (fun x => f x.u)).count u.id)) q) = Dg.free f (ups q) := by
  rw [ups_keep]
  unfold Dg.free
  congr 1
  funext u
  rw [named_count f q u]
theorem keepU_mem {P : Wr.Up → Bool} {q : List Uv} {x : Uv} (h : x ∈ keepU P q) : x ∈ q := (List.mem_filter.mp h).1

set_option maxRecDepth 100000 in
set_option maxHeartbeats 4000000 in
theorem Heads_any (hq wq : List Uv) (hv wv : Value) (w : World) (hV : UpsV w hv hq) (wV : UpsV w wv wq) (hl : hq.length ≤ 4611686018427387903 ∧ wq.length ≤ 4611686018427387903) (hok : ∀ x, x ∈ hq ++ wq → UvOk w x) :
    Calls Try.prog 25 #[repVal hv wv] w fun e w' => ∃ v', e = .returned (.tuple #[v', .int .i64 (Dg.check (ups hq) (ups wq))]) ∧ IdsV w' v' (Dg.ifOk (Dg.check (ups hq) (ups wq)) (Dg.heads (ups hq))) ∧ Below w.heap.size w w' := by
  obtain ⟨i0, hi, hz0, hz1, hz2⟩ := info_parts id_info
  have HO : Hid (∀ x, x ∈ hq ++ wq → UvOk w x) := hok
  have HHV : Hid (UpsV w hv hq) := hV
  have HCK0 : Hid (∀ z, Below w.heap.size w z → Calls Try.prog 14 #[repVal hv wv] z fun e w' => e = .returned (.int .i64 (Dg.check (ups hq) (ups wq))) ∧ Below z.heap.size z w') := fun z hz => DCheck_any hq wq _ _ z (hV.kc (Kc.below hz)) (wV.kc (Kc.below hz)) hl (fun x hx => (hok x hx).below hz)
  obtain ⟨ah, ch, rfl, _, _⟩ := hV
  obtain ⟨aw, cw, rfl, _, _⟩ := wV
  clear hok
  have HB1 : Hid (Below w.heap.size w (w.alloc (.cells #[.slice ah hq.length ch, .slice aw wq.length cw] 24))) := (Below.refl _ _).alloc (Nat.le_refl _) _
  have HH1 : Hid ((w.alloc (.cells #[.slice ah hq.length ch, .slice aw wq.length cw] 24)).heap[w.heap.size]? = some (.cells #[.slice ah hq.length ch, .slice aw wq.length cw] 24)) := rl_new w _
  go_enter Try.func25, Try.ntmps25
  go_upto_region 1 with fail
  generalize w.alloc (.cells #[.slice ah hq.length ch, .slice aw wq.length cw] 24) = w1 at *
  have HF : Hid (∀ z, Below w1.heap.size w1 z → z.cell? ⟨w.heap.size, 0, none⟩ = some (.slice ah hq.length ch) ∧ z.cell? ⟨w.heap.size, 1, none⟩ = some (.slice aw wq.length cw)) := fun z hz => by
    have hh1 := (hz.block _ (Array.getElem?_eq_some_iff.1 HH1.out).1).trans HH1.out
    exact ⟨by rw [Lib.cell_of_heap hh1]; rfl, by rw [Lib.cell_of_heap hh1]; rfl⟩
  obtain ⟨c0, c1⟩ := HF.out w1 (Below.refl _ _)
  go_upto_region 2 with (go_at_call 14; refine Calls.mono (HCK0.out _ HB1.out) ?_; rintro e w2 ⟨rfl, hb2⟩)
  have HG2 : Hid (Below w.heap.size w w2) := HB1.out.trans (hb2.mono HB1.out.size)
  clear c0 c1 HCK0
  obtain ⟨c0, c1⟩ := HF.out w2 hb2
  clear hb2
  by_cases hck : Dg.check (ups hq) (ups wq) = 0
  rotate_left
  · have hne : (Dg.check (ups hq) (ups wq) != 0) = true := by simpa using hck
    go_wp2_with fail
    go_ret2
    exact ⟨_, rfl, by rw [Dg.ifOk_no hck]; exact ⟨none, 0, rfl, ⟨Nat.le_refl _, fun _ => rfl⟩, .inl rfl⟩, HG2.out⟩
  have HCK : Hid (Dg.check (ups hq) (ups wq) = 0) := hck
  have HOKR : Hid (Dg.Ok (ups hq) (ups wq)) := Dg.check_ok.mp hck
  rw [hck]
  clear hck
  have hfew : hq.length ≤ 200 := by have := HOKR.out.few; rw [ups_length, ups_length] at this; omega
  have HID : Hid (∀ x, x ∈ hq → UvOk w x ∧ Wr.check x.u = 0) := fun x hx => ⟨HO.out x (List.mem_append_left _ hx), HOKR.out.each x.u (List.mem_append_left _ (List.mem_map.mpr ⟨x, hx, rfl⟩))⟩
  have HUN : Hid (Calls Try.prog 54 #[.slice ah hq.length ch, .func (.func 55) #[] #[]] w2 fun e w' => ∃ v', e = .returned v' ∧ URow w' w2.heap.size v' (keepU (fun u => decide (0 < (hq.flatMap (fun x => x.u.ps)).count u.id)) hq) ∧ Below w2.heap.size w2 w') := unnamedP_any hq _ w2 (HHV.out.kc (Kc.below HG2.out)) (by omega) (fun x hx => (HID.out x hx).1.below HG2.out) (fun x hx => idsOk_of (HID.out x hx).2)
  have HUF : Hid (ups (keepU (fun u => decide (0 < (hq.flatMap (fun x => x.u.ps)).count u.id)) hq) = Dg.free Wr.Up.ps (ups hq)) := ups_free Wr.Up.ps hq
  have HKM : Hid (∀ x, x ∈ keepU (fun u => decide (0 < (hq.flatMap (fun x => x.u.ps)).count u.id)) hq → x ∈ hq) := fun x hx => keepU_mem hx
  have HKL : Hid ((keepU (fun u => decide (0 < (hq.flatMap (fun x => x.u.ps)).count u.id)) hq).length ≤ 200) := Nat.le_trans (keepU_len _ _) hfew
  generalize keepU (fun u => decide (0 < (hq.flatMap (fun x => x.u.ps)).count u.id)) hq = q at *
  go_upto_region 6 with (go_at_call 54; refine Calls.mono HUN.out ?_; rintro e w3 ⟨v3, rfl, hr3, hb3⟩; obtain ⟨a3, k3, rfl⟩ := own_slice hr3)
  have HR3 : Hid (UpsV w3 (.slice a3 q.length k3) q) := own_ups hr3
  have HG3 : Hid (Below w.heap.size w w3) := HG2.out.trans (hb3.mono HG2.out.size)
  have hql : q.length ≤ 200 := HKL.out
  clear hr3 hb3 HUN c0 c1
  go_loopw [5, 17] (fun vs iv wr => ∃ k : Nat, k ≤ q.length ∧ iv = .int .i64 k ∧ wr.ownsRow w3.heap.size 30 2 vs k (((ups (q.take k)).map Wr.Up.id).map idCells).flatten ∧ Below w3.heap.size w3 wr) (fun _ iv _ => q.length - (intOf iv).toNat)
  case atStart => exact ⟨0, Nat.zero_le _, rfl, World.ownsRow_nil _ _ _ _, Below.refl _ _⟩
  case round =>
    obtain ⟨k, hk, rfl, ho, hbw⟩ := hrel
    obtain ⟨av, cv, rfl⟩ := own_slice ho
    have hsz := hbw.size
    by_cases hlt : k < q.length
    · obtain ⟨_, _, e9, _, hA9⟩ := HR3.out.kc (Kc.below hbw)
      cases e9
      obtain ⟨b, off, rfl, c0, c1, c2, c3, c4⟩ := ups_at hA9 k hlt
      have hx := (HID.out _ (HKM.out _ (uvD_mem q k hlt))).1
      have HTK : Hid ((((ups (q.take (k + 1))).map Wr.Up.id).map idCells).flatten = (((ups (q.take k)).map Wr.Up.id).map idCells).flatten ++ idCells (uvD q k).u.id) := by
        show _ = _
        rw [uvD_take q k hlt, ups_append, List.map_append, List.map_append, List.flatten_append]
        simp [ups]
      obtain ⟨a1, n1, d1, a2, n2, d2, a4, n4, d4, e1, e2, e3⟩ := hx.forms
      generalize uvD q k = x at *
      obtain ⟨⟨⟨ua, un⟩, ps, says, ts⟩, vp, vs, vt⟩ := x
      dsimp only at *
      subst e1 e2 e3
      generalize (((ups (q.take k)).map Wr.Up.id).map idCells).flatten = X0 at *
      clear hA9 hx
      have HBN : Hid (Below w3.heap.size w3 (wr.alloc (.cells #[.int .i64 ua, .int .i64 un, .slice a1 n1 d1, .slice a2 n2 d2, .slice a4 n4 d4] 34))) := hbw.alloc hsz _
      have ho2 := ho.alloc (.cells #[.int .i64 ua, .int .i64 un, .slice a1 n1 d1, .slice a2 n2 d2, .slice a4 n4 d4] 34)
      clear ho
      go_upto_region 8 with fail
      have HCX : Hid ((wr.alloc (.cells #[.int .i64 ua, .int .i64 un, .slice a1 n1 d1, .slice a2 n2 d2, .slice a4 n4 d4] 34)).heap[wr.heap.size]? = some (.cells #[.int .i64 ua, .int .i64 un, .slice a1 n1 d1, .slice a2 n2 d2, .slice a4 n4 d4] 34)) := rl_new wr _
      generalize wr.alloc (.cells #[.int .i64 ua, .int .i64 un, .slice a1 n1 d1, .slice a2 n2 d2, .slice a4 n4 d4] 34) = w5 at *
      have x0 : w5.cell? ⟨wr.heap.size, 0, none⟩ = some (.int .i64 ua) := by rw [Lib.cell_of_heap HCX.out]; rfl
      have x1 : w5.cell? ⟨wr.heap.size, 1, none⟩ = some (.int .i64 un) := by rw [Lib.cell_of_heap HCX.out]; rfl
      have hs5 := HBN.out.size
      clear c0 c1 c2 c3 c4
      go_wp2_with (at_builtin; refine wpList_append_own _ rfl _ _ 31 rfl w3.heap.size 30 i0 _ 2 16 Try.underlying31 hi hz0 hz1 hz2 rfl (by decide) _ _ _ rfl (ho2.alloc _) ⟨w5.heap.size, 0, none⟩ 1 1 (idCells ⟨ua, un⟩) rfl rfl (news2 w5 _ _ 30) (by intro u hu; simp at hu; rcases hu with rfl | rfl <;> rfl) (by unfold maxLen; omega) (by omega) (by simp; omega) ?_; intro v6 w6 hown6 hgrow6 _; obtain ⟨a6, c6, rfl⟩ := own_slice hown6)
      have HO6 : Hid (w6.ownsRow w3.heap.size 30 2 (.slice a6 (k + 1) c6) (k + 1) (((ups (q.take (k + 1))).map Wr.Up.id).map idCells).flatten) := by
        show World.ownsRow _ _ _ _ _ _ _
        rw [HTK.out]
        exact hown6
      have HB6 : Hid (Below w3.heap.size w3 w6) := (HBN.out.alloc hs5 _).grown hgrow6 (by simp; omega) (fun j hj => (ho2.lt j hj).1)
      clear hown6 hgrow6 ho2 HTK
      go_roundw
      case rel => exact ⟨k + 1, hlt, by go_num, HO6.out, HB6.out⟩
      case measure => simp [intOf]; omega
    · have hdd : decide (k < q.length) = false := decide_eq_false hlt
      obtain rfl : k = q.length := by omega
      have HE : Hid (IdsV wr (.slice av q.length cv) (Dg.heads (ups hq))) := by
        have e : Dg.heads (ups hq) = (ups q).map Wr.Up.id := by unfold Dg.heads; rw [HUF.out]
        have el : ((ups q).map Wr.Up.id).length = q.length := by rw [List.length_map, ups_length]
        have h9 := ho
        rw [List.take_length, ← el] at h9
        show IdsV _ _ _
        rw [e, ← el]
        exact own_ids h9
      have HBE : Hid (Below w.heap.size w wr) := HG3.out.trans (hbw.mono HG3.out.size)
      clear ho hbw
      go_wp2_with fail
      go_ret2
      exact ⟨_, by rw [HCK.out]; rfl, by rw [Dg.ifOk_ok HCK.out]; exact HE.out, HBE.out⟩
end Go.Proofs.Ytmfaodapofamfaa

/- What dagBegun asks, plain. -/
namespace Go.Proofs.Ytmfaodapofamfaa
namespace Dg
open Wr
theorem beg_mem {u a b : Up} : u ∈ [a, b] ↔ u = a ∨ u = b := by simp
theorem beg_c1 : Wr.check firstU = 0 := by decide
theorem beg_c2 : Wr.check secondU = 0 := by decide
theorem beg_ok0 : Ok [] [] := ⟨by decide, (fun u hu => by cases hu), rfl, rfl, (fun u hu => by cases hu), ⟨fun u => ⟨(fun h => by cases h), (fun h => by cases h.1)⟩, fun u => ⟨(fun h => by cases h), (fun h => by cases h.1)⟩⟩⟩
end Dg
end Go.Proofs.Ytmfaodapofamfaa

/- Package dag: Facts. -/
namespace Go.Proofs.Ytmfaodapofamfaa
open Go.RowKit Go.Maps

end Go.Proofs.Ytmfaodapofamfaa

/- dagBegun. -/
namespace Go.Proofs.Ytmfaodapofamfaa
open Go.RowKit

theorem UpV.ok {w : World} {u : Wr.Up} {vp vs vt : Value} (h : UpV w u vp vs vt) : UvOk w ⟨u, vp, vs, vt⟩ := ⟨h.1, h.2.1, h.2.2.1, h.2.2.2.1, by have := h.2.2.2.2; dsimp only; omega⟩
theorem beg_check {h w : List Wr.Up} (e1 : h = [Wr.firstU, Wr.secondU]) (e2 : w = []) : Dg.check h w = 0 := by
  subst e1 e2
  have hA : Dg.Apart [Wr.secondU, Wr.firstU] := Dg.apart_of_nodup (by decide)
  have h1 : Dg.Cm [Wr.secondU, Wr.firstU] Wr.firstU.id := .mk Wr.firstU (by simp) (fun x hx => by cases hx)
  have h2 : Dg.Cm [Wr.secondU, Wr.firstU] Wr.secondU.id := .mk Wr.secondU (by simp) (fun x hx => by
    have hx2 : x = ⟨0, 1⟩ := by simpa [Dg.under, Wr.secondU] using hx
    rw [hx2]
    exact h1)
  have hall : ∀ u, u ∈ [Wr.secondU, Wr.firstU] → Dg.Cm [Wr.secondU, Wr.firstU] u.id := fun u hu => by
    rcases Dg.beg_mem.mp hu with rfl | rfl
    · exact h2
    · exact h1
  have hi : Dg.Is [Wr.secondU, Wr.firstU] [Wr.firstU, Wr.secondU] [] := by
    refine ⟨⟨fun u => ?_, fun u => ⟨(fun h => by cases h), (fun h => absurd (hall u h.1) h.2)⟩⟩, by decide, rfl⟩
    rw [Dg.beg_mem]
    exact ⟨fun h => ⟨Dg.beg_mem.mpr h.symm, hall u (Dg.beg_mem.mpr h.symm)⟩, fun h => (Dg.beg_mem.mp h.1).symm⟩
  refine Dg.check_ok.mpr (hi.ok hA (fun u hu => ?_) (by decide))
  rcases Dg.beg_mem.mp hu with rfl | rfl
  · exact Dg.beg_c2
  · exact Dg.beg_c1
end Go.Proofs.Ytmfaodapofamfaa

/- dagBegun. -/
namespace Go.Proofs.Ytmfaodapofamfaa
open Go.RowKit

theorem UpV.below {w w' : World} {u : Wr.Up} {vp vs vt : Value} (h : UpV w u vp vs vt) (hb : Below w.heap.size w w') : UpV w' u vp vs vt := ⟨idsV_below h.1 hb, factsV_below h.2.1 hb, idsV_below h.2.2.1 hb, h.2.2.2.1, h.2.2.2.2⟩
def Up1 (u : Wr.Up) (w : World) (v : Value) : Prop := ∃ a1 n1 c1 a2 n2 c2 a3 n3 c3, v = .agg #[.int .i64 u.id.a, .int .i64 u.id.n, .slice a1 n1 c1, .slice a2 n2 c2, .slice a3 n3 c3] ∧ UpV w u (.slice a1 n1 c1) (.slice a2 n2 c2) (.slice a3 n3 c3)
theorem up1_of {u : Wr.Up} {w : World} {vp vs vt : Value} (h : UpV w u vp vs vt) : Up1 u w (upVal u vp vs vt) := by
  obtain ⟨a1, c1, rfl, _⟩ := id h.1
  obtain ⟨a2, c2, rfl, _⟩ := id h.2.1
  obtain ⟨a3, c3, rfl, _⟩ := id h.2.2.1
  exact ⟨a1, _, c1, a2, _, c2, a3, _, c3, rfl, h⟩
def Ups2 (w : World) (v : Value) : Prop := ∃ a, v = .slice a 2 2 ∧ ∃ R1 R2, UpsV w (.slice a 2 2) [R1, R2] ∧ UvOk w R1 ∧ UvOk w R2 ∧ R1.u = Wr.firstU ∧ R2.u = Wr.secondU
theorem Ups2.below {w w' : World} {v : Value} (h : Ups2 w v) (hb : Below w.heap.size w w') : Ups2 w' v := by
  obtain ⟨a, e, R1, R2, h1, h2, h3, h4, h5⟩ := h
  exact ⟨a, e, R1, R2, h1.kc (Kc.below hb), h2.below hb, h3.below hb, h4, h5⟩
theorem ups2_new {y : World} {p1 p2 p3 p4 p5 p6 : Option Addr} {n1 n2 n3 n4 n5 n6 q1 q2 q3 q4 q5 q6 : Nat} (hU : UpV y Wr.firstU (.slice p1 n1 q1) (.slice p2 n2 q2) (.slice p3 n3 q3)) (hV : UpV y Wr.secondU (.slice p4 n4 q4) (.slice p5 n5 q5) (.slice p6 n6 q6)) :
    Ups2 (y.alloc (.cells #[.int .i64 0, .int .i64 1, .slice p1 n1 q1, .slice p2 n2 q2, .slice p3 n3 q3, .int .i64 1, .int .i64 1, .slice p4 n4 q4, .slice p5 n5 q5, .slice p6 n6 q6] 34)) (.slice (some ⟨y.heap.size, 0, none⟩) 2 2) := by
  have hb := new_below y (.cells #[.int .i64 0, .int .i64 1, .slice p1 n1 q1, .slice p2 n2 q2, .slice p3 n3 q3, .int .i64 1, .int .i64 1, .slice p4 n4 q4, .slice p5 n5 q5, .slice p6 n6 q6] 34)
  have hh := heap_alloc_new y (.cells #[.int .i64 0, .int .i64 1, .slice p1 n1 q1, .slice p2 n2 q2, .slice p3 n3 q3, .int .i64 1, .int .i64 1, .slice p4 n4 q4, .slice p5 n5 q5, .slice p6 n6 q6] 34)
  refine ⟨_, rfl, ⟨Wr.firstU, _, _, _⟩, ⟨Wr.secondU, _, _, _⟩, ⟨_, _, rfl, ⟨Nat.le_refl _, (fun h => by cases h)⟩, .inr ⟨_, 0, rfl, fun i hi => ?_⟩⟩, (hU.below hb).ok, (hV.below hb).ok, rfl, rfl⟩
  match i, hi with
  | 0, _ => exact ⟨by rw [Lib.cell_of_heap hh]; rfl, by rw [Lib.cell_of_heap hh]; rfl, by rw [Lib.cell_of_heap hh]; rfl, by rw [Lib.cell_of_heap hh]; rfl, by rw [Lib.cell_of_heap hh]; rfl⟩
  | 1, _ => exact ⟨by rw [Lib.cell_of_heap hh]; rfl, by rw [Lib.cell_of_heap hh]; rfl, by rw [Lib.cell_of_heap hh]; rfl, by rw [Lib.cell_of_heap hh]; rfl, by rw [Lib.cell_of_heap hh]; rfl⟩
end Go.Proofs.Ytmfaodapofamfaa

/- What the document's AddOf does, plain; and a box that is written. -/
namespace Go.Proofs.Ytmfaodapofamfaa
open Go.RowKit

namespace Dg
open Wr
end Dg
end Go.Proofs.Ytmfaodapofamfaa

/- Add and AddOf answer the same, plain. -/
namespace Go.Proofs.Ytmfaodapofamfaa

end Go.Proofs.Ytmfaodapofamfaa

/- Many updates added, plain. -/
namespace Go.Proofs.Ytmfaodapofamfaa
namespace Dg
open Wr (Up)

def mores (l us : List Up) : List Up := us.foldl more l
theorem mores_snoc (l us : List Up) (u : Up) : mores l (us ++ [u]) = more (mores l us) u := by
  unfold mores
  rw [List.foldl_append]
  rfl
theorem hasU_congr {l m : List Up} (h : ∀ u, u ∈ l ↔ u ∈ m) (x : Wr.Id) : hasU l x = hasU m x := by
  rw [Bool.eq_iff_iff, hasU_iff, hasU_iff]
  exact ⟨fun ⟨u, h1, h2⟩ => ⟨u, (h u).mp h1, h2⟩, fun ⟨u, h1, h2⟩ => ⟨u, (h u).mpr h1, h2⟩⟩
theorem more_congr {l m : List Up} (h : ∀ u, u ∈ l ↔ u ∈ m) (u : Up) : ∀ v, v ∈ more l u ↔ v ∈ more m u := fun v => by
  rw [more_mem, more_mem, hasU_congr h, h]
theorem mores_nodup : ∀ {us l : List Up}, (l.map Up.id).Nodup → ((mores l us).map Up.id).Nodup
  | [], _, h => h
  | u :: us, l, h => mores_nodup (us := us) (l := more l u) (more_nodup h)
theorem more_len (l : List Up) (u : Up) : (more l u).length ≤ l.length + 1 := by
  unfold more
  split
  · omega
  · rw [List.length_append]; exact Nat.le_refl _
theorem mores_mem : ∀ {us l : List Up}, (us.map Up.id).Nodup → ∀ v, v ∈ mores l us ↔ v ∈ l ∨ (hasU l v.id = false ∧ v ∈ us)
  | [], l, _, v => by simp [mores]
  | u :: us, l, hn, v => by
    rw [List.map_cons, List.nodup_cons] at hn
    show v ∈ mores (more l u) us ↔ _
    rw [mores_mem hn.2, more_mem]
    have hne : v ∈ us → v.id ≠ u.id := fun hv he => hn.1 (by rw [← he]; exact List.mem_map_of_mem hv)
    have hh : v.id ≠ u.id → hasU (more l u) v.id = hasU l v.id := fun hne => by
      rw [Bool.eq_iff_iff, hasU_iff, hasU_iff]
      constructor
      · rintro ⟨x, hx, e⟩
        rcases more_mem.mp hx with hx | ⟨_, rfl⟩
        · exact ⟨x, hx, e⟩
        · exact absurd e.symm hne
      · rintro ⟨x, hx, e⟩
        exact ⟨x, more_mem.mpr (.inl hx), e⟩
    rw [List.mem_cons]
    constructor
    · rintro ((h | ⟨h, rfl⟩) | ⟨h1, h2⟩)
      · exact .inl h
      · exact .inr ⟨h, .inl rfl⟩
      · exact .inr ⟨by rw [hh (hne h2)] at h1; exact h1, .inr h2⟩
    · rintro (h | ⟨h, rfl | h2⟩)
      · exact .inl (.inl h)
      · exact .inl (.inr ⟨h, rfl⟩)
      · exact .inr ⟨by rw [hh (hne h2)]; exact h, h2⟩
theorem mores_check {us l : List Up} (h1 : ∀ u, u ∈ l → Wr.check u = 0) (h2 : ∀ u, u ∈ us → Wr.check u = 0) : ∀ u, u ∈ mores l us → Wr.check u = 0 := by
  induction us generalizing l with
  | nil => exact h1
  | cons x us ih =>
    refine ih (l := more l x) (fun u hu => ?_) (fun u hu => h2 u (List.mem_cons_of_mem _ hu))
    rcases more_mem.mp hu with h | ⟨_, rfl⟩
    · exact h1 u h
    · exact h2 u (by simp)
/-- What stands when the first of us have been added. -/
theorem Is.on {all h w : List Up} {u : Up} (hi : Is all h w) {h' w' : List Up} (hn : Is (more (h ++ w) u) h' w') : Is (more all u) h' w' :=
  hn.congr (more_congr (fun v => by rw [List.mem_append]; exact hi.parts.mem v) u)
theorem Is.len {all h w : List Up} (hi : Is all h w) (hn : (all.map Up.id).Nodup) (hA : ((h ++ w).map Up.id).Nodup) : h.length + w.length = all.length := by
  have hp : ((h ++ w).map Up.id).Perm (all.map Up.id) := (List.perm_ext_iff_of_nodup hA hn).mpr fun x => by
    simp only [List.mem_map]
    constructor
    · rintro ⟨u, hu, e⟩
      exact ⟨u, (hi.parts.mem u).mp (List.mem_append.mp hu), e⟩
    · rintro ⟨u, hu, e⟩
      exact ⟨u, List.mem_append.mpr ((hi.parts.mem u).mpr hu), e⟩
  have := hp.length_eq
  rw [List.length_map, List.length_map, List.length_append] at this
  exact this
theorem Is.nd {all h w : List Up} (hi : Is all h w) (hA : Apart all) : ((h ++ w).map Up.id).Nodup := by
  refine nodup_app hi.rh hi.rw_ fun u hu => ?_
  rcases hb : hasU h u.id with _ | _
  · rfl
  · obtain ⟨v, hv, e⟩ := hasU_iff.mp hb
    have h1 := (hi.parts.mem v).mp (.inl hv)
    have h2 := (hi.parts.mem u).mp (.inr hu)
    have e2 := hA v u h1 h2 e
    subst e2
    exact absurd ((hi.parts.1 v).mp hv).2 ((hi.parts.2 v).mp hu).2
theorem Is.okN {all h w : List Up} (hi : Is all h w) (hn : (all.map Up.id).Nodup) (he : ∀ u, u ∈ all → Wr.check u = 0) (hl : all.length ≤ 200) : Ok h w :=
  hi.ok (apart_of_nodup hn) he (by rw [hi.len hn (hi.nd (apart_of_nodup hn))]; exact hl)
end Dg
end Go.Proofs.Ytmfaodapofamfaa

/- The document's CheckReplica. -/
namespace Go.Proofs.Ytmfaodapofamfaa
open Go.RowKit

end Go.Proofs.Ytmfaodapofamfaa

/- The document's AddOf. -/
namespace Go.Proofs.Ytmfaodapofamfaa
open Go.RowKit

end Go.Proofs.Ytmfaodapofamfaa

/- The document's HeadsAre and FactsOf. -/
namespace Go.Proofs.Ytmfaodapofamfaa
open Go.RowKit

namespace Dg
open Wr
end Dg
end Go.Proofs.Ytmfaodapofamfaa

/- The document's FactsOf. -/
namespace Go.Proofs.Ytmfaodapofamfaa
open Go.RowKit

end Go.Proofs.Ytmfaodapofamfaa

/- The law DagTells: Check, Add, Heads and Facts answer just what the document says. -/
namespace Go.Proofs.Ytmfaodapofamfaa
open Go.RowKit

def IdS (l : List Wr.Id) (w : World) (v : Value) : Prop := ∃ a n c, v = .slice a n c ∧ IdsV w (.slice a n c) l
theorem ids_of {l : List Wr.Id} {w : World} {v : Value} (h : IdsV w v l) : IdS l w v := by
  obtain ⟨a, c, rfl, _⟩ := id h
  exact ⟨a, _, c, rfl, h⟩
theorem heads_le (hq : List Uv) : (Dg.heads (ups hq)).length ≤ hq.length := by
  unfold Dg.heads Dg.free
  rw [List.length_map]
  have := List.length_filter_le (fun u => !Dg.named Wr.Up.ps (ups hq) u) (ups hq)
  rw [ups_length] at this
  exact this
end Go.Proofs.Ytmfaodapofamfaa

/- A replica in memory that is what some updates come to. -/
namespace Go.Proofs.Ytmfaodapofamfaa
open Go.RowKit

/-- What may be added to: each id once, all right. -/
structure Fair (all : List Wr.Up) : Prop where
  nd : (all.map Wr.Up.id).Nodup
  ok : ∀ u, u ∈ all → Wr.check u = 0
  len : all.length ≤ 200
def RepI (all : List Wr.Up) (w : World) (v1 v2 : Value) : Prop := ∃ hq wq, UpsV w v1 hq ∧ UpsV w v2 wq ∧ (∀ y, y ∈ hq ++ wq → UvOk w y) ∧ Dg.Is all (ups hq) (ups wq)
theorem RepI.kn {all : List Wr.Up} {w w' : World} {v1 v2 : Value} (h : RepI all w v1 v2) (k : Kn w w') : RepI all w' v1 v2 := by
  obtain ⟨hq, wq, h1, h2, h3, h4⟩ := h
  exact ⟨hq, wq, h1.kn k, h2.kn k, fun y hy => (h3 y hy).kn k, h4⟩
def AdN (all : List Wr.Up) (w : World) (v : Value) : Prop := ∃ a1 n1 c1 a2 n2 c2, v = .tuple #[.agg #[.slice a1 n1 c1, .slice a2 n2 c2], .int .i64 0] ∧ RepI all w (.slice a1 n1 c1) (.slice a2 n2 c2)
def BoxI (all : List Wr.Up) (w : World) (F : Nat) : Prop := ∃ a1 n1 c1 a2 n2 c2, w.heap[F]? = some (.cells #[.slice a1 n1 c1, .slice a2 n2 c2] 24) ∧ RepI all w (.slice a1 n1 c1) (.slice a2 n2 c2)
theorem BoxI.lt {all : List Wr.Up} {w : World} {F : Nat} (h : BoxI all w F) : F < w.heap.size := by
  obtain ⟨a1, n1, c1, a2, n2, c2, h, _⟩ := h
  exact (Array.getElem?_eq_some_iff.1 h).1
theorem BoxI.rb {all : List Wr.Up} {w w' : World} {F B : Nat} (h : BoxI all w F) (k : Rb B w w') (hF : F < B) : BoxI all w' F := by
  obtain ⟨a1, n1, c1, a2, n2, c2, h, r⟩ := h
  exact ⟨a1, n1, c1, a2, n2, c2, (k.1.block F hF).trans h, r.kn k.2.1⟩
theorem BoxI.below {all : List Wr.Up} {w w' : World} {F : Nat} (h : BoxI all w F) (k : Below w.heap.size w w') : BoxI all w' F := h.rb (Rb.of k (Nat.le_refl _)) h.lt
theorem RepI.ok {all : List Wr.Up} {w : World} {v1 v2 : Value} (hf : Fair all) (h : RepI all w v1 v2) : ∃ hq wq, UpsV w v1 hq ∧ UpsV w v2 wq ∧ (∀ y, y ∈ hq ++ wq → UvOk w y) ∧ Dg.Is all (ups hq) (ups wq) ∧ Dg.Ok (ups hq) (ups wq) ∧ hq.length + wq.length = all.length := by
  obtain ⟨hq, wq, h1, h2, h3, h4⟩ := h
  have hl := h4.len hf.nd (h4.nd (Dg.apart_of_nodup hf.nd))
  rw [ups_length, ups_length] at hl
  exact ⟨hq, wq, h1, h2, h3, h4, h4.okN hf.nd hf.ok hf.len, hl⟩
theorem add_more {all : List Wr.Up} (hf : Fair all) (hl : all.length < 200) (v1 v2 : Value) (x : Uv) (w : World) (h : RepI all w v1 v2) (hx : UvOk w x) (hc : Wr.check x.u = 0) :
    Calls Try.prog 27 #[.agg #[v1, v2], uvVal x] w fun e w' => ∃ v, e = .returned v ∧ AdN (Dg.more all x.u) w' v ∧ Below w.heap.size w w' := by
  obtain ⟨hq, wq, h1, h2, h3, h4, o, hn⟩ := h.ok hf
  refine (Add_any hq wq v1 v2 x w h1 h2 (by omega) h3 hx).mono ?_
  rintro e w' ⟨u1, u2, R1, R2, rfl, k1, k2, k3, k4, _, k6⟩
  have hz : Dg.addErr (ups hq) (ups wq) x.u = 0 := by
    unfold Dg.addErr
    have hc0 : Dg.check (ups hq) (ups wq) = 0 := Dg.check_ok.mpr o
    have hm := Dg.more_len (ups hq ++ ups wq) x.u
    rw [List.length_append, ups_length, ups_length] at hm
    rw [if_neg (fun h => h hc0), if_neg (fun h => h hc), if_neg (by omega)]
  have h7 := h4.on (k4 hz)
  rw [hz]
  obtain ⟨a1, c1, rfl, hj1⟩ := id k1
  obtain ⟨a2, c2, rfl, hj2⟩ := id k2
  exact ⟨_, rfl, ⟨a1, _, c1, a2, _, c2, rfl, R1, R2, k1, k2, k3, h7⟩, k6⟩
/-- .. one that is there already: also where there is no more room. -/
theorem add_same {all : List Wr.Up} (hf : Fair all) (v1 v2 : Value) (x : Uv) (w : World) (h : RepI all w v1 v2) (hx : UvOk w x) (hc : Wr.check x.u = 0) (hh : Dg.hasU all x.u.id = true) :
    Calls Try.prog 27 #[.agg #[v1, v2], uvVal x] w fun e w' => ∃ v, e = .returned v ∧ AdN all w' v ∧ Below w.heap.size w w' := by
  obtain ⟨hq, wq, h1, h2, h3, h4, o, hn⟩ := h.ok hf
  refine (Add_any hq wq v1 v2 x w h1 h2 (by have := hf.len; omega) h3 hx).mono ?_
  rintro e w' ⟨u1, u2, R1, R2, rfl, k1, k2, k3, k4, _, k6⟩
  have hm : Dg.more (ups hq ++ ups wq) x.u = ups hq ++ ups wq := by
    unfold Dg.more
    rw [Dg.hasU_congr (m := all) (fun v => by rw [List.mem_append]; exact h4.parts.mem v), hh]
    rfl
  have hz : Dg.addErr (ups hq) (ups wq) x.u = 0 := by
    unfold Dg.addErr
    have hc0 : Dg.check (ups hq) (ups wq) = 0 := Dg.check_ok.mpr o
    have hl := hf.len
    rw [if_neg (fun h => h hc0), if_neg (fun h => h hc), hm, List.length_append, ups_length, ups_length, if_neg (by omega)]
  have h7 := k4 hz
  rw [hm] at h7
  have h8 := h7.congr (all' := all) (fun v => by rw [List.mem_append]; exact h4.parts.mem v)
  rw [hz]
  obtain ⟨a1, c1, rfl, hj1⟩ := id k1
  obtain ⟨a2, c2, rfl, hj2⟩ := id k2
  exact ⟨_, rfl, ⟨a1, _, c1, a2, _, c2, rfl, R1, R2, k1, k2, k3, h8⟩, k6⟩
theorem same_rep {all : List Wr.Up} (hf : Fair all) (v1 v2 u1 u2 : Value) (w : World) (h : RepI all w v1 v2) (k : RepI all w u1 u2) :
    Calls Try.prog 8 #[.agg #[v1, v2], .agg #[u1, u2]] w fun e w' => e = .returned (.bool true) ∧ Below w.heap.size w w' := by
  obtain ⟨hq, wq, h1, h2, h3, h4, _, hn⟩ := h.ok hf
  obtain ⟨hr, wr, k1, k2, k3, k4, _, kn⟩ := k.ok hf
  obtain ⟨e1, e2⟩ := h4.one k4
  have hl := hf.len
  exact SameReplica_same hq wq hr wr v1 v2 u1 u2 w h1 h2 k1 k2 e1 e2 (by omega) h3 k3
end Go.Proofs.Ytmfaodapofamfaa

/- A copy of a replica. -/
namespace Go.Proofs.Ytmfaodapofamfaa
open Go.RowKit

def CpV (l : List Wr.Up) (w : World) (v : Value) : Prop := ∃ R, UpsV w v R ∧ (∀ x, x ∈ R → UvOk w x) ∧ ups R = l
theorem CpV.kn {l : List Wr.Up} {w w' : World} {v : Value} (h : CpV l w v) (k : Kn w w') : CpV l w' v := by
  obtain ⟨R, h1, h2, h3⟩ := h
  exact ⟨R, h1.kn k, fun x hx => (h2 x hx).kn k, h3⟩
def CpU (l : List Wr.Up) (w : World) (v : Value) : Prop := ∃ a n c, v = .slice a n c ∧ CpV l w (.slice a n c)
theorem CpU.below {l : List Wr.Up} {w w' : World} {v : Value} (h : CpU l w v) (hb : Below w.heap.size w w') : CpU l w' v := by
  obtain ⟨a, n, c, e, h⟩ := h
  exact ⟨a, n, c, e, h.kn (Kn.below hb)⟩
theorem cpu_of {q R : List Uv} {w w' : World} {v : Value} (h1 : URow w' w.heap.size v R) (h2 : ups R = ups q) (h3 : ∀ x, x ∈ R → UvP w.heap.size w' x) : CpU (ups q) w' v := by
  obtain ⟨a, c, rfl⟩ := own_slice h1
  exact ⟨a, _, c, rfl, R, own_ups h1, fun x hx => (h3 x hx).ok, h2⟩
def CpR (l m : List Wr.Up) (w : World) (v : Value) : Prop := ∃ a1 n1 c1 a2 n2 c2, v = .agg #[.slice a1 n1 c1, .slice a2 n2 c2] ∧ CpV l w (.slice a1 n1 c1) ∧ CpV m w (.slice a2 n2 c2)
theorem CpR.below {l m : List Wr.Up} {w w' : World} {v : Value} (h : CpR l m w v) (hb : Below w.heap.size w w') : CpR l m w' v := by
  obtain ⟨a1, n1, c1, a2, n2, c2, e, h, k⟩ := h
  exact ⟨a1, n1, c1, a2, n2, c2, e, h.kn (Kn.below hb), k.kn (Kn.below hb)⟩
def cpT (X : Nat) (ah : Option Addr) (nh ch : Nat) (aw : Option Addr) (nw cw : Nat) (lh lw : List Wr.Up) (tQ : Nat) (vQ : Value) (WQ : World) : Prop :=
  match tQ with
  | 3 => vQ = .pointer (some ⟨X, 0, none⟩)
  | 4 => vQ = .slice ah nh ch
  | 5 => CpU lh WQ vQ
  | 6 => vQ = .pointer (some ⟨X, 1, none⟩)
  | 7 => vQ = .slice aw nw cw
  | 8 => CpU lw WQ vQ
  | 9 => CpR lh lw WQ vQ
  | _ => True
theorem cpT_mono (X : Nat) (ah : Option Addr) (nh ch : Nat) (aw : Option Addr) (nw cw : Nat) (lh lw : List Wr.Up) (tQ : Nat) (vQ : Value) (W W' : World) (hb : Below W.heap.size W W') (h : cpT X ah nh ch aw nw cw lh lw tQ vQ W) : cpT X ah nh ch aw nw cw lh lw tQ vQ W' := by
  revert h
  unfold cpT
  split <;> (intro h; first | exact h | exact CpU.below h hb | exact CpR.below h hb)

set_option maxRecDepth 100000 in
set_option maxHeartbeats 2000000 in
theorem CopyRep_any (hq wq : List Uv) (hv wv : Value) (w : World) (hV : UpsV w hv hq) (wV : UpsV w wv wq) (hl : hq.length ≤ 1000 ∧ wq.length ≤ 1000) (hok : ∀ y, y ∈ hq ++ wq → UvOk w y ∧ Few y.u) :
    Calls Try.prog 26 #[repVal hv wv] w fun e w' => ∃ v, e = .returned v ∧ CpR (ups hq) (ups wq) w' v ∧ Below w.heap.size w w' := by
  obtain ⟨ah, ch, rfl, hch, hAt⟩ := id hV
  obtain ⟨aw, cw, rfl, hcw, wAt⟩ := id wV
  clear hch hAt hcw wAt
  have b0 := heap_alloc_new w (.cells #[.slice ah hq.length ch, .slice aw wq.length cw] 24)
  have g0 := new_below w (.cells #[.slice ah hq.length ch, .slice aw wq.length cw] 24)
  have b1 := heap_alloc_new (w.alloc (.cells #[.slice ah hq.length ch, .slice aw wq.length cw] 24)) (.cells #[.slice none 0 0, .slice none 0 0] 24)
  have g1 := new_below (w.alloc (.cells #[.slice ah hq.length ch, .slice aw wq.length cw] 24)) (.cells #[.slice none 0 0, .slice none 0 0] 24)
  have hsz : (w.alloc (.cells #[.slice ah hq.length ch, .slice aw wq.length cw] 24)).heap.size = w.heap.size + 1 := by simp
  rw [hsz] at b1
  go_enter Try.func26, Try.ntmps26
  go_upto_region 1 with fail
  have b0' := (g1.block _ (by rw [hsz]; exact Nat.lt_succ_self _)).trans b0
  have g2 := g0.trans (g1.mono g0.size)
  generalize (w.alloc (.cells #[.slice ah hq.length ch, .slice aw wq.length cw] 24)).alloc (.cells #[.slice none 0 0, .slice none 0 0] 24) = w1 at *
  have HX : Hid (∀ z, Below w1.heap.size w1 z → z.cell? ⟨w.heap.size, 0, none⟩ = some (.slice ah hq.length ch) ∧ z.cell? ⟨w.heap.size, 1, none⟩ = some (.slice aw wq.length cw)) := fun z hz => ⟨cell_below hz (by rw [Lib.cell_of_heap b0']; rfl), cell_below hz (by rw [Lib.cell_of_heap b0']; rfl)⟩
  have HG1 : Hid (Below w.heap.size w w1) := g2
  have HB1 : Hid (w1.heap[w.heap.size + 1]? = some (.cells #[.slice none 0 0, .slice none 0 0] 24)) := b1
  have HC1 : Hid (∀ z, Below w1.heap.size w1 z → Calls Try.prog 56 #[.slice ah hq.length ch] z fun e w' => ∃ (R : List Uv) (v' : Value), e = .returned v' ∧ URow w' z.heap.size v' R ∧ ups R = ups hq ∧ (∀ x, x ∈ R → UvP z.heap.size w' x) ∧ Below z.heap.size z w') := fun z hz => by
    have hk := g2.trans (hz.mono g2.size)
    exact Copies_any hq _ z (hV.kc (Kc.below hk)) (fun x hx => (hok x (List.mem_append_left _ hx)).1.below hk) (fun x hx => (hok x (List.mem_append_left _ hx)).2) hl.1
  have HC2 : Hid (∀ z, Below w1.heap.size w1 z → Calls Try.prog 56 #[.slice aw wq.length cw] z fun e w' => ∃ (R : List Uv) (v' : Value), e = .returned v' ∧ URow w' z.heap.size v' R ∧ ups R = ups wq ∧ (∀ x, x ∈ R → UvP z.heap.size w' x) ∧ Below z.heap.size z w') := fun z hz => by
    have hk := g2.trans (hz.mono g2.size)
    exact Copies_any wq _ z (wV.kc (Kc.below hk)) (fun x hx => (hok x (List.mem_append_right _ hx)).1.below hk) (fun x hx => (hok x (List.mem_append_right _ hx)).2) hl.2
  clear b0 g0 b1 g1 hsz b0' g2 hV wV hok hl
  refine wp_region_tail2 (cpT w.heap.size ah hq.length ch aw wq.length cw (ups hq) (ups wq)) 7 (by decide) (by kernel_rfl) (by kernel_rfl) (by kernel_rfl) (cpT_mono _ _ _ _ _ _ _ _ _) ?hop ?hend
  case hop =>
    refine AllOps.cons (fun a y h hpre => ?_) ?_
    · have e1 : a.eval (.tmp 1) = (.pointer (some ⟨w.heap.size, 0, none⟩) : Value) := h.old 1 (by kernel_rfl)
      refine opOk_val (v := .pointer (some ⟨w.heap.size, 0, none⟩)) (w' := y) (wanted_none rfl) ?_ (fun t ht => by cases ht; exact rfl) (Below.refl _ _)
      have ec : ∀ v, a.eval (.const v) = v := fun _ => rfl
      generalize a.eval = ev at *
      clear h hpre
      go_simp
    refine AllOps.cons (fun a y h hpre => ?_) ?_
    · have e3 : a.eval (.tmp 3) = (.pointer (some ⟨w.heap.size, 0, none⟩) : Value) := h.of 3 (by kernel_rfl)
      obtain ⟨x0, x1⟩ := HX.out y h.below
      refine opOk_val (v := .slice ah hq.length ch) (w' := y) (wanted_none rfl) ?_ (fun t ht => by cases ht; exact rfl) (Below.refl _ _)
      have ec : ∀ v, a.eval (.const v) = v := fun _ => rfl
      generalize a.eval = ev at *
      clear h hpre
      go_simp
    refine AllOps.cons (fun a y h hpre => ?_) ?_
    · have e4 : a.eval (.tmp 4) = (.slice ah hq.length ch : Value) := h.of 4 (by kernel_rfl)
      refine opOk_call (f := 56) (args := #[.slice ah hq.length ch]) (wanted_none rfl) ?_ ?_
      · have ec : ∀ v, a.eval (.const v) = v := fun _ => rfl
        have ef : ∀ f, a.eval (.func f) = .func (.func f) #[] #[] := fun _ => rfl
        generalize a.eval = ev at *
        clear h hpre
        go_simp
      · refine Calls.mono (HC1.out y h.below) ?_
        rintro _ y2 ⟨R, v, rfl, h1, h2, h3, hb2⟩
        exact ⟨_, rfl, fun t ht => by cases ht; exact cpu_of h1 h2 h3, hb2⟩
    refine AllOps.cons (fun a y h hpre => ?_) ?_
    · have e1 : a.eval (.tmp 1) = (.pointer (some ⟨w.heap.size, 0, none⟩) : Value) := h.old 1 (by kernel_rfl)
      refine opOk_val (v := .pointer (some ⟨w.heap.size, 1, none⟩)) (w' := y) (wanted_none rfl) ?_ (fun t ht => by cases ht; exact rfl) (Below.refl _ _)
      have ec : ∀ v, a.eval (.const v) = v := fun _ => rfl
      generalize a.eval = ev at *
      clear h hpre
      go_simp
    refine AllOps.cons (fun a y h hpre => ?_) ?_
    · have e6 : a.eval (.tmp 6) = (.pointer (some ⟨w.heap.size, 1, none⟩) : Value) := h.of 6 (by kernel_rfl)
      obtain ⟨x0, x1⟩ := HX.out y h.below
      refine opOk_val (v := .slice aw wq.length cw) (w' := y) (wanted_none rfl) ?_ (fun t ht => by cases ht; exact rfl) (Below.refl _ _)
      have ec : ∀ v, a.eval (.const v) = v := fun _ => rfl
      generalize a.eval = ev at *
      clear h hpre
      go_simp
    refine AllOps.cons (fun a y h hpre => ?_) ?_
    · have e7 : a.eval (.tmp 7) = (.slice aw wq.length cw : Value) := h.of 7 (by kernel_rfl)
      refine opOk_call (f := 56) (args := #[.slice aw wq.length cw]) (wanted_none rfl) ?_ ?_
      · have ec : ∀ v, a.eval (.const v) = v := fun _ => rfl
        have ef : ∀ f, a.eval (.func f) = .func (.func f) #[] #[] := fun _ => rfl
        generalize a.eval = ev at *
        clear h hpre
        go_simp
      · refine Calls.mono (HC2.out y h.below) ?_
        rintro _ y2 ⟨R, v, rfl, h1, h2, h3, hb2⟩
        exact ⟨_, rfl, fun t ht => by cases ht; exact cpu_of h1 h2 h3, hb2⟩
    refine AllOps.cons (fun a y h hpre => ?_) ?_
    · have t5 : CpU (ups hq) y (a.eval (.tmp 5)) := h.of 5 (by kernel_rfl)
      have t8 : CpU (ups wq) y (a.eval (.tmp 8)) := h.of 8 (by kernel_rfl)
      obtain ⟨d1, d2, d3, e5, h5⟩ := t5
      obtain ⟨d4, d5, d6, e8, h8⟩ := t8
      refine opOk_val (v := .agg #[.slice d1 d2 d3, .slice d4 d5 d6]) (w' := y) (wanted_none rfl) ?_ (fun t ht => by cases ht; exact ⟨_, _, _, _, _, _, rfl, h5, h8⟩) (Below.refl _ _)
      have ec : ∀ v, a.eval (.const v) = v := fun _ => rfl
      generalize a.eval = ev at *
      clear h hpre
      go_simp
    exact AllOps.nil
  rintro ⟨tm, df⟩ y hI _
  obtain ⟨d1, d2, d3, d4, d5, d6, e9, h5, h8⟩ : CpR (ups hq) (ups wq) y (Act.eval ⟨tm, df⟩ (.tmp 9)) := hI.all 6 _ 9 (by decide) rfl rfl
  have e2 : Act.eval ⟨tm, df⟩ (.tmp 2) = (.pointer (some ⟨w.heap.size + 1, 0, none⟩) : Value) := hI.still 2 (by decide)
  have hF := (hI.below.block _ (Array.getElem?_eq_some_iff.1 HB1.out).1).trans HB1.out
  have z0 : y.cell? ⟨w.heap.size + 1, 0, none⟩ = some (.slice none 0 0) := by rw [Lib.cell_of_heap hF]; rfl
  have y0 := Lib.frozen_of_heap hF 0
  have k1 : (y.setCell ⟨w.heap.size + 1, 0, none⟩ (.slice d1 d2 d3)).heap[w.heap.size + 1]? = some (.cells #[.slice d1 d2 d3, .slice none 0 0] 24) := by rw [Lib.heap_setCell_same hF]; rfl
  have z1 : (y.setCell ⟨w.heap.size + 1, 0, none⟩ (.slice d1 d2 d3)).cell? ⟨w.heap.size + 1, 1, none⟩ = some (.slice none 0 0) := by rw [Lib.cell_of_heap k1]; rfl
  have y1 := Lib.frozen_of_heap k1 1
  show wpOps Try.prog _ _ [7] _ _
  rw [wpOps_cons]
  refine wpOp_void rfl (wanted_none rfl) rfl (w' := two y (w.heap.size + 1) (.slice d1 d2 d3) (.slice d4 d5 d6)) ?_ ?_
  · unfold two
    generalize Act.eval ⟨tm, df⟩ = ev at *
    clear hI h5 h8
    go_simp
  have hk := two_kn (u := .slice d1 d2 d3) (v := .slice d4 d5 d6) hF
  have H5 : Hid _ := h5.kn hk
  have H8 : Hid _ := h8.kn hk
  have hh := two_heap (u := .slice d1 d2 d3) (v := .slice d4 d5 d6) hF
  have HB : Hid (Below w.heap.size w (two y (w.heap.size + 1) (.slice d1 d2 d3) (.slice d4 d5 d6))) := two_below (HG1.out.trans (hI.below.mono HG1.out.size)) (Nat.le_succ _) _ _
  have h2 : tm.getD 2 undef = .pointer (some ⟨w.heap.size + 1, 0, none⟩) := e2
  have hszE := hI.size
  have hstE := hI.still
  obtain rfl : df = [] := hI.defers
  clear hI h5 h8 hk z0 y0 k1 z1 y1 hF e9 e2 HX HC1 HC2 HB1
  generalize two y (w.heap.size + 1) (.slice d1 d2 d3) (.slice d4 d5 d6) = y3 at *
  have t0 : y3.cell? ⟨w.heap.size + 1, 0, none⟩ = some (.slice d1 d2 d3) := by rw [Lib.cell_of_heap hh]; rfl
  have t1 : y3.cell? ⟨w.heap.size + 1, 1, none⟩ = some (.slice d4 d5 d6) := by rw [Lib.cell_of_heap hh]; rfl
  clear h2
  show Exit.then _ _ Exit.normal ⟨tm, []⟩ y3
  have hF8 := tmps_fold [3, 4, 5, 6, 7, 8, 9] tm _ hszE hstE
  clear hszE hstE
  simp only [List.foldl_cons, List.foldl_nil] at hF8
  generalize tm.getD 3 undef = x3 at hF8
  generalize tm.getD 4 undef = x4 at hF8
  generalize tm.getD 5 undef = x5 at hF8
  generalize tm.getD 6 undef = x6 at hF8
  generalize tm.getD 7 undef = x7 at hF8
  generalize tm.getD 8 undef = x8 at hF8
  generalize tm.getD 9 undef = x9 at hF8
  simp only [List.setIfInBounds_toArray, List.set_cons_zero, List.set_cons_succ] at hF8
  subst hF8
  go_wp2_with fail
  exact bodyPost_ret (v := .agg #[.slice d1 d2 d3, .slice d4 d5 d6]) (by simp [results, Try.results26, go_sem, t0, t1]) rfl ⟨_, rfl, ⟨_, _, _, _, _, _, rfl, H5.out, H8.out⟩, HB.out⟩
end Go.Proofs.Ytmfaodapofamfaa

/- told: a replica with what another one answers to its heads. -/
namespace Go.Proofs.Ytmfaodapofamfaa
open Go.RowKit

theorem add_fit {all : List Wr.Up} (hf : Fair all) (v1 v2 : Value) (x : Uv) (w : World) (h : RepI all w v1 v2) (hx : UvOk w x) (hc : Wr.check x.u = 0) (hl : (Dg.more all x.u).length ≤ 200) :
    Calls Try.prog 27 #[.agg #[v1, v2], uvVal x] w fun e w' => ∃ v, e = .returned v ∧ AdN (Dg.more all x.u) w' v ∧ Below w.heap.size w w' := by
  cases hh : Dg.hasU all x.u.id with
  | true =>
    have e : Dg.more all x.u = all := by unfold Dg.more; rw [hh]; rfl
    rw [e]
    exact add_same hf v1 v2 x w h hx hc hh
  | false =>
    have e : (Dg.more all x.u).length = all.length + 1 := by unfold Dg.more; rw [hh]; simp
    exact add_more hf (by omega) v1 v2 x w h hx hc
theorem add_over {all : List Wr.Up} (hf : Fair all) (v1 v2 : Value) (x : Uv) (w : World) (h : RepI all w v1 v2) (hx : UvOk w x) (hc : Wr.check x.u = 0) (hl : 200 < (Dg.more all x.u).length) :
    Calls Try.prog 27 #[.agg #[v1, v2], uvVal x] w fun e w' => ∃ a1 n1 c1 a2 n2 c2, e = .returned (.tuple #[.agg #[.slice a1 n1 c1, .slice a2 n2 c2], .int .i64 2]) ∧ Below w.heap.size w w' := by
  obtain ⟨hq, wq, h1, h2, h3, h4, o, hn⟩ := h.ok hf
  refine (Add_any hq wq v1 v2 x w h1 h2 (by have := hf.len; omega) h3 hx).mono ?_
  rintro e w' ⟨u1, u2, R1, R2, rfl, k1, k2, k3, k4, _, k6⟩
  have hz : Dg.addErr (ups hq) (ups wq) x.u = 2 := by
    unfold Dg.addErr
    have hc0 : Dg.check (ups hq) (ups wq) = 0 := Dg.check_ok.mpr o
    have hm : (Dg.more (ups hq ++ ups wq) x.u).length = (Dg.more all x.u).length := by
      unfold Dg.more
      rw [Dg.hasU_congr (m := all) (fun v => by rw [List.mem_append]; exact h4.parts.mem v)]
      split
      · rw [List.length_append, ups_length, ups_length, hn]
      · rw [List.length_append, List.length_append, List.length_append, ups_length, ups_length, hn]
    rw [if_neg (fun h => h hc0), if_neg (fun h => h hc), if_pos (by omega)]
  rw [hz]
  obtain ⟨a1, c1, rfl, hj1⟩ := id k1
  obtain ⟨a2, c2, rfl, hj2⟩ := id k2
  exact ⟨a1, _, c1, a2, _, c2, rfl, k6⟩
theorem Dg.more_le (l : List Wr.Up) (u : Wr.Up) : l.length ≤ (Dg.more l u).length := by
  unfold Dg.more
  split
  · exact Nat.le_refl _
  · rw [List.length_append]; omega
theorem Dg.mores_le : ∀ (us l : List Wr.Up), l.length ≤ (Dg.mores l us).length
  | [], _ => Nat.le_refl _
  | u :: us, l => Nat.le_trans (Dg.more_le l u) (Dg.mores_le us (Dg.more l u))
theorem Dg.mores_app (l us vs : List Wr.Up) : Dg.mores l (us ++ vs) = Dg.mores (Dg.mores l us) vs := List.foldl_append
def Gs.tellErr (l us : List Wr.Up) : Int := if 200 < (Dg.mores l us).length then 2 else 0
theorem Gs.tell_over {l us vs : List Wr.Up} (h : 200 < (Dg.mores l us).length) : Gs.tellErr l (us ++ vs) = 2 := by
  unfold Gs.tellErr
  rw [Dg.mores_app, if_pos (Nat.lt_of_lt_of_le h (Dg.mores_le _ _))]
/-- A replica, or nothing where there is an error. -/
def ReE (M : List Wr.Up) (E : Int) (w : World) (v1 v2 : Value) : Prop := (E = 0 → RepI M w v1 v2) ∧ (E ≠ 0 → v1 = .slice none 0 0 ∧ v2 = .slice none 0 0)
theorem ReE.kn {M : List Wr.Up} {E : Int} {w w' : World} {v1 v2 : Value} (h : ReE M E w v1 v2) (k : Kn w w') : ReE M E w' v1 v2 := ⟨fun e => (h.1 e).kn k, h.2⟩

set_option maxRecDepth 100000 in
set_option maxHeartbeats 4000000 in
theorem told_any (hq wq ph pw : List Uv) (hv wv jv kv : Value) (w : World) (hV : UpsV w hv hq) (wV : UpsV w wv wq) (jV : UpsV w jv ph) (kV : UpsV w kv pw) (hok : ∀ y, y ∈ hq ++ wq → UvOk w y) (jok : ∀ y, y ∈ ph ++ pw → UvOk w y) (o1 : Dg.Ok (ups hq) (ups wq)) (o2 : Dg.Ok (ups ph) (ups pw)) :
    Calls Try.prog 15 #[.agg #[hv, wv], .agg #[jv, kv]] w fun e w' => ∃ a1 n1 c1 a2 n2 c2, e = .returned (.tuple #[.agg #[.slice a1 n1 c1, .slice a2 n2 c2], .int .i64 (Gs.tellErr (ups hq ++ ups wq) (Gs.missing (ups ph) (Dg.heads (ups hq))))]) ∧ ReE (Dg.mores (ups hq ++ ups wq) (Gs.missing (ups ph) (Dg.heads (ups hq)))) (Gs.tellErr (ups hq ++ ups wq) (Gs.missing (ups ph) (Dg.heads (ups hq)))) w' (.slice a1 n1 c1) (.slice a2 n2 c2) ∧ Below w.heap.size w w' := by
  obtain ⟨ah, ch, rfl, q1, q2⟩ := id hV
  obtain ⟨aw, cw, rfl, q3, q4⟩ := id wV
  obtain ⟨aj, cj, rfl, q5, q6⟩ := id jV
  obtain ⟨ak, ck, rfl, q7, q8⟩ := id kV
  clear q1 q2 q3 q4 q5 q6 q7 q8
  have hf1 := o1.few
  have hf2 := o2.few
  rw [ups_length, ups_length] at hf1 hf2
  have HR : Hid (∀ z, Kn w z → UpsV z (.slice ah hq.length ch) hq ∧ UpsV z (.slice aw wq.length cw) wq ∧ (∀ y, y ∈ hq ++ wq → UvOk z y)) := fun z hz => ⟨hV.kn hz, wV.kn hz, fun y hy => (hok y hy).kn hz⟩
  have HJ : Hid (∀ z, Kn w z → UpsV z (.slice aj ph.length cj) ph ∧ UpsV z (.slice ak pw.length ck) pw ∧ (∀ y, y ∈ ph ++ pw → UvOk z y)) := fun z hz => ⟨jV.kn hz, kV.kn hz, fun y hy => (jok y hy).kn hz⟩
  have HO1 : Hid (Dg.Ok (ups hq) (ups wq)) := o1
  have HO2 : Hid (Dg.Ok (ups ph) (ups pw)) := o2
  have H7 : Hid (∀ z, Kn w z → Calls Try.prog 25 #[.agg #[.slice ah hq.length ch, .slice aw wq.length cw]] z fun e w' => ∃ v', e = .returned (.tuple #[v', .int .i64 0]) ∧ IdsV w' v' (Dg.heads (ups hq)) ∧ Below z.heap.size z w') := fun z hz => by
    obtain ⟨k1, k2, k3⟩ := HR.out z hz
    refine (Heads_any hq wq _ _ z k1 k2 (by omega) k3).mono ?_
    rintro e w' ⟨v', rfl, h1, h2⟩
    rw [Dg.check_ok.mpr HO1.out] at h1 ⊢
    exact ⟨v', rfl, h1, h2⟩
  have H21 : Hid (∀ z iv, Kn w z → IdsV z iv (Dg.heads (ups hq)) → Calls Try.prog 11 #[.agg #[.slice aj ph.length cj, .slice ak pw.length ck], iv] z fun e w' => ∃ (v : Value) (R : List Uv), e = .returned (.tuple #[v, .int .i64 0]) ∧ UpsV w' v R ∧ (∀ x, x ∈ R → UvOk w' x) ∧ ups R = Gs.missing (ups ph) (Dg.heads (ups hq)) ∧ Below z.heap.size z w') := fun z iv hz hi => by
    obtain ⟨k1, k2, k3⟩ := HJ.out z hz
    have hle := heads_le hq
    refine (Missing_any ph pw _ _ (Dg.heads (ups hq)) iv z k1 k2 (by omega) k3 hi (by omega)).mono ?_
    rintro e w' ⟨v, R, rfl, h1, h2, h3, h4⟩
    have he : Gs.missErr (ups ph) (ups pw) (Dg.heads (ups hq)) = 0 := by
      unfold Gs.missErr
      rw [if_neg (fun h => h (Dg.check_ok.mpr HO2.out)), if_neg (by omega)]
    unfold Gs.missOut at h3
    rw [if_pos he] at h3
    rw [he]
    exact ⟨v, R, rfl, h1, h2, h3, h4⟩
  have H97 : Hid (∀ z, Kn w z → Calls Try.prog 26 #[.agg #[.slice ah hq.length ch, .slice aw wq.length cw]] z fun e w' => ∃ v, e = .returned v ∧ CpR (ups hq) (ups wq) w' v ∧ Below z.heap.size z w') := fun z hz => by
    obtain ⟨k1, k2, k3⟩ := HR.out z hz
    exact CopyRep_any hq wq _ _ z k1 k2 (by omega) (fun y hy => ⟨k3 y hy, few_of (HO1.out.each y.u (by rw [← ups_append]; exact List.mem_map_of_mem hy))⟩)
  have HMC : Hid (∀ u, u ∈ Gs.missing (ups ph) (Dg.heads (ups hq)) → Wr.check u = 0) := fun u hu => HO2.out.each u (List.mem_append_left _ (List.mem_filter.mp hu).1)
  clear hV wV jV kV hok jok o1 o2
  have HUL : Hid ((Gs.missing (ups ph) (Dg.heads (ups hq))).length ≤ 200) := by
    show List.length _ ≤ 200
    have h2 := List.length_filter_le (fun u => !Gs.knows (ups ph) (Dg.heads (ups hq)) u) (ups ph)
    rw [ups_length] at h2
    unfold Gs.missing
    omega
  obtain ⟨us, hus⟩ : ∃ us, us = Gs.missing (ups ph) (Dg.heads (ups hq)) := ⟨_, rfl⟩
  rw [← hus] at H21 HMC HUL ⊢
  clear hus
  have hu0 := heap_alloc_new w (.cells #[.slice ah hq.length ch, .slice aw wq.length cw] 24)
  have hg0 := new_below w (.cells #[.slice ah hq.length ch, .slice aw wq.length cw] 24)
  have hz0 : (w.alloc (.cells #[.slice ah hq.length ch, .slice aw wq.length cw] 24)).heap.size = w.heap.size + 1 := by simp
  have hu1 := heap_alloc_new (w.alloc (.cells #[.slice ah hq.length ch, .slice aw wq.length cw] 24)) (.cells #[.slice aj ph.length cj, .slice ak pw.length ck] 24)
  have hg1 := new_below (w.alloc (.cells #[.slice ah hq.length ch, .slice aw wq.length cw] 24)) (.cells #[.slice aj ph.length cj, .slice ak pw.length ck] 24)
  rw [hz0] at hu1
  have hz1 : ((w.alloc (.cells #[.slice ah hq.length ch, .slice aw wq.length cw] 24)).alloc (.cells #[.slice aj ph.length cj, .slice ak pw.length ck] 24)).heap.size = w.heap.size + 2 := by simp
  have hu2 := heap_alloc_new ((w.alloc (.cells #[.slice ah hq.length ch, .slice aw wq.length cw] 24)).alloc (.cells #[.slice aj ph.length cj, .slice ak pw.length ck] 24)) (.cells #[.slice none 0 0, .slice none 0 0] 24)
  have hg2 := new_below ((w.alloc (.cells #[.slice ah hq.length ch, .slice aw wq.length cw] 24)).alloc (.cells #[.slice aj ph.length cj, .slice ak pw.length ck] 24)) (.cells #[.slice none 0 0, .slice none 0 0] 24)
  rw [hz1] at hu2
  have hu0' := (hg2.block _ (by rw [hz1]; omega)).trans ((hg1.block _ (by rw [hz0]; omega)).trans hu0)
  have hu1' := (hg2.block _ (by rw [hz1]; omega)).trans hu1
  have hgg := (hg0.trans (hg1.mono hg0.size)).trans (hg2.mono (hg0.trans (hg1.mono hg0.size)).size)
  go_enter Try.func15, Try.ntmps15
  go_upto_region 1 with fail
  clear hu0 hg0 hz0 hu1 hg1 hz1 hg2
  generalize ((w.alloc (.cells #[.slice ah hq.length ch, .slice aw wq.length cw] 24)).alloc (.cells #[.slice aj ph.length cj, .slice ak pw.length ck] 24)).alloc (.cells #[.slice none 0 0, .slice none 0 0] 24) = w1 at *
  have HBX : Hid (∀ z, Below w1.heap.size w1 z → z.heap[w.heap.size]? = some (.cells #[.slice ah hq.length ch, .slice aw wq.length cw] 24) ∧ z.heap[w.heap.size + 1]? = some (.cells #[.slice aj ph.length cj, .slice ak pw.length ck] 24) ∧ z.heap[w.heap.size + 2]? = some (.cells #[.slice none 0 0, .slice none 0 0] 24)) := fun z hz => ⟨(hz.block _ (Array.getElem?_eq_some_iff.1 hu0').1).trans hu0', (hz.block _ (Array.getElem?_eq_some_iff.1 hu1').1).trans hu1', (hz.block _ (Array.getElem?_eq_some_iff.1 hu2).1).trans hu2⟩
  have HG1 : Hid (Below w.heap.size w w1) := hgg
  clear hu0' hu1' hu2 hgg
  have c0 : w1.cell? ⟨w.heap.size, 0, none⟩ = some (.slice ah hq.length ch) := by rw [Lib.cell_of_heap (HBX.out w1 (Below.refl _ _)).1]; rfl
  have c1 : w1.cell? ⟨w.heap.size, 1, none⟩ = some (.slice aw wq.length cw) := by rw [Lib.cell_of_heap (HBX.out w1 (Below.refl _ _)).1]; rfl
  go_upto_region 4 with (go_at_call 25; refine Calls.mono (H7.out w1 (Kn.below HG1.out)) ?_; rintro _ w2 ⟨v', rfl, hI, hb2⟩; obtain ⟨i1, i2, i3, rfl, hI⟩ := ids_of hI)
  have HI : Hid (IdsV w2 (.slice i1 i2 i3) (Dg.heads (ups hq))) := hI
  have HB2 : Hid (Below w1.heap.size w1 w2) := hb2
  have HG2 : Hid (Below w.heap.size w w2) := HG1.out.trans (hb2.mono HG1.out.size)
  clear hI hb2 c0 c1 H7
  have c0 : w2.cell? ⟨w.heap.size + 1, 0, none⟩ = some (.slice aj ph.length cj) := by rw [Lib.cell_of_heap (HBX.out w2 HB2.out).2.1]; rfl
  have c1 : w2.cell? ⟨w.heap.size + 1, 1, none⟩ = some (.slice ak pw.length ck) := by rw [Lib.cell_of_heap (HBX.out w2 HB2.out).2.1]; rfl
  go_upto_region 7 with (go_at_call 11; refine Calls.mono (H21.out w2 _ (Kn.below HG2.out) HI.out) ?_; rintro _ w3 ⟨v, R, rfl, hRV, hRO, hRU, hb3⟩; obtain ⟨ar, cr, rfl, hj⟩ := id hRV; clear hj)
  have HB3 : Hid (Below w1.heap.size w1 w3) := HB2.out.trans (hb3.mono HB2.out.size)
  have HG3 : Hid (Below w.heap.size w w3) := HG1.out.trans (HB3.out.mono HG1.out.size)
  have HRV : Hid (UpsV w3 (.slice ar R.length cr) R) := hRV
  have HRO : Hid (∀ x, x ∈ R → UvOk w3 x) := hRO
  have HRU : Hid (ups R = us) := hRU
  clear hRV hRO hRU hb3 c0 c1 H21 HB2 HG2 HI
  have c0 : w3.cell? ⟨w.heap.size, 0, none⟩ = some (.slice ah hq.length ch) := by rw [Lib.cell_of_heap (HBX.out w3 HB3.out).1]; rfl
  have c1 : w3.cell? ⟨w.heap.size, 1, none⟩ = some (.slice aw wq.length cw) := by rw [Lib.cell_of_heap (HBX.out w3 HB3.out).1]; rfl
  go_wp2_with fail
  refine Calls.mono (H97.out w3 (Kn.below HG3.out)) ?_
  rintro _ w4 ⟨v, rfl, ⟨d1, d2, d3, d4, d5, d6, rfl, hc1, hc2⟩, hb4⟩
  have hB4 : Below w1.heap.size w1 w4 := HB3.out.trans (hb4.mono HB3.out.size)
  have hF := (HBX.out w4 hB4).1
  have z0 : w4.cell? ⟨w.heap.size, 0, none⟩ = some (.slice ah hq.length ch) := by rw [Lib.cell_of_heap hF]; rfl
  have y0 := Lib.frozen_of_heap hF 0
  have k1 : (w4.setCell ⟨w.heap.size, 0, none⟩ (.slice d1 d2 d3)).heap[w.heap.size]? = some (.cells #[.slice d1 d2 d3, .slice aw wq.length cw] 24) := by rw [Lib.heap_setCell_same hF]; rfl
  have z1 : (w4.setCell ⟨w.heap.size, 0, none⟩ (.slice d1 d2 d3)).cell? ⟨w.heap.size, 1, none⟩ = some (.slice aw wq.length cw) := by rw [Lib.cell_of_heap k1]; rfl
  have y1 := Lib.frozen_of_heap k1 1
  have hkn := two_kn (u := .slice d1 d2 d3) (v := .slice d4 d5 d6) hF
  have HRB4 : Hid (Rb w.heap.size w3 (two w4 w.heap.size (.slice d1 d2 d3) (.slice d4 d5 d6))) := (Rb.of hb4 HG3.out.size).trans (Rb.two hF (Nat.le_refl _))
  have HBX4 : Hid (BoxI (Dg.mores (ups hq ++ ups wq) []) (two w4 w.heap.size (.slice d1 d2 d3) (.slice d4 d5 d6)) w.heap.size) := by
    obtain ⟨R1, r1, r2, r3⟩ := hc1.kn hkn
    obtain ⟨R2, s1, s2, s3⟩ := hc2.kn hkn
    refine ⟨_, _, _, _, _, _, two_heap hF, R1, R2, r1, s1, (fun y hy => ?_), ?_⟩
    · rcases List.mem_append.mp hy with h | h
      · exact r2 y h
      · exact s2 y h
    · rw [r3, s3]
      exact HO1.out.is
  have HNN : Hid ((two w4 w.heap.size (.slice d1 d2 d3) (.slice d4 d5 d6)).heap[w.heap.size + 2]? = some (.cells #[.slice none 0 0, .slice none 0 0] 24)) := (two_other (by omega)).trans (HBX.out w4 hB4).2.2
  clear hc1 hc2 hb4 hB4 hF k1 hkn c0 c1 H97
  go_upto_region 8 with fail
  change Code.wp _ _ _ _ (two _ _ _ _)
  clear z0 y0 z1 y1
  generalize two w4 w.heap.size (.slice d1 d2 d3) (.slice d4 d5 d6) = w5 at *
  have HFR : Hid (∀ k, (Dg.mores (ups hq ++ ups wq) (ups (R.take k))).length ≤ 200 → Fair (Dg.mores (ups hq ++ ups wq) (ups (R.take k)))) := fun k hk => by
    refine ⟨Dg.mores_nodup HO1.out.nd, Dg.mores_check HO1.out.each (fun u hu => ?_), hk⟩
    obtain ⟨y, hy, rfl⟩ := List.mem_map.mp hu
    exact HMC.out y.u (by rw [← HRU.out]; exact List.mem_map_of_mem (List.mem_of_mem_take hy))
  have HCH : Hid (∀ x, x ∈ R → Wr.check x.u = 0) := fun x hx => HMC.out x.u (by rw [← HRU.out]; exact List.mem_map_of_mem hx)
  have HL0 : Hid (((ups hq ++ ups wq)).length ≤ 200) := by show List.length _ ≤ 200; rw [List.length_append, ups_length, ups_length]; exact hf1
  have hRl : R.length ≤ 200 := by
    have h1 := congrArg List.length HRU.out
    rw [ups_length] at h1
    rw [h1]
    exact HUL.out
  go_wp2_with fail
  go_loopw [34] (fun iv wr => ∃ k : Nat, k ≤ R.length ∧ iv = .int .i64 k ∧ Hid (BoxI (Dg.mores (ups hq ++ ups wq) (ups (R.take k))) wr w.heap.size) ∧ Hid ((Dg.mores (ups hq ++ ups wq) (ups (R.take k))).length ≤ 200) ∧ Hid (Rb w.heap.size w3 wr) ∧ Hid (wr.heap[w.heap.size + 2]? = some (.cells #[.slice none 0 0, .slice none 0 0] 24))) (fun iv _ => R.length - (intOf iv).toNat)
  case atStart => exact ⟨0, Nat.zero_le _, rfl, HBX4.out, HL0.out, HRB4.out, HNN.out⟩
  case round =>
    clear HBX4 HRB4 HNN HL0
    obtain ⟨k, hk, rfl, HA, HLN, HRB, HNN⟩ := hrel
    by_cases hlt : k < R.length
    · have g1 : decide (k < R.length) = true := decide_eq_true hlt
      have g1' : decide ((k : Int) < (R.length : Int)) = true := decide_eq_true (by omega)
      have HSA : Hid (Dg.mores (ups hq ++ ups wq) (ups (R.take (k + 1))) = Dg.more (Dg.mores (ups hq ++ ups wq) (ups (R.take k))) (uvD R k).u) := by show _ = _; rw [uvD_take R k hlt, ups_append]; exact Dg.mores_snoc _ _ _
      have HOV : Hid (200 < (Dg.mores (ups hq ++ ups wq) (ups (R.take (k + 1)))).length → Gs.tellErr (ups hq ++ ups wq) us = 2) := fun h => by
        have e : us = ups (R.take (k + 1)) ++ ups (R.drop (k + 1)) := by rw [← HRU.out, ← ups_append, List.take_append_drop]
        rw [e]
        exact Gs.tell_over h
      have HF1 : Hid _ := HFR.out k HLN.out
      have HC1 : Hid (Wr.check (uvD R k).u = 0) := HCH.out _ (uvD_mem R k hlt)
      obtain ⟨ar', cr', er, _, hAA⟩ := HRV.out.kn HRB.out.2.1
      cases er
      obtain ⟨b, off, eb, p0, p1, p2, p3, p4⟩ := ups_at hAA k hlt
      have hxo := (HRO.out _ (uvD_mem R k hlt)).kn HRB.out.2.1
      clear hAA
      generalize Dg.mores (ups hq ++ ups wq) (ups (R.take k)) = M at *
      generalize uvD R k = x at *
      obtain ⟨b1, m1, f1, b2, m2, f2, b3, m3, f3, e1, e2, e3⟩ := hxo.forms
      have HX : Hid (UvOk wr x) := hxo
      clear hxo
      obtain ⟨⟨⟨va, vn⟩, ps, says, ts⟩, vp, vs, vt⟩ := x
      dsimp only at *
      subst e1 e2 e3
      subst eb
      have b6 := heap_alloc_new wr (.cells #[.int .i64 va, .int .i64 vn, .slice b1 m1 f1, .slice b2 m2 f2, .slice b3 m3 f3] 34)
      have g6 := new_below wr (.cells #[.int .i64 va, .int .i64 vn, .slice b1 m1 f1, .slice b2 m2 f2, .slice b3 m3 f3] 34)
      go_upto_region 11 with fail
      clear p0 p1 p2 p3 p4
      generalize wr.alloc (.cells #[.int .i64 va, .int .i64 vn, .slice b1 m1 f1, .slice b2 m2 f2, .slice b3 m3 f3] 34) = w6 at *
      have HA6 : Hid (BoxI M w6 w.heap.size) := HA.out.below g6
      have HRB6 : Hid (Rb w.heap.size w3 w6) := HRB.out.trans (Rb.of g6 (Nat.le_trans HG3.out.size HRB.out.1.size))
      have HNN6 : Hid (w6.heap[w.heap.size + 2]? = some (.cells #[.slice none 0 0, .slice none 0 0] 24)) := (g6.block _ (Array.getElem?_eq_some_iff.1 HNN.out).1).trans HNN.out
      have HX6 : Hid (UvOk w6 ⟨⟨⟨va, vn⟩, ps, says, ts⟩, .slice b1 m1 f1, .slice b2 m2 f2, .slice b3 m3 f3⟩) := HX.out.below g6
      have t0 : w6.cell? ⟨wr.heap.size, 0, none⟩ = some (.int .i64 va) := by rw [Lib.cell_of_heap b6]; rfl
      have t1 : w6.cell? ⟨wr.heap.size, 1, none⟩ = some (.int .i64 vn) := by rw [Lib.cell_of_heap b6]; rfl
      have t2 : w6.cell? ⟨wr.heap.size, 2, none⟩ = some (.slice b1 m1 f1) := by rw [Lib.cell_of_heap b6]; rfl
      have t3 : w6.cell? ⟨wr.heap.size, 3, none⟩ = some (.slice b2 m2 f2) := by rw [Lib.cell_of_heap b6]; rfl
      have t4 : w6.cell? ⟨wr.heap.size, 4, none⟩ = some (.slice b3 m3 f3) := by rw [Lib.cell_of_heap b6]; rfl
      obtain ⟨r1, r2, r3, r4, r5, r6, hF6, hRep⟩ := HA6.out
      have c0 : w6.cell? ⟨w.heap.size, 0, none⟩ = some (.slice r1 r2 r3) := by rw [Lib.cell_of_heap hF6]; rfl
      have c1 : w6.cell? ⟨w.heap.size, 1, none⟩ = some (.slice r4 r5 r6) := by rw [Lib.cell_of_heap hF6]; rfl
      have hs6 : w.heap.size ≤ w6.heap.size := Nat.le_trans HG3.out.size HRB6.out.1.size
      clear b6 g6 HA HRB HNN HX
      by_cases hov : (Dg.more M ⟨⟨va, vn⟩, ps, says, ts⟩).length ≤ 200
      · have HAD : Hid _ := add_fit HF1.out _ _ ⟨⟨⟨va, vn⟩, ps, says, ts⟩, .slice b1 m1 f1, .slice b2 m2 f2, .slice b3 m3 f3⟩ w6 hRep HX6.out HC1.out hov
        go_wp2_with fail
        refine Calls.mono HAD.out ?_
        rintro _ w7 ⟨v, rfl, ⟨d1, d2, d3, d4, d5, d6, rfl, hrn⟩, hb7⟩
        have hF := (hb7.block _ (Array.getElem?_eq_some_iff.1 hF6).1).trans hF6
        have z0 : w7.cell? ⟨w.heap.size, 0, none⟩ = some (.slice r1 r2 r3) := by rw [Lib.cell_of_heap hF]; rfl
        have y0 := Lib.frozen_of_heap hF 0
        have k1 : (w7.setCell ⟨w.heap.size, 0, none⟩ (.slice d1 d2 d3)).heap[w.heap.size]? = some (.cells #[.slice d1 d2 d3, .slice r4 r5 r6] 24) := by rw [Lib.heap_setCell_same hF]; rfl
        have z1 : (w7.setCell ⟨w.heap.size, 0, none⟩ (.slice d1 d2 d3)).cell? ⟨w.heap.size, 1, none⟩ = some (.slice r4 r5 r6) := by rw [Lib.cell_of_heap k1]; rfl
        have y1 := Lib.frozen_of_heap k1 1
        have hkn := two_kn (u := .slice d1 d2 d3) (v := .slice d4 d5 d6) hF
        have HN1 : Hid (BoxI (Dg.more M ⟨⟨va, vn⟩, ps, says, ts⟩) (two w7 w.heap.size (.slice d1 d2 d3) (.slice d4 d5 d6)) w.heap.size) := ⟨_, _, _, _, _, _, two_heap hF, hrn.kn hkn⟩
        have HN2 : Hid (Rb w.heap.size w3 (two w7 w.heap.size (.slice d1 d2 d3) (.slice d4 d5 d6))) := (HRB6.out.trans (Rb.of hb7 hs6)).trans (Rb.two hF (Nat.le_refl _))
        have HN3 : Hid ((two w7 w.heap.size (.slice d1 d2 d3) (.slice d4 d5 d6)).heap[w.heap.size + 2]? = some (.cells #[.slice none 0 0, .slice none 0 0] 24)) := (two_other (by omega)).trans ((hb7.block _ (Array.getElem?_eq_some_iff.1 HNN6.out).1).trans HNN6.out)
        clear hkn k1 hF hF6 hRep hrn hb7 HAD t0 t1 t2 t3 t4 c0 c1 HNN6 HRB6 HA6 HX6 HOV
        rw [← HSA.out] at HN1 hov
        go_upto_region 12 with fail
        change Code.wp _ _ _ _ (two _ _ _ _)
        clear z0 y0 z1 y1
        generalize two w7 w.heap.size (.slice d1 d2 d3) (.slice d4 d5 d6) = w8 at *
        have HOL : Hid ((Dg.mores (ups hq ++ ups wq) (ups (R.take (k + 1)))).length ≤ 200) := hov
        clear hov HSA
        go_wp2_with fail
        go_roundw
        case rel => exact ⟨k + 1, hlt, by go_num, HN1.out, HOL.out, HN2.out, HN3.out⟩
        case measure => simp [intOf]; omega
      · have HAD : Hid _ := add_over HF1.out _ _ ⟨⟨⟨va, vn⟩, ps, says, ts⟩, .slice b1 m1 f1, .slice b2 m2 f2, .slice b3 m3 f3⟩ w6 hRep HX6.out HC1.out (Nat.lt_of_not_le hov)
        have HE2 : Hid (Gs.tellErr (ups hq ++ ups wq) us = 2) := HOV.out (by rw [HSA.out]; exact Nat.lt_of_not_le hov)
        go_wp2_with fail
        refine Calls.mono HAD.out ?_
        rintro _ w7 ⟨d1, d2, d3, d4, d5, d6, rfl, hb7⟩
        have hF := (hb7.block _ (Array.getElem?_eq_some_iff.1 hF6).1).trans hF6
        have z0 : w7.cell? ⟨w.heap.size, 0, none⟩ = some (.slice r1 r2 r3) := by rw [Lib.cell_of_heap hF]; rfl
        have y0 := Lib.frozen_of_heap hF 0
        have k1 : (w7.setCell ⟨w.heap.size, 0, none⟩ (.slice d1 d2 d3)).heap[w.heap.size]? = some (.cells #[.slice d1 d2 d3, .slice r4 r5 r6] 24) := by rw [Lib.heap_setCell_same hF]; rfl
        have z1 : (w7.setCell ⟨w.heap.size, 0, none⟩ (.slice d1 d2 d3)).cell? ⟨w.heap.size, 1, none⟩ = some (.slice r4 r5 r6) := by rw [Lib.cell_of_heap k1]; rfl
        have y1 := Lib.frozen_of_heap k1 1
        have HN2 : Hid (Rb w.heap.size w3 (two w7 w.heap.size (.slice d1 d2 d3) (.slice d4 d5 d6))) := (HRB6.out.trans (Rb.of hb7 hs6)).trans (Rb.two hF (Nat.le_refl _))
        have HN3 : Hid ((two w7 w.heap.size (.slice d1 d2 d3) (.slice d4 d5 d6)).heap[w.heap.size + 2]? = some (.cells #[.slice none 0 0, .slice none 0 0] 24)) := (two_other (by omega)).trans ((hb7.block _ (Array.getElem?_eq_some_iff.1 HNN6.out).1).trans HNN6.out)
        clear k1 hF hF6 hRep hb7 HAD t0 t1 t2 t3 t4 c0 c1 HNN6 HRB6 HA6 HX6 HOV hov HSA
        go_upto_region 12 with fail
        change Code.wp _ _ _ _ (two _ _ _ _)
        clear z0 y0 z1 y1
        generalize two w7 w.heap.size (.slice d1 d2 d3) (.slice d4 d5 d6) = w8 at *
        have hF := HN3.out
        have z0 : w8.cell? ⟨w.heap.size + 2, 0, none⟩ = some (.slice none 0 0) := by rw [Lib.cell_of_heap hF]; rfl
        have y0 := Lib.frozen_of_heap hF 0
        have k1 : (w8.setCell ⟨w.heap.size + 2, 0, none⟩ (.slice none 0 0)).heap[w.heap.size + 2]? = some (.cells #[.slice none 0 0, .slice none 0 0] 24) := by rw [Lib.heap_setCell_same hF]; rfl
        have z1 : (w8.setCell ⟨w.heap.size + 2, 0, none⟩ (.slice none 0 0)).cell? ⟨w.heap.size + 2, 1, none⟩ = some (.slice none 0 0) := by rw [Lib.cell_of_heap k1]; rfl
        have y1 := Lib.frozen_of_heap k1 1
        have HH9 : Hid ((two w8 (w.heap.size + 2) (.slice none 0 0) (.slice none 0 0)).heap[w.heap.size + 2]? = some (.cells #[.slice none 0 0, .slice none 0 0] 24)) := two_heap hF
        have HB9 : Hid (Below w.heap.size w (two w8 (w.heap.size + 2) (.slice none 0 0) (.slice none 0 0))) := two_below (HG3.out.trans HN2.out.1) (by omega) _ _
        clear k1 hF
        go_wp2_with fail
        clear z0 y0 z1 y1
        change bodyPost _ _ _ _ _ (two _ _ _ _)
        generalize two w8 (w.heap.size + 2) (.slice none 0 0) (.slice none 0 0) = w9 at *
        have t0 : w9.cell? ⟨w.heap.size + 2, 0, none⟩ = some (.slice none 0 0) := by rw [Lib.cell_of_heap HH9.out]; rfl
        have t1 : w9.cell? ⟨w.heap.size + 2, 1, none⟩ = some (.slice none 0 0) := by rw [Lib.cell_of_heap HH9.out]; rfl
        rw [HE2.out]
        exact bodyPost_ret (v := .tuple #[.agg #[.slice none 0 0, .slice none 0 0], .int .i64 2]) (by simp [results, Try.results15, go_sem, t0, t1]) rfl ⟨none, 0, 0, none, 0, 0, rfl, ⟨(fun h => absurd h (by decide)), fun _ => ⟨rfl, rfl⟩⟩, HB9.out⟩
    · have g1 : decide (k < R.length) = false := decide_eq_false hlt
      have g1' : decide ((k : Int) < (R.length : Int)) = false := decide_eq_false (by omega)
      have e1 : R.take k = R := List.take_of_length_le (by omega)
      rw [e1, HRU.out] at HA HLN
      have HE0 : Hid (Gs.tellErr (ups hq ++ ups wq) us = 0) := by show _ = _; unfold Gs.tellErr; rw [if_neg (by have := HLN.out; omega)]
      obtain ⟨d1, d2, d3, d4, d5, d6, hFA, hRep⟩ := HA.out
      have c0 : wr.cell? ⟨w.heap.size, 0, none⟩ = some (.slice d1 d2 d3) := by rw [Lib.cell_of_heap hFA]; rfl
      have c1 : wr.cell? ⟨w.heap.size, 1, none⟩ = some (.slice d4 d5 d6) := by rw [Lib.cell_of_heap hFA]; rfl
      have hF := HNN.out
      have z0 : wr.cell? ⟨w.heap.size + 2, 0, none⟩ = some (.slice none 0 0) := by rw [Lib.cell_of_heap hF]; rfl
      have y0 := Lib.frozen_of_heap hF 0
      have k1 : (wr.setCell ⟨w.heap.size + 2, 0, none⟩ (.slice d1 d2 d3)).heap[w.heap.size + 2]? = some (.cells #[.slice d1 d2 d3, .slice none 0 0] 24) := by rw [Lib.heap_setCell_same hF]; rfl
      have z1 : (wr.setCell ⟨w.heap.size + 2, 0, none⟩ (.slice d1 d2 d3)).cell? ⟨w.heap.size + 2, 1, none⟩ = some (.slice none 0 0) := by rw [Lib.cell_of_heap k1]; rfl
      have y1 := Lib.frozen_of_heap k1 1
      have HH9 : Hid ((two wr (w.heap.size + 2) (.slice d1 d2 d3) (.slice d4 d5 d6)).heap[w.heap.size + 2]? = some (.cells #[.slice d1 d2 d3, .slice d4 d5 d6] 24)) := two_heap hF
      have HR9 : Hid (RepI (Dg.mores (ups hq ++ ups wq) us) (two wr (w.heap.size + 2) (.slice d1 d2 d3) (.slice d4 d5 d6)) (.slice d1 d2 d3) (.slice d4 d5 d6)) := hRep.kn (two_kn hF)
      have HB9 : Hid (Below w.heap.size w (two wr (w.heap.size + 2) (.slice d1 d2 d3) (.slice d4 d5 d6))) := two_below (HG3.out.trans HRB.out.1) (by omega) _ _
      clear k1 hF hFA hRep e1
      go_wp2_with fail
      clear z0 y0 z1 y1 c0 c1
      change bodyPost _ _ _ _ _ (two _ _ _ _)
      generalize two wr (w.heap.size + 2) (.slice d1 d2 d3) (.slice d4 d5 d6) = w9 at *
      have t0 : w9.cell? ⟨w.heap.size + 2, 0, none⟩ = some (.slice d1 d2 d3) := by rw [Lib.cell_of_heap HH9.out]; rfl
      have t1 : w9.cell? ⟨w.heap.size + 2, 1, none⟩ = some (.slice d4 d5 d6) := by rw [Lib.cell_of_heap HH9.out]; rfl
      rw [HE0.out]
      exact bodyPost_ret (v := .tuple #[.agg #[.slice d1 d2 d3, .slice d4 d5 d6], .int .i64 0]) (by simp [results, Try.results15, go_sem, t0, t1]) rfl ⟨d1, d2, d3, d4, d5, d6, rfl, ⟨(fun _ => HR9.out), fun h => absurd rfl h⟩, HB9.out⟩
end Go.Proofs.Ytmfaodapofamfaa

/- The law DagAny: in whatever order updates with different ids are added, the replica is the same. -/
namespace Go.Proofs.Ytmfaodapofamfaa
open Go.RowKit

theorem box_store {z : World} {X F : Nat} {u v x y : Value} {a1 a2 : Option Addr} {n1 c1 n2 c2 : Nat} (hF : z.heap[F]? = some (.cells #[.slice a1 n1 c1, .slice a2 n2 c2] 24)) (hX : X ≠ F) (h0 : z.cell? ⟨X, 0, none⟩ = some x) (h1 : z.cell? ⟨X, 1, none⟩ = some y) :
    z.cell? ⟨F, 0, none⟩ = some (.slice a1 n1 c1) ∧ z.frozen? ⟨F, 0, none⟩ = false ∧ (z.setCell ⟨F, 0, none⟩ u).cell? ⟨F, 1, none⟩ = some (.slice a2 n2 c2) ∧ (z.setCell ⟨F, 0, none⟩ u).frozen? ⟨F, 1, none⟩ = false ∧
    ((z.setCell ⟨F, 0, none⟩ u).setCell ⟨F, 1, none⟩ v).cell? ⟨X, 0, none⟩ = some x ∧ ((z.setCell ⟨F, 0, none⟩ u).setCell ⟨F, 1, none⟩ v).cell? ⟨X, 1, none⟩ = some y := by
  have k1 : (z.setCell ⟨F, 0, none⟩ u).heap[F]? = some (.cells #[u, .slice a2 n2 c2] 24) := by rw [Lib.heap_setCell_same hF]; rfl
  have ho : ((z.setCell ⟨F, 0, none⟩ u).setCell ⟨F, 1, none⟩ v).heap[X]? = z.heap[X]? := two_other hX
  exact ⟨by rw [Lib.cell_of_heap hF]; rfl, Lib.frozen_of_heap hF 0, by rw [Lib.cell_of_heap k1]; rfl, Lib.frozen_of_heap k1 1, by rw [cell_heap ho]; exact h0, by rw [cell_heap ho]; exact h1⟩
end Go.Proofs.Ytmfaodapofamfaa

