/- Own texts, one behind the other (part 4). -/
import Derived.Test.YtmfaodapofamfaaBundleC
import Derived.Test.YtmfaodapofamfaaRows
import Derived.SizedLaws
import Derived.Deep.Slices
/- Package update: Copies. -/
namespace Go.Proofs.Ytmfaodapofamfaa
open Go.RowKit

theorem cell_set_ne {w : World} {g o o' : Nat} (u : Value) (h : o ≠ o') : (w.setCell ⟨g, o, none⟩ u).cell? ⟨g, o', none⟩ = w.cell? ⟨g, o', none⟩ := by
  apply World.cell?_setCell_other
  intro e
  exact h (by injection e)
theorem set_app (y : Uv) (F : List Value) (k : Nat) (u : Value) : (uvCells y ++ F).set (k + 5) u = uvCells y ++ F.set k u := rfl
theorem flat5_set : ∀ (q : List Uv) (m : Nat) (x : Uv), m < q.length → ((q.set m x).map uvCells).flatten = ((((((q.map uvCells).flatten.set (m * 5) (.int .i64 x.u.id.a)).set (m * 5 + 1) (.int .i64 x.u.id.n)).set (m * 5 + 2) x.p).set (m * 5 + 3) x.s).set (m * 5 + 4) x.t)
  | [], m, x, h => absurd h (by simp)
  | y :: r, 0, x, _ => rfl
  | y :: r, m + 1, x, h => by
    have ih := flat5_set r m x (by simpa using h)
    have e0 : (m + 1) * 5 = m * 5 + 5 := by omega
    have e : ∀ i, m * 5 + 5 + i = (m * 5 + i) + 5 := fun i => by omega
    show uvCells y ++ ((r.set m x).map uvCells).flatten = ((((((uvCells y ++ (r.map uvCells).flatten).set ((m + 1) * 5) (.int .i64 x.u.id.a)).set ((m + 1) * 5 + 1) (.int .i64 x.u.id.n)).set ((m + 1) * 5 + 2) x.p).set ((m + 1) * 5 + 3) x.s).set ((m + 1) * 5 + 4) x.t)
    rw [ih, e0, e, e, e, e, set_app, set_app, set_app, set_app, set_app]
theorem row_in {w : World} {B g cap : Nat} {q : List Uv} (h : URow w B (.slice (some ⟨g, 0, none⟩) q.length cap) q) {m : Nat} (hm : m < q.length) : UpIn w g (m * 5) (uvD q m) := by
  have key : ∀ j, j < 5 → w.cell? ⟨g, m * 5 + j, none⟩ = (uvCells (uvD q m))[j]? := fun j hj => by
    rw [World.ownsRow.cellAt h (m * 5 + j) (by omega), flat5_get q m j hm hj]
  exact ⟨key 0 (by omega), key 1 (by omega), key 2 (by omega), key 3 (by omega), key 4 (by omega)⟩
theorem uvD_of {q : List Uv} {m : Nat} {x : Uv} (h : q[m]? = some x) : uvD q m = x := by
  unfold uvD
  rw [List.getD_eq_getElem?_getD, h]
  rfl
theorem get_uvD {q : List Uv} {m : Nat} (h : m < q.length) : q[m]? = some (uvD q m) := by
  unfold uvD
  rw [List.getD_eq_getElem?_getD, List.getElem?_eq_getElem h]
  rfl
/-- An update that Copy may be handed. -/
structure Few (u : Wr.Up) : Prop where
  l : u.ps.length ≤ 6 ∧ u.says.length ≤ 6 ∧ u.ts.length ≤ 6
  f : ∀ f, f ∈ u.says → f.args.length ≤ 3
theorem few_of {u : Wr.Up} (h : Wr.check u = 0) : Few u := by
  have r := Wr.right_of h
  refine ⟨⟨r.ps, r.says, r.ts⟩, fun f hf => ?_⟩
  have := r.fs f hf
  unfold Wr.factOk at this
  rw [Bool.and_eq_true, decide_eq_true_eq] at this
  exact this.1.2.2
set_option maxRecDepth 100000 in
set_option maxHeartbeats 4000000 in
theorem Copies_any (q : List Uv) (v : Value) (w : World) (hV : UpsV w v q) (hok : ∀ x, x ∈ q → UvOk w x) (hfew : ∀ x, x ∈ q → Few x.u) (hl : q.length ≤ 1000) :
    Calls Try.prog 56 #[v] w fun e w' => ∃ (R : List Uv) (v' : Value), e = .returned v' ∧ URow w' w.heap.size v' R ∧ ups R = ups q ∧ (∀ x, x ∈ R → UvP w.heap.size w' x) ∧ Below w.heap.size w w' := by
  have HO : Hid (∀ x, x ∈ q → UvOk w x ∧ Few x.u) := fun x hx => ⟨hok x hx, hfew x hx⟩
  have HC : Hid (Calls Try.prog 70 #[v] w fun e w' => ∃ v', e = .returned v' ∧ URow w' w.heap.size v' q ∧ Below w.heap.size w w') := cloneUps_any q v w hV hok hl
  obtain ⟨av, cv, rfl, _⟩ := hV
  clear hok hfew
  go_enter Try.func56, Try.ntmps56
  go_upto_region 2 with (go_at_call 70; refine Calls.mono HC.out ?_; rintro e w1 ⟨v1, rfl, hrow1, hb1⟩; obtain ⟨ar, cr, rfl⟩ := own_slice hrow1)
  clear HC
  go_wp2_with fail
  go_loopw [9] (fun i wr => ∃ (m : Nat) (R : List Uv), m ≤ q.length ∧ i = .int .i64 m ∧ R.length = q.length ∧ wr.ownsRow w.heap.size 34 5 (.slice ar q.length cr) q.length (R.map uvCells).flatten ∧ Hid (ups R = ups q) ∧ Hid (∀ j, m ≤ j → R[j]? = q[j]?) ∧ Hid (∀ j p, j < m → R[j]? = some p → UvP w1.heap.size wr p) ∧ Below w.heap.size w wr ∧ w1.heap.size ≤ wr.heap.size) (fun i _ => q.length - (intOf i).toNat)
  case atStart => exact ⟨0, q, Nat.zero_le _, rfl, rfl, hrow1, rfl, fun _ _ => rfl, fun j p hj => absurd hj (by omega), hb1, Nat.le_refl _⟩
  case round =>
  have hrow0 := hrow1
  have hszw : Hid (w.heap.size ≤ w1.heap.size) := hb1.size
  clear hrow1 hb1
  obtain ⟨m, R, hm, rfl, hRl, hrow, HU, HREST, HARGS, hb, hsz⟩ := hrel
  have HRL : Hid (R.length = q.length) := hRl
  clear hRl
  by_cases hlt : m < q.length
  · obtain ⟨g, rfl⟩ : ∃ g, ar = some ⟨g, 0, none⟩ := by
      rcases ownsRow_forms9 hrow with ⟨_, h0⟩ | ⟨g, c, hv⟩
      · omega
      · injection hv with hv
        exact ⟨g, hv⟩
    have hglt : g < w1.heap.size := (hrow0.lt g rfl).2
    have hgle : w.heap.size ≤ g := (hrow0.lt g rfl).1
    clear hrow0
    have hrow : URow wr w.heap.size (.slice (some ⟨g, 0, none⟩) R.length cr) R := by
      show World.ownsRow _ _ _ _ _ _ _
      rw [HRL.out]
      exact hrow
    have hxq : R[m]? = some (uvD q m) := (HREST.out m (Nat.le_refl _)).trans (get_uvD hlt)
    have hin := row_in hrow (m := m) (by rw [HRL.out]; exact hlt)
    rw [uvD_of hxq] at hin
    have hmem := uvD_mem q m hlt
    have HX : Hid (UvOk wr (uvD q m) ∧ Few (uvD q m).u) := ⟨(HO.out _ hmem).1.below hb, (HO.out _ hmem).2⟩
    have HXQ : Hid (R[m]? = some (uvD q m) ∧ q[m]? = some (uvD q m)) := ⟨hxq, get_uvD hlt⟩
    clear hxq hmem
    generalize uvD q m = x at *
    have HCC : Hid (∀ z, Below wr.heap.size wr z → Calls Try.prog 21 #[uvVal x] z fun e w' => ∃ x' : Uv, e = .returned (uvVal x') ∧ x'.u = x.u ∧ UvP z.heap.size w' x' ∧ Below z.heap.size z w') := fun z hz => Copy_any x z (HX.out.1.below hz) HX.out.2.l HX.out.2.f
    obtain ⟨a1, n1, d1, a2, n2, d2, a3, n3, d3, e1, e2, e3⟩ := HX.out.1.forms
    have HXX : Hid (∃ y : Uv, y = x) := ⟨x, rfl⟩
    obtain ⟨⟨⟨ua, un⟩, ps, says, ts⟩, vp, vs, vt⟩ := x
    dsimp only at *
    subst e1 e2 e3
    obtain ⟨c0, c1, c2, c3, c4⟩ := id hin
    dsimp only at c0 c1 c2 c3 c4
    have HBN : Hid (Below wr.heap.size wr (wr.alloc (.cells #[.int .i64 ua, .int .i64 un, .slice a1 n1 d1, .slice a2 n2 d2, .slice a3 n3 d3] 34))) := (Below.refl _ _).alloc (Nat.le_refl _) _
    go_wp2_with fail
    refine Calls.mono (HCC.out _ HBN.out) ?_
    rintro e w7 ⟨x', rfl, hxu, hxp, hb7⟩
    have hb7 := HBN.out.trans (hb7.mono HBN.out.size)
    have hxp : UvP w1.heap.size w7 x' := hxp.le (by have := HBN.out.size; omega)
    obtain ⟨p1, l1, k1, p2, l2, k2, p3, l3, k3, f1, f2, f3⟩ := hxp.ok.forms
    have HXP : Hid (UvP w1.heap.size w7 x' ∧ x'.u = _) := ⟨hxp, hxu⟩
    clear hxp hxu HX HXX c0 c1 c2 c3 c4
    obtain ⟨⟨⟨xa, xn⟩, ps', says', ts'⟩, vp', vs', vt'⟩ := x'
    dsimp only at *
    subst f1 f2 f3
    have hr7 := (Kc.below hb7).up hin
    have hrow7 := ownsRow_below hrow hb7
    dsimp only [UpIn] at hr7
    have rz0 : (w7).cell? ⟨g, m * 5, none⟩ = some (.int .i64 ua) := by exact hr7.1
    have ry0 : (w7).frozen? ⟨g, m * 5, none⟩ = false := by exact World.ownsRow.frozenAt hrow7 _
    have rz1 : ((w7).setCell ⟨g, m * 5, none⟩ (.int .i64 xa)).cell? ⟨g, m * 5 + 1, none⟩ = some (.int .i64 un) := by rw [cell_set_ne _ (by omega)]; exact hr7.2.1
    have ry1 : ((w7).setCell ⟨g, m * 5, none⟩ (.int .i64 xa)).frozen? ⟨g, m * 5 + 1, none⟩ = false := by rw [World.frozen?_setCell]; exact World.ownsRow.frozenAt hrow7 _
    have rz2 : (((w7).setCell ⟨g, m * 5, none⟩ (.int .i64 xa)).setCell ⟨g, m * 5 + 1, none⟩ (.int .i64 xn)).cell? ⟨g, m * 5 + 2, none⟩ = some (.slice a1 n1 d1) := by rw [cell_set_ne _ (by omega)]; rw [cell_set_ne _ (by omega)]; exact hr7.2.2.1
    have ry2 : (((w7).setCell ⟨g, m * 5, none⟩ (.int .i64 xa)).setCell ⟨g, m * 5 + 1, none⟩ (.int .i64 xn)).frozen? ⟨g, m * 5 + 2, none⟩ = false := by rw [World.frozen?_setCell]; rw [World.frozen?_setCell]; exact World.ownsRow.frozenAt hrow7 _
    have rz3 : ((((w7).setCell ⟨g, m * 5, none⟩ (.int .i64 xa)).setCell ⟨g, m * 5 + 1, none⟩ (.int .i64 xn)).setCell ⟨g, m * 5 + 2, none⟩ (.slice p1 l1 k1)).cell? ⟨g, m * 5 + 3, none⟩ = some (.slice a2 n2 d2) := by rw [cell_set_ne _ (by omega)]; rw [cell_set_ne _ (by omega)]; rw [cell_set_ne _ (by omega)]; exact hr7.2.2.2.1
    have ry3 : ((((w7).setCell ⟨g, m * 5, none⟩ (.int .i64 xa)).setCell ⟨g, m * 5 + 1, none⟩ (.int .i64 xn)).setCell ⟨g, m * 5 + 2, none⟩ (.slice p1 l1 k1)).frozen? ⟨g, m * 5 + 3, none⟩ = false := by rw [World.frozen?_setCell]; rw [World.frozen?_setCell]; rw [World.frozen?_setCell]; exact World.ownsRow.frozenAt hrow7 _
    have rz4 : (((((w7).setCell ⟨g, m * 5, none⟩ (.int .i64 xa)).setCell ⟨g, m * 5 + 1, none⟩ (.int .i64 xn)).setCell ⟨g, m * 5 + 2, none⟩ (.slice p1 l1 k1)).setCell ⟨g, m * 5 + 3, none⟩ (.slice p2 l2 k2)).cell? ⟨g, m * 5 + 4, none⟩ = some (.slice a3 n3 d3) := by rw [cell_set_ne _ (by omega)]; rw [cell_set_ne _ (by omega)]; rw [cell_set_ne _ (by omega)]; rw [cell_set_ne _ (by omega)]; exact hr7.2.2.2.2
    have ry4 : (((((w7).setCell ⟨g, m * 5, none⟩ (.int .i64 xa)).setCell ⟨g, m * 5 + 1, none⟩ (.int .i64 xn)).setCell ⟨g, m * 5 + 2, none⟩ (.slice p1 l1 k1)).setCell ⟨g, m * 5 + 3, none⟩ (.slice p2 l2 k2)).frozen? ⟨g, m * 5 + 4, none⟩ = false := by rw [World.frozen?_setCell]; rw [World.frozen?_setCell]; rw [World.frozen?_setCell]; rw [World.frozen?_setCell]; exact World.ownsRow.frozenAt hrow7 _
    have hput : URow ((((((w7).setCell ⟨g, m * 5, none⟩ (.int .i64 xa)).setCell ⟨g, m * 5 + 1, none⟩ (.int .i64 xn)).setCell ⟨g, m * 5 + 2, none⟩ (.slice p1 l1 k1)).setCell ⟨g, m * 5 + 3, none⟩ (.slice p2 l2 k2)).setCell ⟨g, m * 5 + 4, none⟩ (.slice p3 l3 k3)) w.heap.size (.slice (some ⟨g, 0, none⟩) R.length cr) (R.set m ⟨⟨⟨xa, xn⟩, ps', says', ts'⟩, .slice p1 l1 k1, .slice p2 l2 k2, .slice p3 l3 k3⟩) := by
      show World.ownsRow _ _ _ _ _ _ _
      rw [List.length_set, flat5_set R m _ (by rw [HRL.out]; exact hlt)]
      exact (World.ownsRow.stored (World.ownsRow.stored (World.ownsRow.stored (World.ownsRow.stored (World.ownsRow.stored hrow7 (m * 5) _).1 (m * 5 + 1) _).1 (m * 5 + 2) _).1 (m * 5 + 3) _).1 (m * 5 + 4) _).1
    have HGR : Hid (w7.grownBy ((((((w7).setCell ⟨g, m * 5, none⟩ (.int .i64 xa)).setCell ⟨g, m * 5 + 1, none⟩ (.int .i64 xn)).setCell ⟨g, m * 5 + 2, none⟩ (.slice p1 l1 k1)).setCell ⟨g, m * 5 + 3, none⟩ (.slice p2 l2 k2)).setCell ⟨g, m * 5 + 4, none⟩ (.slice p3 l3 k3)) (some g)) := ((((grown_set w7 _ _ _).trans_row (grown_set _ _ _ _)).trans_row (grown_set _ _ _ _)).trans_row (grown_set _ _ _ _)).trans_row (grown_set _ _ _ _)
    have hsz7 := hb7.size
    have HB8 : Hid (Below w.heap.size w ((((((w7).setCell ⟨g, m * 5, none⟩ (.int .i64 xa)).setCell ⟨g, m * 5 + 1, none⟩ (.int .i64 xn)).setCell ⟨g, m * 5 + 2, none⟩ (.slice p1 l1 k1)).setCell ⟨g, m * 5 + 3, none⟩ (.slice p2 l2 k2)).setCell ⟨g, m * 5 + 4, none⟩ (.slice p3 l3 k3))) := (hb.trans (hb7.mono hb.size)).grown HGR.out (Nat.le_trans hb.size hb7.size) (fun k e => by cases e; omega)
    have HS8 : Hid (w1.heap.size ≤ ((((((w7).setCell ⟨g, m * 5, none⟩ (.int .i64 xa)).setCell ⟨g, m * 5 + 1, none⟩ (.int .i64 xn)).setCell ⟨g, m * 5 + 2, none⟩ (.slice p1 l1 k1)).setCell ⟨g, m * 5 + 3, none⟩ (.slice p2 l2 k2)).setCell ⟨g, m * 5 + 4, none⟩ (.slice p3 l3 k3)).heap.size) := Nat.le_trans hsz (Nat.le_trans hsz7 HGR.out.size)
    have HPUT : Hid (((((((w7).setCell ⟨g, m * 5, none⟩ (.int .i64 xa)).setCell ⟨g, m * 5 + 1, none⟩ (.int .i64 xn)).setCell ⟨g, m * 5 + 2, none⟩ (.slice p1 l1 k1)).setCell ⟨g, m * 5 + 3, none⟩ (.slice p2 l2 k2)).setCell ⟨g, m * 5 + 4, none⟩ (.slice p3 l3 k3)).ownsRow w.heap.size 34 5 (.slice (some ⟨g, 0, none⟩) q.length cr) q.length ((R.set m ⟨⟨⟨xa, xn⟩, ps', says', ts'⟩, .slice p1 l1 k1, .slice p2 l2 k2, .slice p3 l3 k3⟩).map uvCells).flatten) := by
      have h9 := hput
      unfold URow at h9
      rw [List.length_set, HRL.out] at h9
      exact h9
    have HA2 : Hid (∀ j p, j < m + 1 → (R.set m ⟨⟨⟨xa, xn⟩, ps', says', ts'⟩, .slice p1 l1 k1, .slice p2 l2 k2, .slice p3 l3 k3⟩)[j]? = some p → UvP w1.heap.size ((((((w7).setCell ⟨g, m * 5, none⟩ (.int .i64 xa)).setCell ⟨g, m * 5 + 1, none⟩ (.int .i64 xn)).setCell ⟨g, m * 5 + 2, none⟩ (.slice p1 l1 k1)).setCell ⟨g, m * 5 + 3, none⟩ (.slice p2 l2 k2)).setCell ⟨g, m * 5 + 4, none⟩ (.slice p3 l3 k3)) p) := by
      intro j p hj hjp
      rw [List.getElem?_set] at hjp
      by_cases hjm : m = j
      · rw [if_pos hjm, if_pos (by rw [HRL.out]; omega)] at hjp
        have hjp := Option.some.inj hjp
        subst hjp
        exact HXP.out.1.grown HGR.out hglt
      · rw [if_neg hjm] at hjp
        exact ((HARGS.out j p (by omega) hjp).below hb7).grown HGR.out hglt
    have HM2 : Hid (ups (R.set m ⟨⟨⟨xa, xn⟩, ps', says', ts'⟩, .slice p1 l1 k1, .slice p2 l2 k2, .slice p3 l3 k3⟩) = ups q) := by
      show _ = _
      have h9 := HU.out
      unfold ups at h9 ⊢
      rw [List.map_set, h9]
      apply List.ext_getElem?
      intro t
      rw [List.getElem?_set]
      split
      · rename_i ht
        subst ht
        rw [if_pos (by rw [List.length_map]; exact hlt), List.getElem?_map, HXQ.out.2]
        exact congrArg some HXP.out.2
      · rfl
    have HR2 : Hid (∀ j, m + 1 ≤ j → (R.set m ⟨⟨⟨xa, xn⟩, ps', says', ts'⟩, .slice p1 l1 k1, .slice p2 l2 k2, .slice p3 l3 k3⟩)[j]? = q[j]?) := fun j hj => by
      rw [List.getElem?_set, if_neg (by omega)]
      exact HREST.out j (by omega)
    clear hrow hb hb7 hrow7 HARGS HU HREST hput HCC hin hr7 hsz7
    go_wp2_with fail
    go_roundw
    case rel => exact ⟨m + 1, R.set m ⟨⟨⟨xa, xn⟩, ps', says', ts'⟩, .slice p1 l1 k1, .slice p2 l2 k2, .slice p3 l3 k3⟩, hlt, by go_num, by rw [List.length_set]; exact HRL.out, HPUT.out, HM2.out, HR2.out, HA2.out, HB8.out, HS8.out⟩
    case measure => simp [intOf]; omega
  · have hdd : decide (m < q.length) = false := decide_eq_false hlt
    obtain rfl : m = q.length := by omega
    have HR : Hid (URow wr w.heap.size (.slice ar q.length cr) R) := by
      show World.ownsRow _ _ _ _ _ _ _
      rw [HRL.out]
      exact hrow
    have HP : Hid (∀ x, x ∈ R → UvP w.heap.size wr x) := fun p hp => by
      obtain ⟨j, hj⟩ := List.mem_iff_getElem?.mp hp
      exact (HARGS.out j p (by have := (List.getElem?_eq_some_iff.mp hj).1; rw [HRL.out] at this; exact this) hj).le hszw.out
    clear hrow HARGS HREST hrow0
    go_wp2_with fail
    go_ret
    exact ⟨R, _, rfl, HR.out, HU.out, HP.out, hb⟩
end Go.Proofs.Ytmfaodapofamfaa

/- AppendSeq, Collect, SortedFunc, copies. -/
namespace Go.Proofs.Ytmfaodapofamfaa
open Go.RowKit Go.Shelf Go.Maps
attribute [local go_sem] Oper.semAt_some

theorem cells_own {β : Type} (B : Nat) (o : β → Obj) (ho : ∀ s, (o s).isCells = true) : Own (fun s W => W.heap[B]? = some (o s)) := fun s X Y row hs hg hrow =>
  (hg.block B (Array.getElem?_eq_some_iff.1 hs).1 (fun e' => by obtain ⟨o', ho', hc⟩ := hrow B e'.symm; rw [hs] at ho'; cases ho'; rw [ho s] at hc; cases hc)).trans hs
set_option maxRecDepth 100000 in
set_option maxHeartbeats 4000000 in
theorem appendSeq_any (gf : Nat) (lb : Array Value) (eg : ∀ args w, (callFunc gf args).run Try.prog w = .ok (.enter gf args) w) (c : List Uv) (hl : c.length ≤ 1000) (w : World) (hok : ∀ x, x ∈ c → UvOk w x)
    (Kp : World → World → Prop) (hKt : ∀ {A B C : World}, Kp A B → Kp B C → Kp A C) (hKb : ∀ (W : World) (l : Nat) (o o' : Obj), w.heap.size ≤ l → W.heap[l]? = some o → o.isCells = false → o.isWalk = false → Kp W (W.putObj l o')) (hKo : ∀ A B : World, KeepsOthers A B → Below w.heap.size A B → Kp A B)
    (S Sp : List (UvIn c) → Prop) (hS : ∀ xs, S xs → (xs.map (·.1)).Perm c) (hseq : ∀ z, Below w.heap.size w z → SeqStopsK Fence.wide 2 Try.prog gf lb (fun x : UvIn c => inEnc x) Kp S Sp c.length z) :
    Calls Try.prog 80 #[.slice none 0 0, .func (.func gf) #[] lb] w fun e w' => ∃ (v : Value) (q : List Uv), e = .returned v ∧ q.Perm c ∧ URow w' w.heap.size v q ∧ Below w.heap.size w w' := by
  obtain ⟨i0, hi, hz0, hz1, hz2⟩ := info_parts up_info
  refine (callsIn_wide (n := 3)).1 ?_
  refine callsIn_of_wp_marks Try.func80 rfl trivial ?_ rfl
  simp only [Try.ntmps80, List.size_toArray, List.length_cons, List.length_nil, Nat.reduceAdd, Nat.reduceSub, Array.replicate_succ, Array.replicate_zero, List.push_toArray, List.append_toArray, List.nil_append, List.cons_append]
  have hB0 : Below w.heap.size w (w.alloc (.cells #[.slice none 0 0] 22)) := (Below.refl _ _).alloc (Nat.le_refl _) _
  have bS0 := Boxed.new w 22 (.slice none 0 0)
  have hs0 : (w.alloc (.cells #[.slice none 0 0] 22)).heap.size = w.heap.size + 1 := by simp
  gi_wp2
  generalize w.alloc (.cells #[.slice none 0 0] 22) = W0 at *
  refine wpIn_rangeFunc_ownH rfl (by decide) (gf := gf) (lb := lb) rfl trivial eg
    (hseq W0 hB0) hKt (fun W l o o' h1 h2 h3 h4 => hKb W l o o' (by omega) h2 h3 h4) (Below.refl _ _) (fun _ => rfl)
    (fun (pre : List (UvIn c)) W => (∃ v, Boxed W w.heap.size 22 v ∧ W.ownsRow w.heap.size 34 5 v pre.length ((pre.map (·.1)).map uvCells).flatten ∧ True) ∧ Below w.heap.size w W)
    (fun _ _ _ => False)
    (OwnFrom.and (Own.from (holdsRow_own w.heap.size w.heap.size 22 34 5 (fun pre : List (UvIn c) => pre.length) (fun pre : List (UvIn c) => ((pre.map (·.1)).map uvCells).flatten) (fun _ _ => True)) _) (ownFrom_below (Nat.le_refl _) (by omega)))
    (fun _ _ _ _ _ hs _ _ => hs)
    ⟨⟨_, bS0, World.ownsRow_nil _ _ _ _, trivial⟩, hB0⟩
    (fun x a' W => ∃ Bx, W.heap[Bx]? = some (.cells (uvCells x.1).toArray 34) ∧ a' = { tmps := #[.slice none 0 0, .func (.func gf) #[] lb, .pointer (some ⟨w.heap.size, 0, none⟩), undef, .slice none 0 0, .pointer (some ⟨Bx, 0, none⟩), .func (.func gf) #[] lb, uvVal x.1, undef, undef, undef, undef, undef], defers := [] })
    (fun x a' _ X Y row hs hg hr => by obtain ⟨Bx, h2, h3⟩ := hs; exact ⟨Bx, cells_own Bx (fun (_ : Unit) => Obj.cells (uvCells x.1).toArray 34) (fun _ => rfl) () X Y row h2 hg (fun r e => (hr r e).2), h3⟩)
    ?assign ?body ?done ?stop
  case assign =>
    rintro l pre x W K ⟨⟨v1, bS1, hr1, _⟩, hB1⟩ hK
    have hok1 := hok x.1 x.2
    obtain ⟨⟨⟨⟨ua, un⟩, ps, says, ts⟩, vp, vs, vt⟩, hx⟩ := x
    obtain ⟨a1, n1, d1, a2, n2, d2, a3, n3, d3, e1, e2, e3⟩ := hok1.forms
    dsimp only at *
    subst e1 e2 e3
    gi_wp2
    have hBW := (Below.refl w.heap.size W).alloc hB1.size (.cells #[.int .i64 ua, .int .i64 un, .slice a1 n1 d1, .slice a2 n2 d2, .slice a3 n3 d3] 34)
    exact hK _ _ ((KeepsOthers.alloc _ _).from _) (hKo _ _ (KeepsOthers.alloc _ _) hBW) ⟨⟨v1, bS1.alloc _, hr1.alloc _, trivial⟩, hB1.alloc hB1.size _⟩ ⟨W.heap.size, rl_new W _, rfl⟩
  case body =>
    rintro l pre x a' W hl' ⟨r, hr⟩ ⟨⟨v1, bS1, hr1, _⟩, hB1⟩ ⟨Bx, hX, rfl⟩ hlt
    have hok1 := hok x.1 x.2
    obtain ⟨⟨⟨⟨ua, un⟩, ps, says, ts⟩, vp, vs, vt⟩, hx⟩ := x
    obtain ⟨a1, n1, d1, a2, n2, d2, a3, n3, d3, e1, e2, e3⟩ := hok1.forms
    dsimp only at *
    subst e1 e2 e3
    have c0 : W.cell? ⟨Bx, 0, none⟩ = some (.int .i64 ua) := by rw [Lib.cell_of_heap hX]; rfl
    have c1 : W.cell? ⟨Bx, 1, none⟩ = some (.int .i64 un) := by rw [Lib.cell_of_heap hX]; rfl
    have c2 : W.cell? ⟨Bx, 2, none⟩ = some (.slice a1 n1 d1) := by rw [Lib.cell_of_heap hX]; rfl
    have c3 : W.cell? ⟨Bx, 3, none⟩ = some (.slice a2 n2 d2) := by rw [Lib.cell_of_heap hX]; rfl
    have c4 : W.cell? ⟨Bx, 4, none⟩ = some (.slice a3 n3 d3) := by rw [Lib.cell_of_heap hX]; rfl
    obtain ⟨av, cv, rfl⟩ := own_slice hr1
    have cS := bS1.cell
    have hsW := hB1.size
    have h1' : 1 ≤ 3 - 1 - 1 := by decide
    gi_wp2_with (first
      | (gi_at_builtin; refine wpListIn_append_own _ rfl _ _ 22 rfl w.heap.size 34 i0 _ 5 88 Try.underlying22 hi hz0 hz1 hz2 rfl (by decide) _ _ _ rfl (hr1.alloc _) ⟨W.heap.size, 0, none⟩ 1 1 [.int .i64 ua, .int .i64 un, .slice a1 n1 d1, .slice a2 n2 d2, .slice a3 n3 d3] rfl rfl (news5 W _ _ _ _ _ 34) (by intro u hu; simp at hu; rcases hu with rfl | rfl | rfl | rfl | rfl <;> rfl) (by unfold maxLen; omega) (by omega) (by simp; omega) ?_; intro v' w1 hown' hgrow _; obtain ⟨g', cap', rfl⟩ := ownsRow_succ hown'; obtain ⟨hv1, hv2, hr2, hk2, hb2⟩ := bS1.appended (by decide) hr1 hsW (Nat.le_refl _) hown' hgrow; have hc1 := hv1.cell; have hf1 := hv1.frozen)
      | gi_in)
    refine ⟨hk2.from _, hKo _ _ hk2 hb2, ⟨_, hv2, ?_, trivial⟩, hB1.trans hb2⟩
    simp only [List.length_append, List.length_cons, List.length_nil, List.map_append, List.map_cons, List.map_nil, List.flatten_append, List.flatten_cons, List.flatten_nil, List.append_nil]
    exact hr2
  case done =>
    rintro D xs W hD hSx ⟨⟨v1, bS1, hr1, _⟩, hB1⟩ hK
    obtain ⟨av, cv, rfl⟩ := own_slice hr1
    have cS := bS1.cell
    gi_wp2
    refine ⟨by simp, .inl ⟨_, _, rfl, run_takeDeferred hK, ?_⟩⟩
    refine ⟨_, results_tmp rfl _ _ _, _, xs.map (·.1), rfl, hS xs hSx, ?_, ?_⟩
    · have := ownsRow_putObj hr1 (.deferred none) hK rfl
      show World.ownsRow _ _ _ _ _ _ _
      rw [List.length_map]
      exact this
    · exact hB1.trans (belowK_b (w := w) (Nat.le_refl _) W D _ _ (by omega) hK rfl rfl)
  case stop =>
    rintro D c' pre W _ _ h _
    exact h.elim
end Go.Proofs.Ytmfaodapofamfaa

/- Collect, SortedFunc, copies: updates of an iterator, sorted, copied. -/
namespace Go.Proofs.Ytmfaodapofamfaa
open Go.RowKit Go.Shelf Go.Maps

/-- A function that gives these updates, in some order. -/
structure SeqU (gf : Nat) (lb : Array Value) (c : List Uv) (w : World) : Prop where
  eg : ∀ args w, (callFunc gf args).run Try.prog w = .ok (.enter gf args) w
  seq : ∃ (Kp : World → World → Prop) (S Sp : List (UvIn c) → Prop), (∀ {A B C : World}, Kp A B → Kp B C → Kp A C) ∧ (∀ (W : World) (l : Nat) (o o' : Obj), w.heap.size ≤ l → W.heap[l]? = some o → o.isCells = false → o.isWalk = false → Kp W (W.putObj l o')) ∧ (∀ A B : World, KeepsOthers A B → Below w.heap.size A B → Kp A B) ∧
    (∀ xs, S xs → (xs.map (·.1)).Perm c) ∧ (∀ z, Below w.heap.size w z → SeqStopsK Fence.wide 2 Try.prog gf lb (fun x : UvIn c => inEnc x) Kp S Sp c.length z)
theorem rise_sorted : ∀ {l : List Wr.Up}, l.Pairwise (fun a b => ¬ Dg.uOrd b a < 0) → (l.map Wr.Up.id).Nodup → Wr.rise Dg.uOrd l = true
  | [], _, _ => rfl
  | a :: r, h, hn => by
    rw [List.pairwise_cons] at h
    rw [List.map_cons, List.nodup_cons] at hn
    refine Dg.rise_cons.mpr ⟨fun v hv => ?_, rise_sorted h.2 hn.2⟩
    exact Dg.uOrd_total (h.1 v hv) (fun e => hn.1 (e ▸ List.mem_map.mpr ⟨v, hv, rfl⟩))
set_option maxRecDepth 100000 in
set_option maxHeartbeats 2000000 in
theorem collect_any (gf : Nat) (lb : Array Value) (c : List Uv) (hl : c.length ≤ 1000) (w : World) (hok : ∀ x, x ∈ c → UvOk w x) (hs : SeqU gf lb c w) :
    Calls Try.prog 78 #[.func (.func gf) #[] lb] w fun e w' => ∃ (v : Value) (q : List Uv), e = .returned v ∧ q.Perm c ∧ URow w' w.heap.size v q ∧ Below w.heap.size w w' := by
  obtain ⟨eg, Kp, S, Sp, h1, h2, h3, h4, h5⟩ := hs
  have HC : Hid (Calls Try.prog 80 #[.slice none 0 0, .func (.func gf) #[] lb] w fun e w' => ∃ (v : Value) (q : List Uv), e = .returned v ∧ q.Perm c ∧ URow w' w.heap.size v q ∧ Below w.heap.size w w') := appendSeq_any gf lb eg c hl w hok Kp h1 h2 h3 S Sp h4 h5
  clear h1 h2 h3 h4 h5 hok eg
  go_enter Try.func78, Try.ntmps78
  go_wp2_with (go_at_call 80; refine Calls.mono HC.out ?_; rintro e z1 ⟨v1, q1, rfl, hp1, hr1, hb1⟩; obtain ⟨a1, c1, rfl⟩ := own_slice hr1)
  go_ret
  exact ⟨_, q1, rfl, hp1, hr1, hb1⟩
set_option maxRecDepth 100000 in
set_option maxHeartbeats 2000000 in
theorem sorted_any (gf : Nat) (lb : Array Value) (c : List Uv) (hl : c.length ≤ 1000) (w : World) (hok : ∀ x, x ∈ c → UvOk w x) (hnd : ((ups c).map Wr.Up.id).Nodup) (hs : SeqU gf lb c w) :
    Calls Try.prog 72 #[.func (.func gf) #[] lb, .func (.func 47) #[] #[]] w fun e w' => ∃ (v : Value) (q : List Uv), e = .returned v ∧ q.Perm c ∧ Wr.rise Dg.uOrd (ups q) = true ∧ URow w' w.heap.size v q ∧ Below w.heap.size w w' := by
  have HC : Hid (Calls Try.prog 78 #[.func (.func gf) #[] lb] w fun e w' => ∃ (v : Value) (q : List Uv), e = .returned v ∧ q.Perm c ∧ URow w' w.heap.size v q ∧ Below w.heap.size w w') := collect_any gf lb c hl w hok hs
  have HO : Hid (∀ x, x ∈ c → UvOk w x) := hok
  have HN : Hid (((ups c).map Wr.Up.id).Nodup) := hnd
  clear hs hok hnd
  go_enter Try.func72, Try.ntmps72
  go_upto_region 2 with (go_at_call 78; refine Calls.mono HC.out ?_; rintro e z1 ⟨v1, q1, rfl, hp1, hr1, hb1⟩; obtain ⟨a1, c1, rfl⟩ := own_slice hr1)
  have HP1 : Hid (q1.Perm c) := hp1
  have hl1 : q1.length ≤ 1000 := by rw [hp1.length_eq]; exact hl
  have HB1 : Hid (Below w.heap.size w z1) := hb1
  clear HC hp1 hb1
  rcases ownsRow_forms9 hr1 with ⟨hv, hq0⟩ | ⟨g, c2, hv⟩
  · injection hv with e1 e2 e3
    subst e1 e3
    have hq1 : q1 = [] := List.eq_nil_of_length_eq_zero hq0
    subst hq1
    have hs := AnyF.slices_SortFunc_none Try.sortU none 0 (.func (.func 47) #[] #[]) z1
    change Calls Try.prog 79 _ _ _ at hs
    have HSS : Hid _ := hs
    have HR1 : Hid (URow z1 w.heap.size (.slice none 0 0) []) := hr1
    clear hs hr1
    simp only [List.length_nil]
    go_wp2_with fail
    refine Calls.mono HSS.out ?_
    rintro e w5 ⟨rfl, rfl⟩
    go_wp2_with fail
    go_ret
    exact ⟨_, [], rfl, HP1.out, rfl, HR1.out, HB1.out⟩
  · injection hv with e1 e2 e3
    subst e1 e3
    have HS : Hid (Calls Try.prog 79 #[.slice (some ⟨g, 0, none⟩) q1.length c1, .func (.func 47) #[] #[]] z1 fun e w' => e = .returned (.tuple #[]) ∧ ∃ q', q'.Perm q1 ∧ (ups q').Pairwise (fun a b => ¬ Dg.uOrd b a < 0) ∧ UGRow w' w.heap.size g c1 q' ∧ z1.grownBy w' (some g)) := sortU_any w z1 w.heap.size g c1 q1 hr1 (fun p hp => HO.out p (HP1.out.mem_iff.mp hp)) (by omega)
    have HLT : Hid (w.heap.size ≤ g ∧ g < z1.heap.size) := hr1.lt g rfl
    clear hr1
    go_wp2_with fail
    refine Calls.mono HS.out ?_
    rintro e w5 ⟨rfl, q2, hp2, hpw, hr2, hg2⟩
    have HP2 : Hid (q2.Perm c) := hp2.trans HP1.out
    have HRI : Hid (Wr.rise Dg.uOrd (ups q2) = true) := rise_sorted (hpw.imp (fun h => by omega)) (nodup_perm HP2.out HN.out)
    have HB2 : Hid (Below w.heap.size w w5) := HB1.out.grown hg2 HB1.out.size (fun k e => by cases e; exact HLT.out.1)
    have HR2 : Hid (URow w5 w.heap.size (.slice (some ⟨g, 0, none⟩) q1.length c1) q2) := by
      have h9 := hr2
      unfold UGRow at h9
      rw [hp2.length_eq] at h9
      show World.ownsRow _ _ _ _ _ _ _
      rw [hp2.length_eq]
      exact h9
    clear hp2 hpw hr2 hg2 HS
    go_wp2_with fail
    go_ret
    exact ⟨_, q2, rfl, HP2.out, HRI.out, HR2.out, HB2.out⟩
set_option maxRecDepth 100000 in
set_option maxHeartbeats 2000000 in
theorem copies_any (gf : Nat) (lb : Array Value) (c : List Uv) (hl : c.length ≤ 1000) (w : World) (hok : ∀ x, x ∈ c → UvOk w x) (hfew : ∀ x, x ∈ c → Few x.u) (hnd : ((ups c).map Wr.Up.id).Nodup) (hs : SeqU gf lb c w) :
    Calls Try.prog 57 #[.func (.func gf) #[] lb] w fun e w' => ∃ (v : Value) (R : List Uv), e = .returned v ∧ (ups R).Perm (ups c) ∧ Wr.rise Dg.uOrd (ups R) = true ∧ URow w' w.heap.size v R ∧ (∀ x, x ∈ R → UvP w.heap.size w' x) ∧ Below w.heap.size w w' := by
  have HC : Hid (Calls Try.prog 72 #[.func (.func gf) #[] lb, .func (.func 47) #[] #[]] w fun e w' => ∃ (v : Value) (q : List Uv), e = .returned v ∧ q.Perm c ∧ Wr.rise Dg.uOrd (ups q) = true ∧ URow w' w.heap.size v q ∧ Below w.heap.size w w') := sorted_any gf lb c hl w hok hnd hs
  have HO : Hid (∀ x, x ∈ c → UvOk w x ∧ Few x.u) := fun x hx => ⟨hok x hx, hfew x hx⟩
  clear hs hok hnd hfew
  go_enter Try.func57, Try.ntmps57
  go_wp2_with fail
  refine Calls.mono HC.out ?_
  rintro e z1 ⟨v1, q1, rfl, hp1, hri, hr1, hb1⟩
  have HD : Hid (Calls Try.prog 56 #[v1] z1 fun e w' => ∃ (R : List Uv) (v' : Value), e = .returned v' ∧ URow w' z1.heap.size v' R ∧ ups R = ups q1 ∧ (∀ x, x ∈ R → UvP z1.heap.size w' x) ∧ Below z1.heap.size z1 w') := Copies_any q1 v1 z1 (own_ups hr1) (fun x hx => (HO.out x (hp1.mem_iff.mp hx)).1.below hb1) (fun x hx => (HO.out x (hp1.mem_iff.mp hx)).2) (by rw [hp1.length_eq]; exact hl)
  obtain ⟨a1, c1, rfl⟩ := own_slice hr1
  have HP : Hid (q1.Perm c) := hp1
  have HRI : Hid (Wr.rise Dg.uOrd (ups q1) = true) := hri
  have HB : Hid (Below w.heap.size w z1) := hb1
  clear hp1 hri hr1 hb1 HC
  go_wp2_with fail
  refine Calls.mono HD.out ?_
  rintro e z2 ⟨R, v2, rfl, hr2, hu2, hp2, hb2⟩
  obtain ⟨a2, c2, rfl⟩ := own_slice hr2
  have HB2 : Hid (Below w.heap.size w z2) := HB.out.trans (hb2.mono HB.out.size)
  have HR2 : Hid (URow z2 w.heap.size (.slice a2 R.length c2) R) := rl_own_le hr2 HB.out.size
  have HP2 : Hid (∀ x, x ∈ R → UvP w.heap.size z2 x) := fun x hx => (hp2 x hx).le HB.out.size
  have HU2 : Hid (ups R = ups q1) := hu2
  clear hr2 hu2 hp2 hb2 HD
  go_wp2_with fail
  go_ret
  exact ⟨_, R, rfl, by rw [HU2.out]; exact HP.out.map _, by rw [HU2.out]; exact HRI.out, HR2.out, HP2.out, HB2.out⟩
set_option maxRecDepth 100000 in
set_option maxHeartbeats 2000000 in
/-- maps.Values and slices.Values. -/
theorem mvals_any (b : Nat) (c : List Uv) (w : World) (hM : CmAt w b c) : Calls Try.prog 58 #[.map (some b)] w fun e w' => ∃ lb, e = .returned (.func (.func 73) #[] lb) ∧ SeqU 73 lb c w' ∧ Below w.heap.size w w' := by
  have HB : Hid (Below w.heap.size w (w.alloc (.cells #[.map (some b)] 82))) := (Below.refl _ _).alloc (Nat.le_refl _) _
  have HS : Hid (SeqU 73 #[.pointer (some ⟨w.heap.size, 0, none⟩)] c (w.alloc (.cells #[.map (some b)] 82))) := ⟨enters_of Try.func73 (by kernel_rfl) rfl, KeepsWalks, fun ys => (ys.map (·.1)).Perm c, fun _ => True, walksK_t, fun W l o o' h1 h2 h3 h4 => walksK_b (w := w.alloc (.cells #[.map (some b)] 82)) W l o o' h1 h2 h3 h4, fun A B h _ => h.walks, fun xs h => h, fun z hz => mvalues_stops Fence.wide 2 trivial rfl (by decide) w.heap.size b c z ((hM.below HB.out).below hz) ((hz.block _ (by simp)).trans (rl_new w _))⟩
  clear hM
  go_enter Try.func58, Try.ntmps58
  go_wp2_with fail
  go_ret
  exact ⟨_, rfl, HS.out, HB.out⟩
set_option maxRecDepth 100000 in
set_option maxHeartbeats 2000000 in
theorem svals_any (q : List Uv) (v : Value) (w : World) (hV : UpsV w v q) (hl : q.length ≤ 1000) (hok : ∀ x, x ∈ q → UvOk w x) : Calls Try.prog 59 #[v] w fun e w' => ∃ lb, e = .returned (.func (.func 74) #[] lb) ∧ SeqU 74 lb q w' ∧ Below w.heap.size w w' := by
  obtain ⟨ao, cap, rfl, _, hA⟩ := hV
  have HB : Hid (Below w.heap.size w (w.alloc (.cells #[.slice ao q.length cap] 22))) := (Below.refl _ _).alloc (Nat.le_refl _) _
  have HS : Hid (SeqU 74 #[.pointer (some ⟨w.heap.size, 0, none⟩)] q (w.alloc (.cells #[.slice ao q.length cap] 22))) := ⟨enters_of Try.func74 (by kernel_rfl) rfl, Below w.heap.size, fun ys => ys.map (·.1) = q, fun _ => True, belowK_t, fun W l o o' h1 h2 h3 h4 => belowK_b (w := w.alloc (.cells #[.slice ao q.length cap] 22)) (by simp) W l o o' h1 h2 h3 h4, fun A B _ h => h.mono (by simp), fun xs h => by rw [h], fun z hz => by
    have hz0 := HB.out.trans (hz.mono HB.out.size)
    exact values_stops Fence.wide 2 trivial rfl (by decide) w.heap.size w.heap.size ao cap q hl z (fun x hx => (hok x hx).below hz0) hz0.size ((hz.block _ (by simp)).trans (rl_new w _)) (hA.kc (Kc.below hz0)) (fun b off e hne => by
      rcases hA with h | ⟨b2, off2, e2, h2⟩
      · exact absurd h hne
      · rw [e2] at e
        cases e
        exact cell_lt (h2 0 (by cases q with | nil => exact absurd rfl hne | cons _ _ => simp)).1)⟩
  clear hA hok
  go_enter Try.func59, Try.ntmps59
  go_wp2_with fail
  go_ret
  exact ⟨_, rfl, HS.out, HB.out⟩
end Go.Proofs.Ytmfaodapofamfaa

/- Package dag: Add. -/
namespace Go.Proofs.Ytmfaodapofamfaa
open Go.RowKit Go.Maps
def addT (ah : Option Addr) (nh ch : Nat) (aw : Option Addr) (nw cw : Nat) (ua un : Int) (a1 : Option Addr) (n1 d1 : Nat) (a2 : Option Addr) (n2 d2 : Nat) (a3 : Option Addr) (n3 d3 : Nat) (cr cu co : Int) (tQ : Nat) (vQ : Value) (WQ : World) : Prop :=
  match tQ with
  | 10 => vQ = .agg #[.slice ah nh ch, .slice aw nw cw]
  | 11 => vQ = .int .i64 cr
  | 12 => vQ = .agg #[.int .i64 ua, .int .i64 un, .slice a1 n1 d1, .slice a2 n2 d2, .slice a3 n3 d3]
  | 13 => vQ = .int .i64 cu
  | 14 => ∃ g, vQ = .slice (some ⟨g, 0, none⟩) 2 2 ∧ WQ.cell? ⟨g, 0, none⟩ = some (.int .i64 cr) ∧ WQ.cell? ⟨g, 1, none⟩ = some (.int .i64 cu)
  | 15 => vQ = .int .i64 co
  | 6 => vQ = .int .i64 co
  | _ => True
theorem addT_mono (ah : Option Addr) (nh ch : Nat) (aw : Option Addr) (nw cw : Nat) (ua un : Int) (a1 : Option Addr) (n1 d1 : Nat) (a2 : Option Addr) (n2 d2 : Nat) (a3 : Option Addr) (n3 d3 : Nat) (cr cu co : Int) (tQ : Nat) (vQ : Value) (W W' : World) (hb : Below W.heap.size W W') (h : addT ah nh ch aw nw cw ua un a1 n1 d1 a2 n2 d2 a3 n3 d3 cr cu co tQ vQ W) : addT ah nh ch aw nw cw ua un a1 n1 d1 a2 n2 d2 a3 n3 d3 cr cu co tQ vQ W' := by
  revert h
  unfold addT
  split <;> (intro h; first | exact h | exact (h.elim fun g h => ⟨g, h.1, cell_below hb h.2.1, cell_below hb h.2.2⟩))
def addT5 (al : Option Addr) (nl cl X : Nat) (ua un : Int) (q : List Uv) (hb9 : Bool) (tQ : Nat) (vQ : Value) (WQ : World) : Prop :=
  match tQ with
  | 26 => vQ = .slice al nl cl
  | 27 => ∃ b, vQ = .map (some b) ∧ CmAt WQ b q
  | 28 => vQ = .pointer (some ⟨X, 0, none⟩)
  | 29 => vQ = .agg #[.int .i64 ua, .int .i64 un]
  | 30 => ∃ g, vQ = .slice (some ⟨g, 0, none⟩) 1 1 ∧ WQ.cell? ⟨g, 0, none⟩ = some (.int .i64 ua) ∧ WQ.cell? ⟨g, 1, none⟩ = some (.int .i64 un)
  | 31 => vQ = .bool hb9
  | 32 => vQ = .bool (!hb9)
  | _ => True
theorem addT5_mono (al : Option Addr) (nl cl X : Nat) (ua un : Int) (q : List Uv) (hb9 : Bool) (tQ : Nat) (vQ : Value) (W W' : World) (hb : Below W.heap.size W W') (h : addT5 al nl cl X ua un q hb9 tQ vQ W) : addT5 al nl cl X ua un q hb9 tQ vQ W' := by
  revert h
  unfold addT5
  split <;> (intro h; first | exact h | exact (h.elim fun b h => ⟨b, h.1, h.2.below hb⟩) | exact (h.elim fun g h => ⟨g, h.1, cell_below hb h.2.1, cell_below hb h.2.2⟩))

theorem ups_nil (w : World) : UpsV w (.slice none 0 0) [] := ⟨none, 0, rfl, ⟨Nat.le_refl _, fun _ => rfl⟩, .inl rfl⟩
set_option maxRecDepth 100000 in
set_option maxHeartbeats 1000000 in
theorem orE_any (a b : Int) (g : Nat) (w : World) (h0 : w.cell? ⟨g, 0, none⟩ = some (.int .i64 a)) (h1 : w.cell? ⟨g, 1, none⟩ = some (.int .i64 b)) :
    Calls Try.prog 13 #[.slice (some ⟨g, 0, none⟩) 2 2] w fun e w' => e = .returned (.int .i64 (if a = 0 then b else a)) ∧ w' = w := by
  go_enter Try.func13, Try.ntmps13
  go_wp2_with fail
  by_cases ha : a = 0
  · subst ha
    refine wp_loop_rounds 3 ?_
    by_cases hb : b = 0
    · subst hb
      rw [rounds_succ]
      go_wp2_with fail
      rw [rounds_succ]
      go_wp2_with fail
      rw [rounds_succ]
      go_wp2_with fail
      go_ret
      exact ⟨rfl, rfl⟩
    · have hne : (b != 0) = true := by simpa using hb
      rw [rounds_succ]
      go_wp2_with fail
      rw [rounds_succ]
      go_wp2_with fail
      go_ret
      exact ⟨rfl, rfl⟩
  · have hne : (a != 0) = true := by simpa using ha
    refine wp_loop_rounds 1 ?_
    rw [rounds_succ]
    go_wp2_with fail
    go_ret
    exact ⟨by first | rfl | (rw [if_neg ha]; rfl), rfl⟩
theorem hold1_any (B : Nat) (c : List Uv) (x : Wr.Id) (g : Nat) (w : World) (hM : CmAt w B c) (h0 : w.cell? ⟨g, 0, none⟩ = some (.int .i64 x.a)) (h1 : w.cell? ⟨g, 1, none⟩ = some (.int .i64 x.n)) (hi : Wr.isId x = true) :
    Calls Try.prog 50 #[.map (some B), .slice (some ⟨g, 0, none⟩) 1 1] w fun e w' => e = .returned (.bool (Dg.hasU (ups c) x)) ∧ Below w.heap.size w w' := by
  refine (hold_any B c [x] _ w hM (one_id g h0 h1 rfl) (by simp) (fun y hy => by rw [List.mem_singleton.mp hy]; exact hi)).mono ?_
  rintro e w' ⟨rfl, h2⟩
  refine ⟨?_, h2⟩
  rw [List.all_cons, List.all_nil, Bool.and_true]

def Dg.addErr (h w : List Wr.Up) (u : Wr.Up) : Int :=
  if Dg.check h w ≠ 0 then Dg.check h w else if Wr.check u ≠ 0 then Wr.check u else if 200 < (Dg.more (h ++ w) u).length then 2 else 0
set_option maxRecDepth 100000 in
set_option maxHeartbeats 8000000 in
theorem Add_any (hq wq : List Uv) (hv wv : Value) (x : Uv) (w : World) (hV : UpsV w hv hq) (wV : UpsV w wv wq) (hl : hq.length ≤ 4611686018427387903 ∧ wq.length ≤ 4611686018427387903) (hok : ∀ x, x ∈ hq ++ wq → UvOk w x) (hx : UvOk w x) :
    Calls Try.prog 27 #[repVal hv wv, uvVal x] w fun e w' => ∃ (v1 v2 : Value) (R1 R2 : List Uv), e = .returned (.tuple #[repVal v1 v2, .int .i64 (Dg.addErr (ups hq) (ups wq) x.u)]) ∧ UpsV w' v1 R1 ∧ UpsV w' v2 R2 ∧ (∀ x, x ∈ R1 ++ R2 → UvOk w' x) ∧ (Dg.addErr (ups hq) (ups wq) x.u = 0 → Dg.Is (Dg.more (ups hq ++ ups wq) x.u) (ups R1) (ups R2)) ∧ (Dg.addErr (ups hq) (ups wq) x.u ≠ 0 → R1 = [] ∧ R2 = []) ∧ Below w.heap.size w w' := by
  have HO : Hid (∀ x, x ∈ hq ++ wq → UvOk w x) := hok
  have HHV : Hid (UpsV w hv hq) := hV
  have HWV : Hid (UpsV w wv wq) := wV
  have HXX : Hid (UvOk w x) := hx
  obtain ⟨ah, ch, rfl, hch, _⟩ := hV
  obtain ⟨aw, cw, rfl, hcw, _⟩ := wV
  have HCH : Hid (ah = none → ch = 0) := hch.2
  have HCW : Hid (aw = none → cw = 0) := hcw.2
  obtain ⟨a1, n1, d1, a2, n2, d2, a3, n3, d3, e1, e2, e3⟩ := hx.forms
  obtain ⟨⟨⟨ua, un⟩, ps, says, ts⟩, vp, vs, vt⟩ := x
  dsimp only at *
  subst e1 e2 e3
  clear hok hx hch hcw
  have HB1 : Hid (Below w.heap.size w (((w.alloc (.cells #[.slice ah hq.length ch, .slice aw wq.length cw] 24)).alloc (.cells #[.int .i64 ua, .int .i64 un, .slice a1 n1 d1, .slice a2 n2 d2, .slice a3 n3 d3] 34)).alloc (.cells #[.slice none 0 0, .slice none 0 0] 24))) := (((Below.refl _ _).alloc (Nat.le_refl _) _).alloc (by simp) _).alloc (by simp; omega) _
  have HSZ : Hid ((((w.alloc (.cells #[.slice ah hq.length ch, .slice aw wq.length cw] 24)).alloc (.cells #[.int .i64 ua, .int .i64 un, .slice a1 n1 d1, .slice a2 n2 d2, .slice a3 n3 d3] 34)).alloc (.cells #[.slice none 0 0, .slice none 0 0] 24)).heap.size = w.heap.size + 3) := by show _ = _; simp
  have HX1 : Hid ((((w.alloc (.cells #[.slice ah hq.length ch, .slice aw wq.length cw] 24)).alloc (.cells #[.int .i64 ua, .int .i64 un, .slice a1 n1 d1, .slice a2 n2 d2, .slice a3 n3 d3] 34)).alloc (.cells #[.slice none 0 0, .slice none 0 0] 24)).heap[w.heap.size]? = some (.cells #[.slice ah hq.length ch, .slice aw wq.length cw] 24)) := by
    show _ = _
    rw [Lib.alloc_old _ _ _ (by simp; omega), Lib.alloc_old _ _ _ (by simp)]
    exact rl_new w _
  have HX2 : Hid ((((w.alloc (.cells #[.slice ah hq.length ch, .slice aw wq.length cw] 24)).alloc (.cells #[.int .i64 ua, .int .i64 un, .slice a1 n1 d1, .slice a2 n2 d2, .slice a3 n3 d3] 34)).alloc (.cells #[.slice none 0 0, .slice none 0 0] 24)).heap[w.heap.size + 1]? = some (.cells #[.int .i64 ua, .int .i64 un, .slice a1 n1 d1, .slice a2 n2 d2, .slice a3 n3 d3] 34)) := by
    show _ = _
    rw [Lib.alloc_old _ _ _ (by simp)]
    have := rl_new (w.alloc (.cells #[.slice ah hq.length ch, .slice aw wq.length cw] 24)) (.cells #[.int .i64 ua, .int .i64 un, .slice a1 n1 d1, .slice a2 n2 d2, .slice a3 n3 d3] 34)
    rw [World.size_alloc] at this
    exact this
  have HX3 : Hid ((((w.alloc (.cells #[.slice ah hq.length ch, .slice aw wq.length cw] 24)).alloc (.cells #[.int .i64 ua, .int .i64 un, .slice a1 n1 d1, .slice a2 n2 d2, .slice a3 n3 d3] 34)).alloc (.cells #[.slice none 0 0, .slice none 0 0] 24)).heap[w.heap.size + 2]? = some (.cells #[.slice none 0 0, .slice none 0 0] 24)) := by
    have := rl_new ((w.alloc (.cells #[.slice ah hq.length ch, .slice aw wq.length cw] 24)).alloc (.cells #[.int .i64 ua, .int .i64 un, .slice a1 n1 d1, .slice a2 n2 d2, .slice a3 n3 d3] 34)) (.cells #[.slice none 0 0, .slice none 0 0] 24)
    rw [World.size_alloc, World.size_alloc] at this
    exact this
  go_enter Try.func27, Try.ntmps27
  go_upto_region 1 with fail
  generalize (((w.alloc (.cells #[.slice ah hq.length ch, .slice aw wq.length cw] 24)).alloc (.cells #[.int .i64 ua, .int .i64 un, .slice a1 n1 d1, .slice a2 n2 d2, .slice a3 n3 d3] 34)).alloc (.cells #[.slice none 0 0, .slice none 0 0] 24)) = w1 at *
  have HF : Hid (∀ z, Below w1.heap.size w1 z → (z.cell? ⟨w.heap.size, 0, none⟩ = some (.slice ah hq.length ch) ∧ z.cell? ⟨w.heap.size, 1, none⟩ = some (.slice aw wq.length cw)) ∧ (z.cell? ⟨w.heap.size + 1, 0, none⟩ = some (.int .i64 ua) ∧ z.cell? ⟨w.heap.size + 1, 1, none⟩ = some (.int .i64 un) ∧ z.cell? ⟨w.heap.size + 1, 2, none⟩ = some (.slice a1 n1 d1) ∧ z.cell? ⟨w.heap.size + 1, 3, none⟩ = some (.slice a2 n2 d2) ∧ z.cell? ⟨w.heap.size + 1, 4, none⟩ = some (.slice a3 n3 d3))) := fun z hz => by
    have h1 := (hz.block _ (Array.getElem?_eq_some_iff.1 HX1.out).1).trans HX1.out
    have h2 := (hz.block _ (Array.getElem?_eq_some_iff.1 HX2.out).1).trans HX2.out
    exact ⟨⟨by rw [Lib.cell_of_heap h1]; rfl, by rw [Lib.cell_of_heap h1]; rfl⟩, by rw [Lib.cell_of_heap h2]; rfl, by rw [Lib.cell_of_heap h2]; rfl, by rw [Lib.cell_of_heap h2]; rfl, by rw [Lib.cell_of_heap h2]; rfl, by rw [Lib.cell_of_heap h2]; rfl⟩
  have HZ : Hid (∀ z, Below w1.heap.size w1 z → z.heap[w.heap.size + 2]? = some (.cells #[.slice none 0 0, .slice none 0 0] 24)) := fun z hz => (hz.block _ (Array.getElem?_eq_some_iff.1 HX3.out).1).trans HX3.out
  have HT : Hid (∀ z, Below w1.heap.size w1 z → Below w.heap.size w z) := fun z hz => HB1.out.trans (hz.mono HB1.out.size)
  have HC1 : Hid (∀ z, Below w1.heap.size w1 z → Calls Try.prog 14 #[.agg #[.slice ah hq.length ch, .slice aw wq.length cw]] z fun e w' => e = .returned (.int .i64 (Dg.check (ups hq) (ups wq))) ∧ Below z.heap.size z w') := fun z hz => DCheck_any hq wq _ _ z (HHV.out.kc (Kc.below (HT.out z hz))) (HWV.out.kc (Kc.below (HT.out z hz))) hl (fun x hx => (HO.out x hx).below (HT.out z hz))
  have HC2 : Hid (∀ z, Below w1.heap.size w1 z → Calls Try.prog 23 #[.agg #[.int .i64 ua, .int .i64 un, .slice a1 n1 d1, .slice a2 n2 d2, .slice a3 n3 d3]] z fun e w' => e = .returned (.int .i64 (Wr.check ⟨⟨ua, un⟩, ps, says, ts⟩)) ∧ Below z.heap.size z w') := fun z hz => by
    have hx := HXX.out.below (HT.out z hz)
    exact Check_any ⟨⟨ua, un⟩, ps, says, ts⟩ _ _ _ z hx.p hx.s hx.t hx.f hx.l
  obtain ⟨cO, HCO⟩ : ∃ cO, Hid (cO = if Dg.check (ups hq) (ups wq) = 0 then Wr.check ⟨⟨ua, un⟩, ps, says, ts⟩ else Dg.check (ups hq) (ups wq)) := ⟨_, rfl⟩
  refine wp_region_tabA (addT ah hq.length ch aw wq.length cw ua un a1 n1 d1 a2 n2 d2 a3 n3 d3 (Dg.check (ups hq) (ups wq)) (Wr.check ⟨⟨ua, un⟩, ps, says, ts⟩) cO) (by kernel_rfl) (by kernel_rfl) (addT_mono _ _ _ _ _ _ _ _ _ _ _ _ _ _ _ _ _ _ _ _) ?hop1 ?hend1
  case hop1 =>
    refine AllOps.cons (fun a y h => ?_) ?_
    · have e2 : a.eval (.tmp 2) = (.pointer (some ⟨w.heap.size, 0, none⟩) : Value) := h.old 2 (by kernel_rfl)
      obtain ⟨⟨r0, r1⟩, _⟩ := HF.out y h.below
      refine opOk_val (v := .agg #[.slice ah hq.length ch, .slice aw wq.length cw]) (w' := y) (wanted_none rfl) ?_ (fun t ht => by cases ht; exact rfl) (Below.refl _ _)
      have ec : ∀ v, a.eval (.const v) = v := fun _ => rfl
      generalize a.eval = ev at *
      clear h
      go_simp
    refine AllOps.cons (fun a y h => ?_) ?_
    · have e10 : a.eval (.tmp 10) = (.agg #[.slice ah hq.length ch, .slice aw wq.length cw] : Value) := h.of 10 (by kernel_rfl)
      refine opOk_call (f := 14) (args := #[.agg #[.slice ah hq.length ch, .slice aw wq.length cw]]) (wanted_none rfl) ?_ ?_
      · have ec : ∀ v, a.eval (.const v) = v := fun _ => rfl
        have ef : ∀ f, a.eval (.func f) = .func (.func f) #[] #[] := fun _ => rfl
        generalize a.eval = ev at *
        clear h
        go_simp
      · refine (HC1.out y h.below).mono ?_
        rintro e w' ⟨rfl, hb⟩
        exact ⟨_, rfl, fun t ht => by cases ht; exact rfl, hb⟩
    refine AllOps.cons (fun a y h => ?_) ?_
    · have e3 : a.eval (.tmp 3) = (.pointer (some ⟨w.heap.size + 1, 0, none⟩) : Value) := h.old 3 (by kernel_rfl)
      obtain ⟨_, ⟨u0, u1, u2, u3, u4⟩⟩ := HF.out y h.below
      refine opOk_val (v := .agg #[.int .i64 ua, .int .i64 un, .slice a1 n1 d1, .slice a2 n2 d2, .slice a3 n3 d3]) (w' := y) (wanted_none rfl) ?_ (fun t ht => by cases ht; exact rfl) (Below.refl _ _)
      have ec : ∀ v, a.eval (.const v) = v := fun _ => rfl
      generalize a.eval = ev at *
      clear h
      go_simp
    refine AllOps.cons (fun a y h => ?_) ?_
    · have e12 : a.eval (.tmp 12) = (.agg #[.int .i64 ua, .int .i64 un, .slice a1 n1 d1, .slice a2 n2 d2, .slice a3 n3 d3] : Value) := h.of 12 (by kernel_rfl)
      refine opOk_call (f := 23) (args := #[.agg #[.int .i64 ua, .int .i64 un, .slice a1 n1 d1, .slice a2 n2 d2, .slice a3 n3 d3]]) (wanted_none rfl) ?_ ?_
      · have ec : ∀ v, a.eval (.const v) = v := fun _ => rfl
        have ef : ∀ f, a.eval (.func f) = .func (.func f) #[] #[] := fun _ => rfl
        generalize a.eval = ev at *
        clear h
        go_simp
      · refine (HC2.out y h.below).mono ?_
        rintro e w' ⟨rfl, hb⟩
        exact ⟨_, rfl, fun t ht => by cases ht; exact rfl, hb⟩
    refine AllOps.cons (fun a y h => ?_) ?_
    · have e11 : a.eval (.tmp 11) = (.int .i64 (Dg.check (ups hq) (ups wq)) : Value) := h.of 11 (by kernel_rfl)
      have e13 : a.eval (.tmp 13) = (.int .i64 (Wr.check ⟨⟨ua, un⟩, ps, says, ts⟩) : Value) := h.of 13 (by kernel_rfl)
      refine opOk_val (v := .slice (some ⟨y.heap.size, 0, none⟩) 2 2) (w' := y.alloc (.cells #[.int .i64 (Dg.check (ups hq) (ups wq)), .int .i64 (Wr.check ⟨⟨ua, un⟩, ps, says, ts⟩)] 26)) (wanted_none rfl) ?_ (fun t ht => by cases ht; exact ⟨y.heap.size, rfl, (cat_cell _ _ _ 0).trans rfl, (cat_cell _ _ _ 1).trans rfl⟩) ((Below.refl _ _).alloc (Nat.le_refl _) _)
      have ec : ∀ v, a.eval (.const v) = v := fun _ => rfl
      generalize a.eval = ev at *
      clear h
      go_simp
    refine AllOps.cons (fun a y h => ?_) ?_
    · have t14 : ∃ g, (a.eval (.tmp 14)) = .slice (some ⟨g, 0, none⟩) 2 2 ∧ y.cell? ⟨g, 0, none⟩ = some (.int .i64 (Dg.check (ups hq) (ups wq))) ∧ y.cell? ⟨g, 1, none⟩ = some (.int .i64 (Wr.check ⟨⟨ua, un⟩, ps, says, ts⟩)) := h.of 14 (by kernel_rfl)
      obtain ⟨g, e14, g0, g1⟩ := t14
      refine opOk_call (f := 13) (args := #[.slice (some ⟨g, 0, none⟩) 2 2]) (wanted_none rfl) ?_ ?_
      · have ec : ∀ v, a.eval (.const v) = v := fun _ => rfl
        have ef : ∀ f, a.eval (.func f) = .func (.func f) #[] #[] := fun _ => rfl
        generalize a.eval = ev at *
        clear h
        go_simp
      · refine (orE_any _ _ g y g0 g1).mono ?_
        rintro e w' ⟨rfl, rfl⟩
        exact ⟨_, rfl, fun t ht => by cases ht; show Value.int .i64 _ = Value.int .i64 cO; rw [HCO.out], Below.refl _ _⟩
    refine AllOps.cons (fun a y h => ?_) ?_
    · have e15 : a.eval (.tmp 15) = (.int .i64 cO : Value) := h.of 15 (by kernel_rfl)
      refine opOk_val (v := .int .i64 cO) (w' := y) (wanted_none rfl) ?_ (fun t ht => by cases ht; exact rfl) (Below.refl _ _)
      have ec : ∀ v, a.eval (.const v) = v := fun _ => rfl
      generalize a.eval = ev at *
      clear h
      go_simp
    exact AllOps.nil
  case hend1 =>
  rintro ⟨tm, df⟩ w3 hbE hdE hszE hstE hTE
  have k6 : tm.getD 6 undef = .int .i64 cO := ends_at (T := addT ah hq.length ch aw wq.length cw ua un a1 n1 d1 a2 n2 d2 a3 n3 d3 (Dg.check (ups hq) (ups wq)) (Wr.check ⟨⟨ua, un⟩, ps, says, ts⟩) cO) (w := w3) (a := ⟨tm, df⟩) (t := 6) hTE (by kernel_rfl)
  obtain rfl : df = [] := hdE
  clear hTE
  have hF8 := tmps_fold [10, 11, 12, 13, 14, 15, 6] tm _ hszE hstE
  clear hszE hstE
  simp only [List.foldl_cons, List.foldl_nil, k6] at hF8
  clear k6
  generalize tm.getD 10 undef = x10 at hF8
  generalize tm.getD 11 undef = x11 at hF8
  generalize tm.getD 12 undef = x12 at hF8
  generalize tm.getD 13 undef = x13 at hF8
  generalize tm.getD 14 undef = x14 at hF8
  generalize tm.getD 15 undef = x15 at hF8
  simp only [List.setIfInBounds_toArray, List.set_cons_zero, List.set_cons_succ] at hF8
  subst hF8
  have HG3 : Hid (Below w1.heap.size w1 w3) := hbE
  clear hbE HC1 HC2 HX1 HX2 HX3
  by_cases hco : cO = 0
  rotate_left
  · have hne : (cO != 0) = true := by simpa using hco
    have HER : Hid (Dg.addErr (ups hq) (ups wq) ⟨⟨ua, un⟩, ps, says, ts⟩ = cO) := by
      show _ = _
      unfold Dg.addErr
      have h9 := HCO.out
      by_cases h0 : Dg.check (ups hq) (ups wq) = 0
      · rw [if_pos h0] at h9
        rw [if_neg (fun e => e h0), if_pos (by rw [← h9]; exact hco), h9]
      · rw [if_neg h0] at h9
        rw [if_pos h0, h9]
    have tk0 := HZ.out w3 (HG3.out)
    have tz0 : (w3).cell? ⟨w.heap.size + 2, 0, none⟩ = some (.slice none 0 0) := by rw [Lib.cell_of_heap tk0]; rfl
    have ty0 := Lib.frozen_of_heap tk0 0
    have tk1 : ((w3).setCell ⟨w.heap.size + 2, 0, none⟩ (.slice none 0 0)).heap[w.heap.size + 2]? = some (.cells #[.slice none 0 0, .slice none 0 0] 24) := by rw [Lib.heap_setCell_same tk0]; rfl
    have tz1 : ((w3).setCell ⟨w.heap.size + 2, 0, none⟩ (.slice none 0 0)).cell? ⟨w.heap.size + 2, 1, none⟩ = some (.slice none 0 0) := by rw [Lib.cell_of_heap tk1]; rfl
    have ty1 := Lib.frozen_of_heap tk1 1
    have tk2 : (((w3).setCell ⟨w.heap.size + 2, 0, none⟩ (.slice none 0 0)).setCell ⟨w.heap.size + 2, 1, none⟩ (.slice none 0 0)).heap[w.heap.size + 2]? = some (.cells #[.slice none 0 0, .slice none 0 0] 24) := by rw [Lib.heap_setCell_same tk1]; rfl
    have td0 : (((w3).setCell ⟨w.heap.size + 2, 0, none⟩ (.slice none 0 0)).setCell ⟨w.heap.size + 2, 1, none⟩ (.slice none 0 0)).cell? ⟨w.heap.size + 2, 0, none⟩ = some (.slice none 0 0) := by rw [Lib.cell_of_heap tk2]; rfl
    have td1 : (((w3).setCell ⟨w.heap.size + 2, 0, none⟩ (.slice none 0 0)).setCell ⟨w.heap.size + 2, 1, none⟩ (.slice none 0 0)).cell? ⟨w.heap.size + 2, 1, none⟩ = some (.slice none 0 0) := by rw [Lib.cell_of_heap tk2]; rfl
    have tg : (w3).grownBy (((w3).setCell ⟨w.heap.size + 2, 0, none⟩ (.slice none 0 0)).setCell ⟨w.heap.size + 2, 1, none⟩ (.slice none 0 0)) (some (w.heap.size + 2)) := (grown_set _ _ _ _).trans_row (grown_set _ _ _ _)
    have tB : Hid (Below w.heap.size w (((w3).setCell ⟨w.heap.size + 2, 0, none⟩ (.slice none 0 0)).setCell ⟨w.heap.size + 2, 1, none⟩ (.slice none 0 0))) := (HT.out w3 (HG3.out)).grown tg (HT.out w3 (HG3.out)).size (fun j e => by cases e; omega)
    clear tk0 tk1 tk2 tg
    go_wp2_with fail
    refine bodyPost_ret (v := .tuple #[.agg #[.slice none 0 0, .slice none 0 0], .int .i64 cO]) (by simp [results, Try.results27, go_sem, td0, td1]) rfl ?_
    exact ⟨.slice none 0 0, .slice none 0 0, [], [], by rw [HER.out], ups_nil _, ups_nil _, fun x hx => absurd hx (by simp), fun e0 => absurd (HER.out.symm.trans e0) (by first | decide | assumption), fun _ => ⟨rfl, rfl⟩, tB.out⟩
  have hcks : Dg.check (ups hq) (ups wq) = 0 ∧ Wr.check ⟨⟨ua, un⟩, ps, says, ts⟩ = 0 := by
    have h9 := HCO.out
    by_cases h0 : Dg.check (ups hq) (ups wq) = 0
    · rw [if_pos h0] at h9
      exact ⟨h0, by rw [← h9]; exact hco⟩
    · rw [if_neg h0] at h9
      exact absurd (h9.symm.trans hco) h0
  have HCK : Hid (Dg.check (ups hq) (ups wq) = 0) := hcks.1
  have HCU : Hid (Wr.check ⟨⟨ua, un⟩, ps, says, ts⟩ = 0) := hcks.2
  clear hcks HCO
  subst hco
  have HOKR : Hid (Dg.Ok (ups hq) (ups wq)) := Dg.check_ok.mp HCK.out
  have hfew : hq.length + wq.length ≤ 200 := by have := HOKR.out.few; rw [ups_length, ups_length] at this; exact this
  obtain ⟨⟨r0, r1⟩, _⟩ := HF.out w3 HG3.out
  obtain ⟨q, HQE⟩ : ∃ q, Hid (q = hq ++ wq) := ⟨_, rfl⟩
  have hql : q.length ≤ 200 := by rw [HQE.out, List.length_append]; exact hfew
  have HBA : Hid (Below w3.heap.size w3 (w3.alloc (.cells #[.slice ah hq.length ch, .slice aw wq.length cw] 22))) := (Below.refl _ _).alloc (Nat.le_refl _) _
  have HCC : Hid (Calls Try.prog 22 #[.slice (some ⟨w3.heap.size, 0, none⟩) 2 2] (w3.alloc (.cells #[.slice ah hq.length ch, .slice aw wq.length cw] 22)) fun e w' => ∃ v', e = .returned v' ∧ URow w' w3.heap.size v' q ∧ Below w3.heap.size w3 w') := by
    have hb := (HT.out w3 HG3.out).trans (HBA.out.mono (HT.out w3 HG3.out).size)
    obtain ⟨_, _, e1, _, k1⟩ := HHV.out.kc (Kc.below hb)
    obtain ⟨_, _, e2, _, k2⟩ := HWV.out.kc (Kc.below hb)
    cases e1
    cases e2
    refine (concatU_any hq wq w3.heap.size ah aw ch cw _ ⟨k1, HCH.out⟩ ⟨k2, HCW.out⟩ (cat_cell _ _ _ 0) (cat_cell _ _ _ 1) (by omega) (fun x hx => (HO.out x hx).below hb)).mono ?_
    rintro e w' ⟨v', h1, h2, h3⟩
    exact ⟨v', h1, by rw [HQE.out]; exact rl_own_le h2 HBA.out.size, HBA.out.trans (h3.mono HBA.out.size)⟩
  go_upto_region 5 with (go_at_call 22; refine Calls.mono HCC.out ?_; rintro e w4 ⟨v4, rfl, hr4, hb4⟩; obtain ⟨al, cl, rfl⟩ := own_slice hr4)
  have HG4 : Hid (Below w1.heap.size w1 w4) := HG3.out.trans (hb4.mono HG3.out.size)
  have HR4 : Hid (URow w4 w3.heap.size (.slice al q.length cl) q) := hr4
  have HS34 : Hid (w3.heap.size ≤ w4.heap.size) := hb4.size
  have HB34 : Hid (Below w3.heap.size w3 w4) := hb4
  clear hr4 hb4 HCC r0 r1 HBA
  have HG34 : Hid (Below w3.heap.size w3 w4) := HB34.out
  have HQ3 : Hid (∀ x, x ∈ q → UvOk w3 x ∧ Wr.check x.u = 0) := fun x hx => by
    have hx' : x ∈ hq ++ wq := HQE.out ▸ hx
    refine ⟨(HO.out x hx').below (HT.out w3 HG3.out), HOKR.out.each x.u ?_⟩
    rw [← ups_append]
    exact List.mem_map.mpr ⟨x, hx', rfl⟩
  have HQOK : Hid (∀ x, x ∈ q → UvOk w4 x ∧ Wr.check x.u = 0) := fun x hx => by
    have hx' : x ∈ hq ++ wq := HQE.out ▸ hx
    refine ⟨(HO.out x hx').below (HT.out w4 HG4.out), HOKR.out.each x.u ?_⟩
    rw [← ups_append]
    exact List.mem_map.mpr ⟨x, hx', rfl⟩
  have HQND : Hid (((ups q).map Wr.Up.id).Nodup) := by
    have h9 := HOKR.out.nd
    rw [← ups_append, ← HQE.out] at h9
    exact h9
  have HF4 : Hid (∀ z, Below w4.heap.size w4 z → (z.cell? ⟨w.heap.size, 0, none⟩ = some (.slice ah hq.length ch) ∧ z.cell? ⟨w.heap.size, 1, none⟩ = some (.slice aw wq.length cw)) ∧ (z.cell? ⟨w.heap.size + 1, 0, none⟩ = some (.int .i64 ua) ∧ z.cell? ⟨w.heap.size + 1, 1, none⟩ = some (.int .i64 un) ∧ z.cell? ⟨w.heap.size + 1, 2, none⟩ = some (.slice a1 n1 d1) ∧ z.cell? ⟨w.heap.size + 1, 3, none⟩ = some (.slice a2 n2 d2) ∧ z.cell? ⟨w.heap.size + 1, 4, none⟩ = some (.slice a3 n3 d3))) := fun z hz => HF.out z (HG4.out.trans (hz.mono HG4.out.size))
  have HBY : Hid (∀ z, Below w4.heap.size w4 z → Calls Try.prog 45 #[.slice al q.length cl] z fun e w' => ∃ b, e = .returned (.map (some b)) ∧ CmAt w' b q ∧ Below z.heap.size z w') := fun z hz =>
    (byIds_any q _ z (own_ups (ownsRow_below HR4.out hz)) (by omega) (fun x hx => (HQOK.out x hx).1.below hz) (fun x hx => (idsOk_of (HQOK.out x hx).2).id)).mono fun e w' h => ⟨_, h.1, h.2.1.at_ HQND.out, h.2.2⟩
  have HID : Hid (Wr.isId ⟨ua, un⟩ = true) := (idsOk_of HCU.out).id
  obtain ⟨hb9, HB9⟩ : ∃ b, Hid (Dg.hasU (ups q) ⟨ua, un⟩ = b) := ⟨_, rfl⟩
  refine wp_region_tabA (addT5 al q.length cl (w.heap.size + 1) ua un q hb9) (by kernel_rfl) (by kernel_rfl) (addT5_mono _ _ _ _ _ _ _ _) ?hop5 ?hend5
  case hop5 =>
    refine AllOps.cons (fun a y h => ?_) ?_
    · have e7 : a.eval (.tmp 7) = (.slice al q.length cl : Value) := h.old 7 (by kernel_rfl)
      refine opOk_val (v := .slice al q.length cl) (w' := y) (wanted_none rfl) ?_ (fun t ht => by cases ht; exact rfl) (Below.refl _ _)
      have ec : ∀ v, a.eval (.const v) = v := fun _ => rfl
      generalize a.eval = ev at *
      clear h
      go_simp
    refine AllOps.cons (fun a y h => ?_) ?_
    · have e26 : a.eval (.tmp 26) = (.slice al q.length cl : Value) := h.of 26 (by kernel_rfl)
      refine opOk_call (f := 45) (args := #[.slice al q.length cl]) (wanted_none rfl) ?_ ?_
      · have ec : ∀ v, a.eval (.const v) = v := fun _ => rfl
        have ef : ∀ f, a.eval (.func f) = .func (.func f) #[] #[] := fun _ => rfl
        generalize a.eval = ev at *
        clear h
        go_simp
      · refine (HBY.out y h.below).mono ?_
        rintro e w' ⟨b, rfl, hm, hb⟩
        exact ⟨_, rfl, fun t ht => by cases ht; exact ⟨b, rfl, hm⟩, hb⟩
    refine AllOps.cons (fun a y h => ?_) ?_
    · have e3 : a.eval (.tmp 3) = (.pointer (some ⟨w.heap.size + 1, 0, none⟩) : Value) := h.old 3 (by kernel_rfl)
      refine opOk_val (v := .pointer (some ⟨w.heap.size + 1, 0, none⟩)) (w' := y) (wanted_none rfl) ?_ (fun t ht => by cases ht; exact rfl) (Below.refl _ _)
      have ec : ∀ v, a.eval (.const v) = v := fun _ => rfl
      generalize a.eval = ev at *
      clear h
      go_simp
    refine AllOps.cons (fun a y h => ?_) ?_
    · have e28 : a.eval (.tmp 28) = (.pointer (some ⟨w.heap.size + 1, 0, none⟩) : Value) := h.of 28 (by kernel_rfl)
      obtain ⟨_, ⟨u0, u1, u2, u3, u4⟩⟩ := HF4.out y h.below
      refine opOk_val (v := .agg #[.int .i64 ua, .int .i64 un]) (w' := y) (wanted_none rfl) ?_ (fun t ht => by cases ht; exact rfl) (Below.refl _ _)
      have ec : ∀ v, a.eval (.const v) = v := fun _ => rfl
      generalize a.eval = ev at *
      clear h
      go_simp
    refine AllOps.cons (fun a y h => ?_) ?_
    · have e29 : a.eval (.tmp 29) = (.agg #[.int .i64 ua, .int .i64 un] : Value) := h.of 29 (by kernel_rfl)
      refine opOk_val (v := .slice (some ⟨y.heap.size, 0, none⟩) 1 1) (w' := y.alloc (.cells #[.int .i64 ua, .int .i64 un] 30)) (wanted_none rfl) ?_ (fun t ht => by cases ht; exact ⟨y.heap.size, rfl, (cat_cell _ _ _ 0).trans rfl, (cat_cell _ _ _ 1).trans rfl⟩) ((Below.refl _ _).alloc (Nat.le_refl _) _)
      have ec : ∀ v, a.eval (.const v) = v := fun _ => rfl
      generalize a.eval = ev at *
      clear h
      go_simp
    refine AllOps.cons (fun a y h => ?_) ?_
    · have t27 : ∃ b, (a.eval (.tmp 27)) = .map (some b) ∧ CmAt y b q := h.of 27 (by kernel_rfl)
      have t30 : ∃ g, (a.eval (.tmp 30)) = .slice (some ⟨g, 0, none⟩) 1 1 ∧ y.cell? ⟨g, 0, none⟩ = some (.int .i64 ua) ∧ y.cell? ⟨g, 1, none⟩ = some (.int .i64 un) := h.of 30 (by kernel_rfl)
      obtain ⟨b, e27, hm⟩ := t27
      obtain ⟨g, e30, g0, g1⟩ := t30
      refine opOk_call (f := 50) (args := #[.map (some b), .slice (some ⟨g, 0, none⟩) 1 1]) (wanted_none rfl) ?_ ?_
      · have ec : ∀ v, a.eval (.const v) = v := fun _ => rfl
        have ef : ∀ f, a.eval (.func f) = .func (.func f) #[] #[] := fun _ => rfl
        generalize a.eval = ev at *
        clear h
        go_simp
      · refine (hold1_any b q ⟨ua, un⟩ g y hm g0 g1 HID.out).mono ?_
        rintro e w' ⟨rfl, hb⟩
        exact ⟨_, rfl, fun t ht => by cases ht; show Value.bool _ = Value.bool hb9; rw [HB9.out], hb⟩
    refine AllOps.cons (fun a y h => ?_) ?_
    · have e31 : a.eval (.tmp 31) = (.bool hb9 : Value) := h.of 31 (by kernel_rfl)
      refine opOk_val (v := .bool (!hb9)) (w' := y) (wanted_none rfl) ?_ (fun t ht => by cases ht; exact rfl) (Below.refl _ _)
      have ec : ∀ v, a.eval (.const v) = v := fun _ => rfl
      generalize a.eval = ev at *
      clear h
      go_simp
    exact AllOps.nil
  case hend5 =>
  rintro ⟨tm, df⟩ w5 hbE hdE hszE hstE hTE
  have k32 : tm.getD 32 undef = .bool (!hb9) := ends_at (T := addT5 al q.length cl (w.heap.size + 1) ua un q hb9) (w := w5) (a := ⟨tm, df⟩) (t := 32) hTE (by kernel_rfl)
  obtain rfl : df = [] := hdE
  clear hTE
  have hF8 := tmps_fold [26, 27, 28, 29, 30, 31, 32] tm _ hszE hstE
  clear hszE hstE
  simp only [List.foldl_cons, List.foldl_nil, k32] at hF8
  clear k32
  generalize tm.getD 26 undef = x26 at hF8
  generalize tm.getD 27 undef = x27 at hF8
  generalize tm.getD 28 undef = x28 at hF8
  generalize tm.getD 29 undef = x29 at hF8
  generalize tm.getD 30 undef = x30 at hF8
  generalize tm.getD 31 undef = x31 at hF8
  simp only [List.setIfInBounds_toArray, List.set_cons_zero, List.set_cons_succ] at hF8
  subst hF8
  have HG5 : Hid (Below w4.heap.size w4 w5) := hbE
  clear hbE HBY
  have HGW5 : Hid (Below w1.heap.size w1 w5) := HG4.out.trans (HG5.out.mono HG4.out.size)
  have HG35 : Hid (Below w3.heap.size w3 w5) := HG34.out.trans (HG5.out.mono HG34.out.size)
  have HUQ : Hid (ups hq ++ ups wq = ups q) := by show _ = _; rw [HQE.out, ups_append]
  have hrq := ownsRow_below HR4.out HG5.out
  have HZB : Hid (w.heap.size + 2 < w3.heap.size) := by have h1 := HG3.out.size; have h2 := HSZ.out; show _ < _; omega
  cases hb9
  · -- it is new
    obtain ⟨_, ⟨u0, u1, u2, u3, u4⟩⟩ := HF4.out w5 HG5.out
    obtain ⟨i0, hi, hz0, hz1, hz2⟩ := info_parts up_info
    have hs5 := HGW5.out.size
    have hs45 := HG5.out.size
    have hs34 := HS34.out
    go_upto_region 7 with (at_builtin; refine wpList_append_own _ rfl _ _ 22 rfl w3.heap.size 34 i0 _ 5 88 Try.underlying22 hi hz0 hz1 hz2 rfl (by decide) _ _ _ rfl (hrq.alloc _) ⟨w5.heap.size, 0, none⟩ 1 1 ([(⟨⟨⟨ua, un⟩, ps, says, ts⟩, .slice a1 n1 d1, .slice a2 n2 d2, .slice a3 n3 d3⟩ : Uv)].map uvCells).flatten rfl rfl (news5 w5 _ _ _ _ _ 34) (by intro u hu; simp at hu; rcases hu with rfl | rfl | rfl | rfl | rfl <;> rfl) (by unfold maxLen; omega) (by omega) (by simp; omega) ?_; intro v6 w6 hown6 hgrow6 _; obtain ⟨aL, cL, rfl⟩ := own_slice hown6)
    obtain ⟨L, HLE⟩ : ∃ L, Hid (L = q ++ [(⟨⟨⟨ua, un⟩, ps, says, ts⟩, .slice a1 n1 d1, .slice a2 n2 d2, .slice a3 n3 d3⟩ : Uv)]) := ⟨_, rfl⟩
    have hLl : L.length = q.length + 1 := by rw [HLE.out, List.length_append]; rfl
    have hrL : URow w6 w3.heap.size (.slice aL L.length cL) L := by
      show World.ownsRow _ _ _ _ _ _ _
      rw [hLl, HLE.out, List.map_append, List.flatten_append]
      exact hown6
    have HG36 : Hid (Below w3.heap.size w3 w6) := ((HG35.out.alloc HG35.out.size _)).grown hgrow6 (by simp; omega) (fun k hk => (hrq.lt k hk).1)
    have HGL : Hid (Below w1.heap.size w1 w6) := HG3.out.trans (HG36.out.mono HG3.out.size)
    have HNW : Hid (Dg.hasU (ups q) ⟨ua, un⟩ = false) := HB9.out
    have HLL : Hid (Dg.more (ups hq ++ ups wq) ⟨⟨ua, un⟩, ps, says, ts⟩ = ups L) := by
      show _ = _
      rw [HUQ.out, HLE.out, ups_append]
      unfold Dg.more
      rw [if_neg (by rw [HNW.out]; simp)]
      rfl
    have HLnd : Hid (((ups L).map Wr.Up.id).Nodup) := by
      show List.Nodup _
      rw [← HLL.out, HUQ.out]
      exact Dg.more_nodup HQND.out
    have HLok : Hid (∀ x, x ∈ L → UvOk w6 x ∧ Wr.check x.u = 0) := fun x hx => by
      rw [HLE.out] at hx
      rcases List.mem_append.mp hx with hx | hx
      · exact ⟨(HQ3.out x hx).1.below HG36.out, (HQ3.out x hx).2⟩
      · rw [List.mem_singleton.mp hx]
        exact ⟨HXX.out.below (HT.out w6 HGL.out), HCU.out⟩
    have HLLE : Hid (L.length = q.length + 1) := hLl
    have hL201 : L.length ≤ 201 := by omega
    rw [← hLl]
    clear hown6 hgrow6 hrq u0 u1 u2 u3 u4 hLl HR4 HQND HQ3 HB9
    by_cases hmany : 200 < L.length
    · have g0 : decide ((200 : Int) < (L.length : Int)) = true := decide_eq_true (by omega)
      have g1 : decide (200 < L.length) = true := decide_eq_true hmany
      have HER : Hid (Dg.addErr (ups hq) (ups wq) ⟨⟨ua, un⟩, ps, says, ts⟩ = 2) := by
        show _ = _
        unfold Dg.addErr
        rw [if_neg (fun e => e HCK.out), if_neg (fun e => e HCU.out), HLL.out, ups_length, if_pos hmany]
      have tk0 := HZ.out w6 (HGL.out)
      have tz0 : (w6).cell? ⟨w.heap.size + 2, 0, none⟩ = some (.slice none 0 0) := by rw [Lib.cell_of_heap tk0]; rfl
      have ty0 := Lib.frozen_of_heap tk0 0
      have tk1 : ((w6).setCell ⟨w.heap.size + 2, 0, none⟩ (.slice none 0 0)).heap[w.heap.size + 2]? = some (.cells #[.slice none 0 0, .slice none 0 0] 24) := by rw [Lib.heap_setCell_same tk0]; rfl
      have tz1 : ((w6).setCell ⟨w.heap.size + 2, 0, none⟩ (.slice none 0 0)).cell? ⟨w.heap.size + 2, 1, none⟩ = some (.slice none 0 0) := by rw [Lib.cell_of_heap tk1]; rfl
      have ty1 := Lib.frozen_of_heap tk1 1
      have tk2 : (((w6).setCell ⟨w.heap.size + 2, 0, none⟩ (.slice none 0 0)).setCell ⟨w.heap.size + 2, 1, none⟩ (.slice none 0 0)).heap[w.heap.size + 2]? = some (.cells #[.slice none 0 0, .slice none 0 0] 24) := by rw [Lib.heap_setCell_same tk1]; rfl
      have td0 : (((w6).setCell ⟨w.heap.size + 2, 0, none⟩ (.slice none 0 0)).setCell ⟨w.heap.size + 2, 1, none⟩ (.slice none 0 0)).cell? ⟨w.heap.size + 2, 0, none⟩ = some (.slice none 0 0) := by rw [Lib.cell_of_heap tk2]; rfl
      have td1 : (((w6).setCell ⟨w.heap.size + 2, 0, none⟩ (.slice none 0 0)).setCell ⟨w.heap.size + 2, 1, none⟩ (.slice none 0 0)).cell? ⟨w.heap.size + 2, 1, none⟩ = some (.slice none 0 0) := by rw [Lib.cell_of_heap tk2]; rfl
      have tg : (w6).grownBy (((w6).setCell ⟨w.heap.size + 2, 0, none⟩ (.slice none 0 0)).setCell ⟨w.heap.size + 2, 1, none⟩ (.slice none 0 0)) (some (w.heap.size + 2)) := (grown_set _ _ _ _).trans_row (grown_set _ _ _ _)
      have tB : Hid (Below w.heap.size w (((w6).setCell ⟨w.heap.size + 2, 0, none⟩ (.slice none 0 0)).setCell ⟨w.heap.size + 2, 1, none⟩ (.slice none 0 0))) := (HT.out w6 (HGL.out)).grown tg (HT.out w6 (HGL.out)).size (fun j e => by cases e; omega)
      clear tk0 tk1 tk2 tg
      go_wp2_with fail
      refine bodyPost_ret (v := .tuple #[.agg #[.slice none 0 0, .slice none 0 0], .int .i64 2]) (by simp [results, Try.results27, go_sem, td0, td1]) rfl ?_
      exact ⟨.slice none 0 0, .slice none 0 0, [], [], by rw [HER.out], ups_nil _, ups_nil _, fun x hx => absurd hx (by simp), fun e0 => absurd (HER.out.symm.trans e0) (by first | decide | assumption), fun _ => ⟨rfl, rfl⟩, tB.out⟩
    have g0 : decide ((200 : Int) < (L.length : Int)) = false := decide_eq_false (by omega)
    have g1 : decide (200 < L.length) = false := decide_eq_false hmany
    have HER : Hid (Dg.addErr (ups hq) (ups wq) ⟨⟨ua, un⟩, ps, says, ts⟩ = 0) := by
      show _ = _
      unfold Dg.addErr
      rw [if_neg (fun e => e HCK.out), if_neg (fun e => e HCU.out), HLL.out, ups_length, if_neg hmany]
    have HST : Hid (Calls Try.prog 53 #[.slice aL L.length cL] w6 fun e w' => ∃ (c l : List Uv) (v : Value), e = .returned (.tuple #[.map (some w6.heap.size), v]) ∧ Dg.settle Dg.snoc [] (ups L) = (ups c, ups l) ∧ (c ++ l).Perm L ∧ CmAt w' w6.heap.size c ∧ URow w' w6.heap.size v l ∧ Below w6.heap.size w6 w') := settle_any L _ w6 (own_ups hrL) (by omega) (fun x hx => (HLok.out x hx).1) (fun x hx => idsOk_of (HLok.out x hx).2) HLnd.out
    go_upto_region 10 with (go_at_call 53; refine Calls.mono HST.out ?_; rintro e w7 ⟨c, l, v7, rfl, hse, hpm, hcm, hr7, hb7⟩; obtain ⟨a7, c7, rfl⟩ := own_slice hr7)
    have HSE : Hid (Dg.settle Dg.snoc [] (ups L) = (ups c, ups l)) := hse
    have HPM : Hid ((c ++ l).Perm L) := hpm
    have hcl : c.length ≤ 1000 ∧ l.length ≤ 1000 := by have := hpm.length_eq; rw [List.length_append] at this; omega
    have HG7 : Hid (Below w1.heap.size w1 w7) := HGL.out.trans (hb7.mono HGL.out.size)
    have HB7 : Hid (Below w6.heap.size w6 w7) := hb7
    have HOC : Hid (∀ x, x ∈ c → UvOk w7 x ∧ Few x.u) := fun x hx => ⟨(HLok.out x (hpm.mem_iff.mp (List.mem_append_left _ hx))).1.below hb7, few_of (HLok.out x (hpm.mem_iff.mp (List.mem_append_left _ hx))).2⟩
    have HOL : Hid (∀ x, x ∈ l → UvOk w7 x ∧ Few x.u) := fun x hx => ⟨(HLok.out x (hpm.mem_iff.mp (List.mem_append_right _ hx))).1.below hb7, few_of (HLok.out x (hpm.mem_iff.mp (List.mem_append_right _ hx))).2⟩
    have HNC : Hid (((ups c).map Wr.Up.id).Nodup ∧ ((ups l).map Wr.Up.id).Nodup) := by
      have h9 := nodup_perm hpm HLnd.out
      rw [ups_append, List.map_append, List.nodup_append] at h9
      exact ⟨h9.1, h9.2.1⟩
    have HCM : Hid (CmAt w7 w6.heap.size c) := hcm
    have HRW : Hid (URow w7 w6.heap.size (.slice a7 l.length c7) l) := hr7
    clear hse hpm hcm hr7 hb7 HST
    have HV1 : Hid (Calls Try.prog 58 #[.map (some w6.heap.size)] w7 fun e w' => ∃ lb, e = .returned (.func (.func 73) #[] lb) ∧ SeqU 73 lb c w' ∧ Below w7.heap.size w7 w') := mvals_any _ c w7 HCM.out
    go_wp2_with fail
    refine Calls.mono HV1.out ?_
    rintro e w8 ⟨lb8, rfl, hs8, hb8⟩
    have HC8 : Hid (Calls Try.prog 57 #[.func (.func 73) #[] lb8] w8 fun e w' => ∃ (v : Value) (R : List Uv), e = .returned v ∧ (ups R).Perm (ups c) ∧ Wr.rise Dg.uOrd (ups R) = true ∧ URow w' w8.heap.size v R ∧ (∀ x, x ∈ R → UvP w8.heap.size w' x) ∧ Below w8.heap.size w8 w') := copies_any 73 lb8 c hcl.1 w8 (fun x hx => (HOC.out x hx).1.below hb8) (fun x hx => (HOC.out x hx).2) HNC.out.1 hs8
    have HB8 : Hid (Below w7.heap.size w7 w8) := hb8
    clear hs8 hb8 HV1
    go_wp2_with fail
    refine Calls.mono HC8.out ?_
    rintro e wa ⟨va, R1, rfl, hp1, hi1, hrw1, hup1, hba⟩
    obtain ⟨ax, cx, rfl⟩ := own_slice hrw1
    have HBA : Hid (Below w7.heap.size w7 wa) := HB8.out.trans (hba.mono HB8.out.size)
    have HR1 : Hid (URow wa w7.heap.size (.slice ax R1.length cx) R1 ∧ ∀ x, x ∈ R1 → UvP w7.heap.size wa x) := ⟨rl_own_le hrw1 HB8.out.size, fun x hx => (hup1 x hx).le HB8.out.size⟩
    have HI1 : Hid ((ups R1).Perm (ups c) ∧ Wr.rise Dg.uOrd (ups R1) = true) := ⟨hp1, hi1⟩
    clear hp1 hi1 hrw1 hup1 hba HC8
    have HV2 : Hid (Calls Try.prog 59 #[.slice a7 l.length c7] wa fun e w' => ∃ lb, e = .returned (.func (.func 74) #[] lb) ∧ SeqU 74 lb l w' ∧ Below wa.heap.size wa w') := svals_any l _ wa (own_ups (ownsRow_below HRW.out HBA.out)) hcl.2 (fun x hx => (HOL.out x hx).1.below HBA.out)
    go_wp2_with fail
    refine Calls.mono HV2.out ?_
    rintro e wb ⟨lbb, rfl, hsb, hbb⟩
    have HBB : Hid (Below w7.heap.size w7 wb) := HBA.out.trans (hbb.mono HBA.out.size)
    have HC9 : Hid (Calls Try.prog 57 #[.func (.func 74) #[] lbb] wb fun e w' => ∃ (v : Value) (R : List Uv), e = .returned v ∧ (ups R).Perm (ups l) ∧ Wr.rise Dg.uOrd (ups R) = true ∧ URow w' wb.heap.size v R ∧ (∀ x, x ∈ R → UvP wb.heap.size w' x) ∧ Below wb.heap.size wb w') := copies_any 74 lbb l hcl.2 wb (fun x hx => (HOL.out x hx).1.below HBB.out) (fun x hx => (HOL.out x hx).2) HNC.out.2 hsb
    have HBW : Hid (Below wa.heap.size wa wb) := hbb
    clear hsb hbb HV2
    go_wp2_with fail
    refine Calls.mono HC9.out ?_
    rintro e w9 ⟨v9, R2, rfl, hp2, hi2, hrw2, hup2, hb9'⟩
    obtain ⟨ay, cy, rfl⟩ := own_slice hrw2
    have hba9 := HBW.out.trans (hb9'.mono HBW.out.size)
    have h79 := HBB.out.trans (hb9'.mono HBB.out.size)
    have HR1b : Hid (URow w9 w7.heap.size (.slice ax R1.length cx) R1 ∧ ∀ x, x ∈ R1 → UvP w7.heap.size w9 x) := ⟨ownsRow_below HR1.out.1 hba9, fun x hx => (HR1.out.2 x hx).below hba9⟩
    have HR2b : Hid (URow w9 w7.heap.size (.slice ay R2.length cy) R2 ∧ ∀ x, x ∈ R2 → UvP w7.heap.size w9 x) := ⟨rl_own_le hrw2 HBB.out.size, fun x hx => (hup2 x hx).le HBB.out.size⟩
    have HI2 : Hid ((ups R2).Perm (ups l) ∧ Wr.rise Dg.uOrd (ups R2) = true) := ⟨hp2, hi2⟩
    have HG9 : Hid (Below w1.heap.size w1 w9) := HG7.out.trans (h79.mono HG7.out.size)
    have hz7 : w.heap.size + 2 < w7.heap.size := by have h1 := HG7.out.size; have h2 := HSZ.out; omega
    clear hp2 hi2 hrw2 hup2 hb9' hba9 h79 HR1 HC9
    have sk0 := HZ.out w9 HG9.out
    have sz0 : (w9).cell? ⟨w.heap.size + 2, 0, none⟩ = some (.slice none 0 0) := by rw [Lib.cell_of_heap sk0]; rfl
    have sy0 := Lib.frozen_of_heap sk0 0
    have sk1 : ((w9).setCell ⟨w.heap.size + 2, 0, none⟩ (.slice ax R1.length cx)).heap[w.heap.size + 2]? = some (.cells #[.slice ax R1.length cx, .slice none 0 0] 24) := by rw [Lib.heap_setCell_same sk0]; rfl
    have sz1 : ((w9).setCell ⟨w.heap.size + 2, 0, none⟩ (.slice ax R1.length cx)).cell? ⟨w.heap.size + 2, 1, none⟩ = some (.slice none 0 0) := by rw [Lib.cell_of_heap sk1]; rfl
    have sy1 := Lib.frozen_of_heap sk1 1
    have sk2 : (((w9).setCell ⟨w.heap.size + 2, 0, none⟩ (.slice ax R1.length cx)).setCell ⟨w.heap.size + 2, 1, none⟩ (.slice ay R2.length cy)).heap[w.heap.size + 2]? = some (.cells #[.slice ax R1.length cx, .slice ay R2.length cy] 24) := by rw [Lib.heap_setCell_same sk1]; rfl
    have sd0 : (((w9).setCell ⟨w.heap.size + 2, 0, none⟩ (.slice ax R1.length cx)).setCell ⟨w.heap.size + 2, 1, none⟩ (.slice ay R2.length cy)).cell? ⟨w.heap.size + 2, 0, none⟩ = some (.slice ax R1.length cx) := by rw [Lib.cell_of_heap sk2]; rfl
    have sd1 : (((w9).setCell ⟨w.heap.size + 2, 0, none⟩ (.slice ax R1.length cx)).setCell ⟨w.heap.size + 2, 1, none⟩ (.slice ay R2.length cy)).cell? ⟨w.heap.size + 2, 1, none⟩ = some (.slice ay R2.length cy) := by rw [Lib.cell_of_heap sk2]; rfl
    have sg : (w9).grownBy (((w9).setCell ⟨w.heap.size + 2, 0, none⟩ (.slice ax R1.length cx)).setCell ⟨w.heap.size + 2, 1, none⟩ (.slice ay R2.length cy)) (some (w.heap.size + 2)) := (grown_set _ _ _ _).trans_row (grown_set _ _ _ _)
    have HFB : Hid (Below w.heap.size w (((w9).setCell ⟨w.heap.size + 2, 0, none⟩ (.slice ax R1.length cx)).setCell ⟨w.heap.size + 2, 1, none⟩ (.slice ay R2.length cy))) := (HT.out w9 HG9.out).grown sg (HT.out w9 HG9.out).size (fun j e => by cases e; omega)
    have HF1 : Hid (UpsV (((w9).setCell ⟨w.heap.size + 2, 0, none⟩ (.slice ax R1.length cx)).setCell ⟨w.heap.size + 2, 1, none⟩ (.slice ay R2.length cy)) (.slice ax R1.length cx) R1) := own_ups (HR1b.out.1.kept sg (.inr (fun e => by have := (HR1b.out.1.lt _ e).1; omega)))
    have HF2 : Hid (UpsV (((w9).setCell ⟨w.heap.size + 2, 0, none⟩ (.slice ax R1.length cx)).setCell ⟨w.heap.size + 2, 1, none⟩ (.slice ay R2.length cy)) (.slice ay R2.length cy) R2) := own_ups (HR2b.out.1.kept sg (.inr (fun e => by have := (HR2b.out.1.lt _ e).1; omega)))
    have HF3 : Hid (∀ x, x ∈ R1 ++ R2 → UvOk (((w9).setCell ⟨w.heap.size + 2, 0, none⟩ (.slice ax R1.length cx)).setCell ⟨w.heap.size + 2, 1, none⟩ (.slice ay R2.length cy)) x) := fun x hx => by
      rcases List.mem_append.mp hx with hx | hx
      · exact ((HR1b.out.2 x hx).grown sg hz7).ok
      · exact ((HR2b.out.2 x hx).grown sg hz7).ok
    have HIS : Hid (Dg.Is (Dg.more (ups hq ++ ups wq) ⟨⟨ua, un⟩, ps, says, ts⟩) (ups R1) (ups R2)) := by
      show Dg.Is _ _ _
      rw [HLL.out]
      exact Dg.is_settle HLnd.out (fun u => by rw [HSE.out]; exact HI1.out.1.mem_iff) (fun u => by rw [HSE.out]; exact HI2.out.1.mem_iff) HI1.out.2 HI2.out.2
    clear HR1b HR2b sk0 sk1 sk2 sg
    go_wp2_with fail
    refine bodyPost_ret (v := .tuple #[.agg #[.slice ax R1.length cx, .slice ay R2.length cy], .int .i64 0]) (by simp [results, Try.results27, go_sem, sd0, sd1]) rfl ?_
    refine ⟨_, _, R1, R2, by rw [HER.out], HF1.out, HF2.out, HF3.out, fun _ => HIS.out, fun h => absurd HER.out h, HFB.out⟩
  · -- it is there
    obtain ⟨L, HLE⟩ : ∃ L, Hid (L = q) := ⟨_, rfl⟩
    have HGL : Hid (Below w1.heap.size w1 w5) := HGW5.out
    have HNW : Hid (Dg.hasU (ups q) ⟨ua, un⟩ = true) := HB9.out
    have HLL : Hid (Dg.more (ups hq ++ ups wq) ⟨⟨ua, un⟩, ps, says, ts⟩ = ups q) := by
      show _ = _
      rw [HUQ.out]
      unfold Dg.more
      rw [if_pos HNW.out]
    have HLnd : Hid (((ups q).map Wr.Up.id).Nodup) := HQND.out
    have HLok : Hid (∀ x, x ∈ q → UvOk w5 x ∧ Wr.check x.u = 0) := fun x hx => ⟨(HQ3.out x hx).1.below HG35.out, (HQ3.out x hx).2⟩
    have hrL := hrq
    have hL201 : q.length ≤ 201 := by omega
    clear hrq HR4 HQ3 HB9
    go_upto_region 7 with fail
    by_cases hmany : 200 < q.length
    · omega
    have g0 : decide ((200 : Int) < (q.length : Int)) = false := decide_eq_false (by omega)
    have g1 : decide (200 < q.length) = false := decide_eq_false hmany
    have HER : Hid (Dg.addErr (ups hq) (ups wq) ⟨⟨ua, un⟩, ps, says, ts⟩ = 0) := by
      show _ = _
      unfold Dg.addErr
      rw [if_neg (fun e => e HCK.out), if_neg (fun e => e HCU.out), HLL.out, ups_length, if_neg hmany]
    have HST : Hid (Calls Try.prog 53 #[.slice al q.length cl] w5 fun e w' => ∃ (c l : List Uv) (v : Value), e = .returned (.tuple #[.map (some w5.heap.size), v]) ∧ Dg.settle Dg.snoc [] (ups q) = (ups c, ups l) ∧ (c ++ l).Perm q ∧ CmAt w' w5.heap.size c ∧ URow w' w5.heap.size v l ∧ Below w5.heap.size w5 w') := settle_any q _ w5 (own_ups hrL) (by omega) (fun x hx => (HLok.out x hx).1) (fun x hx => idsOk_of (HLok.out x hx).2) HLnd.out
    go_upto_region 10 with (go_at_call 53; refine Calls.mono HST.out ?_; rintro e w7 ⟨c, l, v7, rfl, hse, hpm, hcm, hr7, hb7⟩; obtain ⟨a7, c7, rfl⟩ := own_slice hr7)
    have HSE : Hid (Dg.settle Dg.snoc [] (ups q) = (ups c, ups l)) := hse
    have HPM : Hid ((c ++ l).Perm q) := hpm
    have hcl : c.length ≤ 1000 ∧ l.length ≤ 1000 := by have := hpm.length_eq; rw [List.length_append] at this; omega
    have HG7 : Hid (Below w1.heap.size w1 w7) := HGL.out.trans (hb7.mono HGL.out.size)
    have HB7 : Hid (Below w5.heap.size w5 w7) := hb7
    have HOC : Hid (∀ x, x ∈ c → UvOk w7 x ∧ Few x.u) := fun x hx => ⟨(HLok.out x (hpm.mem_iff.mp (List.mem_append_left _ hx))).1.below hb7, few_of (HLok.out x (hpm.mem_iff.mp (List.mem_append_left _ hx))).2⟩
    have HOL : Hid (∀ x, x ∈ l → UvOk w7 x ∧ Few x.u) := fun x hx => ⟨(HLok.out x (hpm.mem_iff.mp (List.mem_append_right _ hx))).1.below hb7, few_of (HLok.out x (hpm.mem_iff.mp (List.mem_append_right _ hx))).2⟩
    have HNC : Hid (((ups c).map Wr.Up.id).Nodup ∧ ((ups l).map Wr.Up.id).Nodup) := by
      have h9 := nodup_perm hpm HLnd.out
      rw [ups_append, List.map_append, List.nodup_append] at h9
      exact ⟨h9.1, h9.2.1⟩
    have HCM : Hid (CmAt w7 w5.heap.size c) := hcm
    have HRW : Hid (URow w7 w5.heap.size (.slice a7 l.length c7) l) := hr7
    clear hse hpm hcm hr7 hb7 HST
    have HV1 : Hid (Calls Try.prog 58 #[.map (some w5.heap.size)] w7 fun e w' => ∃ lb, e = .returned (.func (.func 73) #[] lb) ∧ SeqU 73 lb c w' ∧ Below w7.heap.size w7 w') := mvals_any _ c w7 HCM.out
    go_wp2_with fail
    refine Calls.mono HV1.out ?_
    rintro e w8 ⟨lb8, rfl, hs8, hb8⟩
    have HC8 : Hid (Calls Try.prog 57 #[.func (.func 73) #[] lb8] w8 fun e w' => ∃ (v : Value) (R : List Uv), e = .returned v ∧ (ups R).Perm (ups c) ∧ Wr.rise Dg.uOrd (ups R) = true ∧ URow w' w8.heap.size v R ∧ (∀ x, x ∈ R → UvP w8.heap.size w' x) ∧ Below w8.heap.size w8 w') := copies_any 73 lb8 c hcl.1 w8 (fun x hx => (HOC.out x hx).1.below hb8) (fun x hx => (HOC.out x hx).2) HNC.out.1 hs8
    have HB8 : Hid (Below w7.heap.size w7 w8) := hb8
    clear hs8 hb8 HV1
    go_wp2_with fail
    refine Calls.mono HC8.out ?_
    rintro e wa ⟨va, R1, rfl, hp1, hi1, hrw1, hup1, hba⟩
    obtain ⟨ax, cx, rfl⟩ := own_slice hrw1
    have HBA : Hid (Below w7.heap.size w7 wa) := HB8.out.trans (hba.mono HB8.out.size)
    have HR1 : Hid (URow wa w7.heap.size (.slice ax R1.length cx) R1 ∧ ∀ x, x ∈ R1 → UvP w7.heap.size wa x) := ⟨rl_own_le hrw1 HB8.out.size, fun x hx => (hup1 x hx).le HB8.out.size⟩
    have HI1 : Hid ((ups R1).Perm (ups c) ∧ Wr.rise Dg.uOrd (ups R1) = true) := ⟨hp1, hi1⟩
    clear hp1 hi1 hrw1 hup1 hba HC8
    have HV2 : Hid (Calls Try.prog 59 #[.slice a7 l.length c7] wa fun e w' => ∃ lb, e = .returned (.func (.func 74) #[] lb) ∧ SeqU 74 lb l w' ∧ Below wa.heap.size wa w') := svals_any l _ wa (own_ups (ownsRow_below HRW.out HBA.out)) hcl.2 (fun x hx => (HOL.out x hx).1.below HBA.out)
    go_wp2_with fail
    refine Calls.mono HV2.out ?_
    rintro e wb ⟨lbb, rfl, hsb, hbb⟩
    have HBB : Hid (Below w7.heap.size w7 wb) := HBA.out.trans (hbb.mono HBA.out.size)
    have HC9 : Hid (Calls Try.prog 57 #[.func (.func 74) #[] lbb] wb fun e w' => ∃ (v : Value) (R : List Uv), e = .returned v ∧ (ups R).Perm (ups l) ∧ Wr.rise Dg.uOrd (ups R) = true ∧ URow w' wb.heap.size v R ∧ (∀ x, x ∈ R → UvP wb.heap.size w' x) ∧ Below wb.heap.size wb w') := copies_any 74 lbb l hcl.2 wb (fun x hx => (HOL.out x hx).1.below HBB.out) (fun x hx => (HOL.out x hx).2) HNC.out.2 hsb
    have HBW : Hid (Below wa.heap.size wa wb) := hbb
    clear hsb hbb HV2
    go_wp2_with fail
    refine Calls.mono HC9.out ?_
    rintro e w9 ⟨v9, R2, rfl, hp2, hi2, hrw2, hup2, hb9'⟩
    obtain ⟨ay, cy, rfl⟩ := own_slice hrw2
    have hba9 := HBW.out.trans (hb9'.mono HBW.out.size)
    have h79 := HBB.out.trans (hb9'.mono HBB.out.size)
    have HR1b : Hid (URow w9 w7.heap.size (.slice ax R1.length cx) R1 ∧ ∀ x, x ∈ R1 → UvP w7.heap.size w9 x) := ⟨ownsRow_below HR1.out.1 hba9, fun x hx => (HR1.out.2 x hx).below hba9⟩
    have HR2b : Hid (URow w9 w7.heap.size (.slice ay R2.length cy) R2 ∧ ∀ x, x ∈ R2 → UvP w7.heap.size w9 x) := ⟨rl_own_le hrw2 HBB.out.size, fun x hx => (hup2 x hx).le HBB.out.size⟩
    have HI2 : Hid ((ups R2).Perm (ups l) ∧ Wr.rise Dg.uOrd (ups R2) = true) := ⟨hp2, hi2⟩
    have HG9 : Hid (Below w1.heap.size w1 w9) := HG7.out.trans (h79.mono HG7.out.size)
    have hz7 : w.heap.size + 2 < w7.heap.size := by have h1 := HG7.out.size; have h2 := HSZ.out; omega
    clear hp2 hi2 hrw2 hup2 hb9' hba9 h79 HR1 HC9
    have sk0 := HZ.out w9 HG9.out
    have sz0 : (w9).cell? ⟨w.heap.size + 2, 0, none⟩ = some (.slice none 0 0) := by rw [Lib.cell_of_heap sk0]; rfl
    have sy0 := Lib.frozen_of_heap sk0 0
    have sk1 : ((w9).setCell ⟨w.heap.size + 2, 0, none⟩ (.slice ax R1.length cx)).heap[w.heap.size + 2]? = some (.cells #[.slice ax R1.length cx, .slice none 0 0] 24) := by rw [Lib.heap_setCell_same sk0]; rfl
    have sz1 : ((w9).setCell ⟨w.heap.size + 2, 0, none⟩ (.slice ax R1.length cx)).cell? ⟨w.heap.size + 2, 1, none⟩ = some (.slice none 0 0) := by rw [Lib.cell_of_heap sk1]; rfl
    have sy1 := Lib.frozen_of_heap sk1 1
    have sk2 : (((w9).setCell ⟨w.heap.size + 2, 0, none⟩ (.slice ax R1.length cx)).setCell ⟨w.heap.size + 2, 1, none⟩ (.slice ay R2.length cy)).heap[w.heap.size + 2]? = some (.cells #[.slice ax R1.length cx, .slice ay R2.length cy] 24) := by rw [Lib.heap_setCell_same sk1]; rfl
    have sd0 : (((w9).setCell ⟨w.heap.size + 2, 0, none⟩ (.slice ax R1.length cx)).setCell ⟨w.heap.size + 2, 1, none⟩ (.slice ay R2.length cy)).cell? ⟨w.heap.size + 2, 0, none⟩ = some (.slice ax R1.length cx) := by rw [Lib.cell_of_heap sk2]; rfl
    have sd1 : (((w9).setCell ⟨w.heap.size + 2, 0, none⟩ (.slice ax R1.length cx)).setCell ⟨w.heap.size + 2, 1, none⟩ (.slice ay R2.length cy)).cell? ⟨w.heap.size + 2, 1, none⟩ = some (.slice ay R2.length cy) := by rw [Lib.cell_of_heap sk2]; rfl
    have sg : (w9).grownBy (((w9).setCell ⟨w.heap.size + 2, 0, none⟩ (.slice ax R1.length cx)).setCell ⟨w.heap.size + 2, 1, none⟩ (.slice ay R2.length cy)) (some (w.heap.size + 2)) := (grown_set _ _ _ _).trans_row (grown_set _ _ _ _)
    have HFB : Hid (Below w.heap.size w (((w9).setCell ⟨w.heap.size + 2, 0, none⟩ (.slice ax R1.length cx)).setCell ⟨w.heap.size + 2, 1, none⟩ (.slice ay R2.length cy))) := (HT.out w9 HG9.out).grown sg (HT.out w9 HG9.out).size (fun j e => by cases e; omega)
    have HF1 : Hid (UpsV (((w9).setCell ⟨w.heap.size + 2, 0, none⟩ (.slice ax R1.length cx)).setCell ⟨w.heap.size + 2, 1, none⟩ (.slice ay R2.length cy)) (.slice ax R1.length cx) R1) := own_ups (HR1b.out.1.kept sg (.inr (fun e => by have := (HR1b.out.1.lt _ e).1; omega)))
    have HF2 : Hid (UpsV (((w9).setCell ⟨w.heap.size + 2, 0, none⟩ (.slice ax R1.length cx)).setCell ⟨w.heap.size + 2, 1, none⟩ (.slice ay R2.length cy)) (.slice ay R2.length cy) R2) := own_ups (HR2b.out.1.kept sg (.inr (fun e => by have := (HR2b.out.1.lt _ e).1; omega)))
    have HF3 : Hid (∀ x, x ∈ R1 ++ R2 → UvOk (((w9).setCell ⟨w.heap.size + 2, 0, none⟩ (.slice ax R1.length cx)).setCell ⟨w.heap.size + 2, 1, none⟩ (.slice ay R2.length cy)) x) := fun x hx => by
      rcases List.mem_append.mp hx with hx | hx
      · exact ((HR1b.out.2 x hx).grown sg hz7).ok
      · exact ((HR2b.out.2 x hx).grown sg hz7).ok
    have HIS : Hid (Dg.Is (Dg.more (ups hq ++ ups wq) ⟨⟨ua, un⟩, ps, says, ts⟩) (ups R1) (ups R2)) := by
      show Dg.Is _ _ _
      rw [HLL.out]
      exact Dg.is_settle HLnd.out (fun u => by rw [HSE.out]; exact HI1.out.1.mem_iff) (fun u => by rw [HSE.out]; exact HI2.out.1.mem_iff) HI1.out.2 HI2.out.2
    clear HR1b HR2b sk0 sk1 sk2 sg
    go_wp2_with fail
    refine bodyPost_ret (v := .tuple #[.agg #[.slice ax R1.length cx, .slice ay R2.length cy], .int .i64 0]) (by simp [results, Try.results27, go_sem, sd0, sd1]) rfl ?_
    refine ⟨_, _, R1, R2, by rw [HER.out], HF1.out, HF2.out, HF3.out, fun _ => HIS.out, fun h => absurd HER.out h, HFB.out⟩
end Go.Proofs.Ytmfaodapofamfaa

/- Replicas that came in. -/
namespace Go.Proofs.Ytmfaodapofamfaa
open Go.RowKit

theorem O_cells30 : Try.prog.cellsOf 34 = 5 := by kernel_rfl
theorem O_cells22 : Try.prog.cellsOf 22 = 1 := by kernel_rfl
section
variable {H : Type} {enc : TypeId × Value → H} {w : World} {base : Nat} {spare : Nat → Bool} {held : Bool}
theorem open_ups {fuel : Nat} {v : Value} {x : DataW H × List MemPlace} (h : DataW.trod enc Try.prog w base spare held fuel 22 [v] = some x) : ∃ q, UpsV w v q ∧ q.length ≤ 9223372036854775807 ∧ ∀ x, x ∈ q → UvOk w x := by
  obtain ⟨ao, l, cap, hv, hcp, hmx, hl⟩ := open_rowC Try.underlying22 O_cells30 (by decide) uvZ (fun b off i => UpIn w b off i ∧ UvOk w i) (fun n cs' y b off hlen hc h2 => by
    match cs', hlen with
    | [v0, v1, v2, v3, v4], _ =>
      obtain ⟨u, e0, h1, h3, h4, h5, h6⟩ := open_up h2
      injection e0 with e0
      have e1 : v0 = .int .i64 u.id.a := Option.some.inj (congrArg (fun a : Array Value => a[0]?) e0)
      have e2 : v1 = .int .i64 u.id.n := Option.some.inj (congrArg (fun a : Array Value => a[1]?) e0)
      exact ⟨⟨u, v2, v3, v4⟩, ⟨by rw [← e1]; exact hc 0 (by decide), by rw [← e2]; exact hc 1 (by decide), hc 2 (by decide), hc 3 (by decide), hc 4 (by decide)⟩, ⟨h1, h3, h4, h5, h6⟩⟩) h
  refine ⟨l, ⟨ao, cap, hv, ⟨hcp, fun e => ?_⟩, ?_⟩, hmx, fun f hf => ?_⟩
  · subst e
    rcases Deep.open_slice Try.underlying22 h with ⟨hv2, _⟩ | ⟨a, len, cap2, m, n, D, Pl, hv2, _⟩
    · have hv' : v = .slice none 0 0 := by simpa using hv2
      rw [hv] at hv'
      injection hv' with _ _ h2
    · have hv' : v = .slice (some a) len cap2 := by simpa using hv2
      rw [hv] at hv'
      injection hv' with h1
      cases h1
  · rcases hl with h | ⟨b, off, he, hc⟩
    · exact .inl h
    · exact .inr ⟨b, off, he, fun i hi => (hc i hi).1⟩
  · obtain ⟨i, hi, rfl⟩ := List.getElem_of_mem hf
    rcases hl with h | ⟨b, off, he, hc⟩
    · rw [h] at hi; simp at hi
    · have := (hc i hi).2
      simpa [List.getD, hi] using this
end
end Go.Proofs.Ytmfaodapofamfaa

/- What came in, and how long its slices are at most: each takes at most 2^47 - 4096 bytes. -/
namespace Go.Proofs.Ytmfaodapofamfaa
open Go.RowKit

section
variable {H : Type} {enc : TypeId × Value → H} {w : World} {base : Nat} {spare : Nat → Bool} {held : Bool}
theorem sized_len {st e : TypeId} (ht : Try.prog.underlying st = some (.slice e)) (he : 0 < Try.prog.bytesOf e) {fuel : Nat} {a : Option Addr} {n c : Nat} {x : DataW H × List MemPlace} (h : DataW.trod enc Try.prog w base spare held fuel st [.slice a n c] = some x)
    (hw : ∀ m, m ∈ x.1.weights Try.prog st → m ≤ reachBytes) : n ≤ 140737488351232 := by
  rcases Deep.open_slice ht h with ⟨hv, _⟩ | ⟨a', len, cap, m, n', D, Pl, hv, hb, hl, hm, hmm, hx, hel⟩
  · have hv' : (.slice a n c : Value) = .slice none 0 0 := by simpa using hv
    injection hv' with _ h1 _
    omega
  · have hv' : (.slice a n c : Value) = .slice (some a') len cap := by simpa using hv
    injection hv' with _ h1 _
    have h2 := hw ((((List.range len).map D).length + ((List.range (m - len)).map fun j => D (len + j)).length) * Try.prog.bytesOf e) (by rw [hx]; simp [DataW.weights, ht])
    rw [List.length_map, List.length_range, List.length_map, List.length_range] at h2
    have h3 : len ≤ (len + (m - len)) * Try.prog.bytesOf e := Nat.le_trans (Nat.le_add_right _ _) (Nat.le_mul_of_pos_right _ he)
    have h4 : reachBytes = 140737488351232 := by decide
    omega
theorem open_upsS {fuel : Nat} {v : Value} {x : DataW H × List MemPlace} (h : DataW.trod enc Try.prog w base spare held fuel 22 [v] = some x) (hw : ∀ m, m ∈ x.1.weights Try.prog 22 → m ≤ reachBytes) : ∃ q, UpsV w v q ∧ q.length ≤ 140737488351232 ∧ ∀ x, x ∈ q → UvOk w x := by
  obtain ⟨q, h1, _, h3⟩ := open_ups h
  obtain ⟨ao, cap, rfl, _⟩ := id h1
  exact ⟨q, h1, sized_len Try.underlying22 (by decide +kernel) h hw, h3⟩
theorem sized_struct2 {t : TypeId} {f0 f1 : Field} {fuel : Nat} {cs : List Value} {x : DataW H × List MemPlace} (ht : Try.prog.underlying t = some (.struct #[f0, f1])) (h : DataW.trod enc Try.prog w base spare held fuel t cs = some x) :
    ∃ y0 y1 n, DataW.trod enc Try.prog w base spare held n f0.type ((cs.drop f0.offset).take (Try.prog.cellsOf f0.type)) = some y0 ∧ (∀ m, m ∈ y0.1.weights Try.prog f0.type → m ∈ x.1.weights Try.prog t) ∧
      DataW.trod enc Try.prog w base spare held n f1.type ((cs.drop f1.offset).take (Try.prog.cellsOf f1.type)) = some y1 ∧ (∀ m, m ∈ y1.1.weights Try.prog f1.type → m ∈ x.1.weights Try.prog t) := by
  obtain ⟨xs, n, _, rfl, hl, hlen, hf⟩ := DataW.trod_struct ht h
  match xs, hlen with
  | [y0, y1], _ => exact ⟨y0, y1, n, by simpa using hf 0 f0 rfl, (fun m hm => by simp [DataW.weights, ht, DataW.weightsEach, hm]), by simpa using hf 1 f1 rfl, (fun m hm => by simp [DataW.weights, ht, DataW.weightsEach, hm])⟩
theorem open_repS {fuel : Nat} {v0 v1 : Value} {x : DataW H × List MemPlace} (h : DataW.trod enc Try.prog w base spare held fuel 24 [v0, v1] = some x) (hw : ∀ m, m ∈ x.1.weights Try.prog 24 → m ≤ reachBytes) :
    ∃ hq wq, UpsV w v0 hq ∧ UpsV w v1 wq ∧ (hq.length ≤ 140737488351232 ∧ wq.length ≤ 140737488351232) ∧ ∀ x, x ∈ hq ++ wq → UvOk w x := by
  obtain ⟨y0, y1, n, g0, b0, g1, b1⟩ := sized_struct2 Try.underlying24 h
  simp [O_cells22] at g0 g1
  obtain ⟨hq, h1, h2, h3⟩ := open_upsS g0 (fun m hm => hw m (b0 m hm))
  obtain ⟨wq, k1, k2, k3⟩ := open_upsS g1 (fun m hm => hw m (b1 m hm))
  exact ⟨hq, wq, h1, k1, ⟨h2, k2⟩, fun x hx => by
    rcases List.mem_append.mp hx with hx | hx
    · exact h3 x hx
    · exact k3 x hx⟩
end
end Go.Proofs.Ytmfaodapofamfaa

/- The document's PlaceOf. -/
namespace Go.Proofs.Ytmfaodapofamfaa
open Go.RowKit

/-- Where an id is among updates: r is its place, or -1. -/
def PlaceR (q : List Uv) (x : Wr.Id) (r : Int) : Prop := (r = -1 ∧ Dg.hasU (ups q) x = false) ∨ ∃ k : Nat, r = k ∧ k < q.length ∧ (uvD q k).u.id = x
set_option maxRecDepth 100000 in
set_option maxHeartbeats 2000000 in
theorem PlaceOf_any (q : List Uv) (x : Wr.Id) (v : Value) (w : World) (hV : UpsV w v q) (hl : q.length ≤ 9223372036854775806) : Calls Try.prog 7 #[v, idVal x] w fun e w' => ∃ r : Int, e = .returned (.int .i64 r) ∧ PlaceR q x r ∧ Below w.heap.size w w' := by
  obtain ⟨ao, cap, rfl, _, hA⟩ := hV
  obtain ⟨xa, xn⟩ := x
  have HA : Hid (UpsAt w ao q) := hA
  have HG : Hid (Below w.heap.size w (w.alloc (.cells #[.int .i64 xa, .int .i64 xn] 30))) := ((Gr.refl w).alloc _).below
  have HB : Hid _ := heap_alloc_new w (.cells #[.int .i64 xa, .int .i64 xn] 30)
  clear hA
  go_enter Try.func7, Try.ntmps7
  go_upto_region 1 with fail
  generalize w.alloc (.cells #[.int .i64 xa, .int .i64 xn] 30) = w2 at *
  have c0 : w2.cell? ⟨w.heap.size, 0, none⟩ = some (.int .i64 xa) := by rw [Lib.cell_of_heap HB.out]; rfl
  have c1 : w2.cell? ⟨w.heap.size, 1, none⟩ = some (.int .i64 xn) := by rw [Lib.cell_of_heap HB.out]; rfl
  clear HB
  go_wp2_with fail
  go_loopw [5] (fun iv wr => ∃ k nq : Nat, k ≤ q.length ∧ iv = .int .i64 k ∧ Hid (Dg.hasU (ups (q.take k)) ⟨xa, xn⟩ = false) ∧ wr = w2.drewN nq) (fun iv _ => q.length - (intOf iv).toNat)
  case atStart => exact ⟨0, 0, Nat.zero_le _, rfl, rfl, rfl⟩
  case round =>
    obtain ⟨k, nq, hk, rfl, HR, rfl⟩ := hrel
    have HBW : Hid (Below w.heap.size w (w2.drewN nq)) := HG.out.trans ((blw_drewN w2 nq).mono HG.out.size)
    by_cases hlt : k < q.length
    · obtain ⟨b, off, rfl, p0, p1, _⟩ := ups_at HA.out k hlt
      have a0 := cell_below HG.out p0
      have a1 := cell_below HG.out p1
      clear p0 p1
      have HD : Hid ((uvD q k).u.id ≠ ⟨xa, xn⟩ → Dg.hasU (ups (q.take (k + 1))) ⟨xa, xn⟩ = false) := fun h => by
        rw [uvD_take q k hlt, ups_append]
        have h0 := HR.out
        unfold Dg.hasU at h0 ⊢
        rw [List.any_append, h0]
        simp [ups, h]
      have HE : Hid ((uvD q k).u.id = ⟨xa, xn⟩ → PlaceR q ⟨xa, xn⟩ k) := fun h => .inr ⟨k, rfl, hlt, h⟩
      clear HR
      generalize (uvD q k).u.id = z at *
      obtain ⟨za, zn⟩ := z
      dsimp only at a0 a1
      by_cases e1 : za = xa
      · by_cases e2 : zn = xn
        · subst e1 e2
          have g1 : (za == za) = true := by simp
          have g2 : (zn == zn) = true := by simp
          have HP : Hid _ := HE.out rfl
          go_upto_region 4 with fail
          go_quiet (fail)
          go_wp2_with fail
          go_ret
          exact ⟨k, rfl, HP.out, HG.out.trans ((blw_drewN w2 _).mono HG.out.size)⟩
        · have g2 : (zn == xn) = false := by simpa using e2
          have g3 : (xn == zn) = false := by simpa using fun h => e2 h.symm
          subst e1
          have g1 : (za == za) = true := by simp
          have HN : Hid _ := HD.out (fun h => e2 (by injection h))
          clear HD HE e2
          go_upto_region 4 with fail
          go_quiet (fail)
          go_wp2_with fail
          go_roundw
          case rel => exact ⟨k + 1, _, hlt, by go_num, HN.out, rfl⟩
          case measure => simp [intOf]; omega
      · have g1 : (za == xa) = false := by simpa using e1
        have g3 : (xa == za) = false := by simpa using fun h => e1 h.symm
        have HN : Hid _ := HD.out (fun h => e1 (by injection h))
        clear HD HE e1
        go_upto_region 4 with fail
        go_quiet (fail)
        go_wp2_with fail
        go_roundw
        case rel => exact ⟨k + 1, _, hlt, by go_num, HN.out, rfl⟩
        case measure => simp [intOf]; omega
    · have hdd : decide (k < q.length) = false := decide_eq_false hlt
      have HE : Hid (PlaceR q ⟨xa, xn⟩ (-1)) := by
        have h0 := HR.out
        rw [List.take_of_length_le (by omega)] at h0
        exact .inl ⟨rfl, h0⟩
      go_wp2_with fail
      go_ret
      exact ⟨-1, rfl, HE.out, HBW.out⟩
end Go.Proofs.Ytmfaodapofamfaa

/- What others have, plain: which updates are heads or behind one; nothing of the program stands here. -/
namespace Go.Proofs.Ytmfaodapofamfaa
namespace Gs
open Wr (Up)

inductive Kw (h : List Up) (ids : List Wr.Id) : Wr.Id → Prop
  | head {x : Wr.Id} : x ∈ ids → Dg.hasU h x = true → Kw h ids x
  | under {u : Up} {x : Wr.Id} : u ∈ h → Kw h ids u.id → x ∈ Dg.under u → Dg.hasU h x = true → Kw h ids x
theorem Kw.of {h : List Up} {ids m : List Wr.Id} (hm : ∀ y, y ∈ ids → Dg.hasU h y = true → Kw h m y) {x : Wr.Id} (k : Kw h ids x) : Kw h m x := by
  induction k with
  | head h1 h2 => exact hm _ h1 h2
  | under h1 _ h3 h4 ih => exact .under h1 ih h3 h4
theorem Kw.mono {h : List Up} {ids m : List Wr.Id} (hm : ∀ y, y ∈ ids → y ∈ m) {x : Wr.Id} (k : Kw h ids x) : Kw h m x := k.of fun y hy hh => .head (hm y hy) hh
open Classical in
noncomputable def knows (h : List Up) (ids : List Wr.Id) (u : Up) : Bool := decide (Kw h ids u.id)
noncomputable def known (h : List Up) (ids : List Wr.Id) : List Bool := h.map (knows h ids)
noncomputable def missing (h : List Up) (ids : List Wr.Id) : List Up := h.filter fun u => !knows h ids u
open Classical in
theorem knows_iff {h : List Up} {ids : List Wr.Id} {u : Up} : knows h ids u = true ↔ Kw h ids u.id := by
  unfold knows
  exact decide_eq_true_iff
def at_ (f : List Bool) (i : Nat) : Bool := f.getD i false
theorem at_set {f : List Bool} {i j : Nat} : at_ (f.set i true) j = true ↔ at_ f j = true ∨ (j = i ∧ i < f.length) := by
  unfold at_
  rw [List.getD_eq_getElem?_getD, List.getD_eq_getElem?_getD, List.getElem?_set]
  by_cases e : i = j
  · subst e
    by_cases hl : i < f.length
    · simp [hl]
    · simp [hl]
  · rw [if_neg e]
    constructor
    · exact .inl
    · rintro (h | ⟨h, _⟩)
      · exact h
      · exact absurd h.symm e
theorem set_len (f : List Bool) (i : Nat) : (f.set i true).length = f.length := List.length_set
theorem ups_uvD {q : List Uv} {u : Up} (h : u ∈ ups q) : ∃ i, i < q.length ∧ (uvD q i).u = u := by
  obtain ⟨y, hy, rfl⟩ := List.mem_map.mp h
  obtain ⟨i, hi, rfl⟩ := List.getElem_of_mem hy
  refine ⟨i, hi, ?_⟩
  unfold uvD
  rw [List.getD_eq_getElem?_getD, List.getElem?_eq_getElem hi]
  rfl
theorem mem_uvD {q : List Uv} {i : Nat} (h : i < q.length) : (uvD q i).u ∈ ups q := List.mem_map_of_mem (uvD_mem q i h)
theorem has_uvD {q : List Uv} {i : Nat} (h : i < q.length) : Dg.hasU (ups q) (uvD q i).u.id = true := Dg.hasU_iff.mpr ⟨_, mem_uvD h, rfl⟩
/-- What one who marks leaves. -/
structure MarkP (q : List Uv) (ids : List Wr.Id) (f g : List Bool) : Prop where
  len : g.length = f.length
  mono : ∀ i, at_ f i = true → at_ g i = true
  sound : ∀ i, i < q.length → at_ g i = true → at_ f i = true ∨ Kw (ups q) ids (uvD q i).u.id
  heads : ∀ i, i < q.length → (uvD q i).u.id ∈ ids → at_ g i = true
  shut : ∀ i, i < q.length → at_ g i = true → at_ f i = true ∨ ∀ j, j < q.length → (uvD q j).u.id ∈ Dg.under (uvD q i).u → at_ g j = true
theorem MarkP.refl (q : List Uv) (f : List Bool) : MarkP q [] f f := ⟨rfl, (fun _ h => h), (fun _ _ h => .inl h), (fun _ _ h => by cases h), (fun _ _ h => .inl h)⟩
theorem MarkP.skip {q : List Uv} {ids : List Wr.Id} {x : Wr.Id} {f g : List Bool} (h : MarkP q ids f g) (hx : ∀ i, i < q.length → (uvD q i).u.id = x → at_ g i = true) : MarkP q (ids ++ [x]) f g := by
  refine ⟨h.len, h.mono, fun i hi hg => ?_, fun i hi hm => ?_, h.shut⟩
  · rcases h.sound i hi hg with h1 | h1
    · exact .inl h1
    · exact .inr (h1.mono fun y hy => List.mem_append_left _ hy)
  · rcases List.mem_append.mp hm with h1 | h1
    · exact h.heads i hi h1
    · exact hx i hi (List.mem_singleton.mp h1)
theorem MarkP.visit {q : List Uv} {ids : List Wr.Id} {a : Nat} {f g g2 g3 : List Bool} (h : MarkP q ids f g) (ha : a < q.length) (hl : g.length = q.length)
    (hq : ∀ i, i < q.length → (uvD q i).u.id = (uvD q a).u.id → i = a) (h2 : MarkP q (uvD q a).u.ps (g.set a true) g2) (h3 : MarkP q (uvD q a).u.ts g2 g3) : MarkP q (ids ++ [(uvD q a).u.id]) f g3 := by
  have hk : Kw (ups q) (ids ++ [(uvD q a).u.id]) (uvD q a).u.id := .head (List.mem_append_right _ (List.mem_singleton.mpr rfl)) (has_uvD ha)
  have hkn : ∀ {l : List Wr.Id}, (∀ y, y ∈ l → y ∈ Dg.under (uvD q a).u) → ∀ {x}, Kw (ups q) l x → Kw (ups q) (ids ++ [(uvD q a).u.id]) x := fun hl x k => k.of fun y hy hh => .under (mem_uvD ha) hk (hl y hy) hh
  have hp : ∀ y, y ∈ (uvD q a).u.ps → y ∈ Dg.under (uvD q a).u := fun y hy => List.mem_append_left _ hy
  have ht : ∀ y, y ∈ (uvD q a).u.ts → y ∈ Dg.under (uvD q a).u := fun y hy => List.mem_append_right _ hy
  have hup : ∀ i, at_ g i = true → at_ g3 i = true := fun i hi => h3.mono i (h2.mono i (at_set.mpr (.inl hi)))
  have haa : at_ g3 a = true := h3.mono a (h2.mono a (at_set.mpr (.inr ⟨rfl, by omega⟩)))
  refine ⟨h3.len.trans (h2.len.trans ((set_len _ _).trans h.len)), fun i hi => hup i (h.mono i hi), fun i hi hg => ?_, fun i hi hm => ?_, fun i hi hg => ?_⟩
  · rcases h3.sound i hi hg with h4 | h4
    · rcases h2.sound i hi h4 with h5 | h5
      · rcases at_set.mp h5 with h6 | ⟨rfl, _⟩
        · rcases h.sound i hi h6 with h7 | h7
          · exact .inl h7
          · exact .inr (h7.mono fun y hy => List.mem_append_left _ hy)
        · exact .inr hk
      · exact .inr (hkn hp h5)
    · exact .inr (hkn ht h4)
  · rcases List.mem_append.mp hm with h1 | h1
    · exact hup i (h.heads i hi h1)
    · rw [hq i hi (List.mem_singleton.mp h1)]
      exact haa
  · rcases h3.shut i hi hg with h4 | h4
    · rcases h2.shut i hi h4 with h5 | h5
      · rcases at_set.mp h5 with h6 | ⟨rfl, _⟩
        · rcases h.shut i hi h6 with h7 | h7
          · exact .inl h7
          · exact .inr fun j hj hm => hup j (h7 j hj hm)
        · refine .inr fun j hj hm => ?_
          rcases List.mem_append.mp hm with h1 | h1
          · exact h3.mono j (h2.heads j hj h1)
          · exact h3.heads j hj h1
      · exact .inr fun j hj hm => h3.mono j (h5 j hj hm)
    · exact .inr h4
/-- Whoever marks the heads, marks but what is known, and marks what is under what he marked, has marked what is known. -/
theorem known_of {q : List Uv} {ids : List Wr.Id} {g : List Bool} (hl : g.length = q.length) (h1 : ∀ i, i < q.length → at_ g i = true → Kw (ups q) ids (uvD q i).u.id)
    (h2 : ∀ i, i < q.length → (uvD q i).u.id ∈ ids → at_ g i = true) (h3 : ∀ i, i < q.length → at_ g i = true → ∀ j, j < q.length → (uvD q j).u.id ∈ Dg.under (uvD q i).u → at_ g j = true) : g = known (ups q) ids := by
  have key : ∀ x, Kw (ups q) ids x → ∀ i, i < q.length → (uvD q i).u.id = x → at_ g i = true := by
    intro x k
    induction k with
    | head k1 _ => intro i hi e; exact h2 i hi (by rw [e]; exact k1)
    | under k1 _ k3 _ ih =>
      intro i hi e
      obtain ⟨j, hj, ej⟩ := ups_uvD k1
      exact h3 j hj (ih j hj (by rw [ej])) i hi (by rw [e, ej]; exact k3)
  have hll : (known (ups q) ids).length = q.length := by unfold known; rw [List.length_map, ups_length]
  refine List.ext_getElem? fun i => ?_
  by_cases hi : i < q.length
  · have e1 : g[i]? = some (at_ g i) := by
      unfold at_
      rw [List.getD_eq_getElem?_getD, List.getElem?_eq_getElem (by omega)]
      rfl
    have eu : uvD q i = q[i] := by
      unfold uvD
      rw [List.getD_eq_getElem?_getD, List.getElem?_eq_getElem hi]
      rfl
    have e2 : (known (ups q) ids)[i]? = some (knows (ups q) ids (uvD q i).u) := by
      rw [eu]
      simp [known, ups, List.getElem?_eq_getElem hi]
    rw [e1, e2]
    refine congrArg some ?_
    rw [Bool.eq_iff_iff, knows_iff]
    exact ⟨h1 i hi, fun k => key _ k i hi rfl⟩
  · rw [List.getElem?_eq_none (by omega), List.getElem?_eq_none (by omega)]
theorem MarkP.known {q : List Uv} {ids : List Wr.Id} {g : List Bool} (h : MarkP q ids (List.replicate q.length false) g) : g = known (ups q) ids := by
  have hno : ∀ i, ¬ at_ (List.replicate q.length false) i = true := fun i hi => by
    unfold at_ at hi
    rw [List.getD_eq_getElem?_getD, List.getElem?_replicate] at hi
    split at hi <;> cases hi
  refine known_of (by rw [h.len, List.length_replicate]) (fun i hi hg => ?_) h.heads (fun i hi hg => ?_)
  · exact (h.sound i hi hg).resolve_left (hno i)
  · exact (h.shut i hi hg).resolve_left (hno i)
/-- How many are not yet marked. -/
def left (f : List Bool) : Nat := f.countP (fun b => !b)
theorem left_set : ∀ {f : List Bool} {i : Nat}, i < f.length → at_ f i = false → left (f.set i true) + 1 = left f
  | [], _, h, _ => absurd h (Nat.not_lt_zero _)
  | b :: f, 0, _, h => by
    have hb : b = false := h
    subst hb
    simp [left]
  | b :: f, i + 1, hl, h => by
    have := left_set (f := f) (i := i) (by simpa using hl) (by simpa [at_] using h)
    cases b <;> (simp [left] at this ⊢; omega)
theorem left_mono : ∀ {f g : List Bool}, g.length = f.length → (∀ i, at_ f i = true → at_ g i = true) → left g ≤ left f
  | [], [], _, _ => Nat.le_refl _
  | [], _ :: _, h, _ => by cases h
  | _ :: _, [], h, _ => by cases h
  | b :: f, c :: g, hl, h => by
    have h1 := left_mono (f := f) (g := g) (by simpa using hl) (fun i hi => by simpa [at_] using h (i + 1) (by simpa [at_] using hi))
    have h0 : b = true → c = true := fun hb => by simpa [at_] using h 0 (by simpa [at_] using hb)
    cases b <;> cases c <;> simp [left] at h0 h1 ⊢ <;> omega
/-- The place that a search finds. -/
def BsR (q : List Uv) (x : Wr.Id) (r : Nat) (b : Bool) : Prop := (b = true ∧ r < q.length ∧ (uvD q r).u.id = x) ∨ (b = false ∧ Dg.hasU (ups q) x = false)
theorem rise_at {q : List Uv} (h : Wr.rise Dg.uOrd (ups q) = true) : ∀ i j, i < j → j < q.length → Dg.uOrd (uvD q i).u (uvD q j).u < 0 := by
  induction q with
  | nil => intro i j _ hj; exact absurd hj (Nat.not_lt_zero _)
  | cons a q ih =>
    have h' := Dg.rise_cons.mp (show Wr.rise Dg.uOrd (a.u :: ups q) = true from h)
    intro i j hij hj
    match i, j, hij with
    | 0, j + 1, _ => exact h'.1 _ (mem_uvD (by simpa using hj))
    | i + 1, j + 1, hij => exact ih h'.2 i j (by omega) (by simpa using hj)
theorem ord_trans {x y z : Wr.Id} (h : Wr.idOrd x y < 0) (k : Wr.idOrd y z < 0) : Wr.idOrd x z < 0 := by
  rw [Dg.idOrd_neg] at *
  omega
theorem rise_id {q : List Uv} (h : Wr.rise Dg.uOrd (ups q) = true) {i j : Nat} (hi : i < q.length) (hj : j < q.length) (e : (uvD q i).u.id = (uvD q j).u.id) : i = j := by
  rcases Nat.lt_trichotomy i j with h1 | h1 | h1
  · exact absurd e (Dg.uOrd_ne (rise_at h i j h1 hj))
  · exact h1
  · exact absurd e.symm (Dg.uOrd_ne (rise_at h j i h1 hi))
structure BsI (q : List Uv) (x : Wr.Id) (i j : Nat) : Prop where
  le : i ≤ j
  lt : j ≤ q.length
  low : ∀ t, t < i → Wr.idOrd (uvD q t).u.id x < 0
  high : ∀ t, j ≤ t → t < q.length → ¬ Wr.idOrd (uvD q t).u.id x < 0
theorem BsI.start (q : List Uv) (x : Wr.Id) : BsI q x 0 q.length := ⟨Nat.zero_le _, Nat.le_refl _, (fun t h => absurd h (Nat.not_lt_zero _)), (fun t h1 h2 => absurd h2 (by omega))⟩
theorem BsI.up {q : List Uv} {x : Wr.Id} {i j m : Nat} (h : BsI q x i j) (hr : Wr.rise Dg.uOrd (ups q) = true) (h1 : i ≤ m) (h2 : m < j) (hc : Wr.idOrd (uvD q m).u.id x < 0) : BsI q x (m + 1) j := by
  refine ⟨h2, h.lt, fun t ht => ?_, h.high⟩
  have hl := h.lt
  by_cases e : t = m
  · subst e; exact hc
  · exact ord_trans (rise_at hr t m (by omega) (by omega)) hc
theorem BsI.down {q : List Uv} {x : Wr.Id} {i j m : Nat} (h : BsI q x i j) (hr : Wr.rise Dg.uOrd (ups q) = true) (h1 : i ≤ m) (h2 : m < j) (hc : ¬ Wr.idOrd (uvD q m).u.id x < 0) : BsI q x i m := by
  have hl := h.lt
  refine ⟨h1, by omega, h.low, fun t ht h3 hn => ?_⟩
  by_cases e : t = m
  · subst e; exact hc hn
  · exact hc (ord_trans (rise_at hr m t (by omega) h3) hn)
theorem BsI.fin {q : List Uv} {x : Wr.Id} {i : Nat} (h : BsI q x i i) (hr : Wr.rise Dg.uOrd (ups q) = true) : BsR q x i (decide (i < q.length) && decide (Wr.idOrd (uvD q i).u.id x = 0)) := by
  by_cases h1 : i < q.length
  · by_cases h2 : Wr.idOrd (uvD q i).u.id x = 0
    · exact .inl ⟨by simp [h1, h2], h1, Dg.idOrd_nul.mp h2⟩
    · refine .inr ⟨by simp [h2], ?_⟩
      cases hb : Dg.hasU (ups q) x with
      | false => rfl
      | true =>
        obtain ⟨u, hu, e⟩ := Dg.hasU_iff.mp hb
        obtain ⟨t, ht, et⟩ := ups_uvD hu
        rw [← et] at e
        have hz : Wr.idOrd (uvD q t).u.id x = 0 := Dg.idOrd_nul.mpr e
        rcases Nat.lt_trichotomy t i with h3 | h3 | h3
        · have := h.low t h3; omega
        · subst h3; exact absurd hz h2
        · have h4 := rise_at hr i t h3 ht
          have h5 : Wr.idOrd (uvD q i).u.id x < 0 := by rw [← e]; exact h4
          exact absurd h5 (h.high i (Nat.le_refl _) h1)
  · refine .inr ⟨by simp [h1], ?_⟩
    cases hb : Dg.hasU (ups q) x with
    | false => rfl
    | true =>
      obtain ⟨u, hu, e⟩ := Dg.hasU_iff.mp hb
      obtain ⟨t, ht, et⟩ := ups_uvD hu
      rw [← et] at e
      have hz : Wr.idOrd (uvD q t).u.id x = 0 := Dg.idOrd_nul.mpr e
      have := h.low t (by omega)
      omega
end Gs
end Go.Proofs.Ytmfaodapofamfaa

/- A region by a table whose last operations come one behind the other, behind all others, and may change anything (append, then a store). -/
namespace Go.Proofs.Ytmfaodapofamfaa
open Go.RowKit

/-- Does operation i wait for j, by some steps? -/
def reach (ops : Array Oper) : Nat → Nat → Nat → Bool
  | 0, _, _ => false
  | f + 1, i, j => ((ops[i]?).map fun o => o.after.toList.any fun e => Region.binds .any e && (e.on == j || reach ops f e.on j)).getD false
def Closed (ops : Array Oper) (s : Array Bool) : Prop := ∀ (i : Nat) (o : Oper), s[i]? = some true → ops[i]? = some o → ∀ e, e ∈ o.after → Region.binds .any e = true → s[e.on]? = some true
theorem reach_done {ops : Array Oper} {s : Array Bool} (hC : Closed ops s) : ∀ (f i j : Nat) (o : Oper), ops[i]? = some o → (∀ e, e ∈ o.after → Region.binds .any e = true → s[e.on]? = some true) → reach ops f i j = true → s[j]? = some true
  | 0, _, _, _, _, _, h => by cases h
  | f + 1, i, j, o, ho, hd, h => by
    unfold reach at h
    rw [ho, Option.map_some, Option.getD_some] at h
    obtain ⟨e, he, h2⟩ := List.any_eq_true.mp h
    rw [Bool.and_eq_true, Bool.or_eq_true] at h2
    have hse := hd e (by simpa using he) h2.1
    rcases h2.2 with h3 | h3
    · have h3 : e.on = j := by simpa using h3
      rw [← h3]; exact hse
    · cases hoe : ops[e.on]? with
      | none =>
        cases f with
        | zero => cases h3
        | succ f => unfold reach at h3; rw [hoe] at h3; cases h3
      | some oe => exact reach_done hC f e.on j oe hoe (fun e' he' hb' => hC e.on oe hse hoe e' he' hb') h3
/-- The tail waits for all ahead of it, one by one. -/
def tailFine (ops : Array Oper) (L : Nat) : Bool := (List.range L).all (fun j => reach ops 12 L j) && (List.range ops.size).all fun i => !decide (L < i) || reach ops 12 i (i - 1)
structure OpInT (ops : Array Oper) (T : Nat → Value → World → Prop) (a0 : Act) (w0 : World) (L : Nat) (a : Act) (w : World) : Prop where
  below : Below w0.heap.size w0 w
  defers : a.defers = a0.defers
  size : a.tmps.size = a0.tmps.size
  still : ∀ t, t ∉ ops.toList.filterMap (·.dst) → a.tmps.getD t undef = a0.tmps.getD t undef
  all : ∀ (i : Nat) (o : Oper) (t : Nat), i < L → ops[i]? = some o → o.dst = some t → T t (a.tmps.getD t undef) w

section
variable {P : Program} {ops : Array Oper} {Q : Exit → Act → World → Prop}
end

end Go.Proofs.Ytmfaodapofamfaa

/- A region by a table, with a store among its operations: worlds behind are such as a relation says; one operation S leaves a fact D. -/
namespace Go.Proofs.Ytmfaodapofamfaa
open Go.RowKit

/-- All that is written is written once, and within the frame; what must be waited for stands ahead. -/
def tabFineR (ops : Array Oper) (n : Nat) : Bool :=
  decide ((ops.toList.filterMap (·.dst)).Nodup) && (ops.toList.filterMap (·.dst)).all (fun t => decide (t < n)) && (List.range ops.size).all (fun i => ((ops[i]?).map (fun o => o.after.toList.all (fun e => !Region.binds .any e || decide (e.on < i)))).getD true)
def waitedBy (ops : Array Oper) (S i : Nat) : Bool := ((ops[S]?).map fun o => o.after.toList.any fun e => Region.binds .any e && e.on == i).getD false
structure TabbedR (R : World → World → Prop) (ops : Array Oper) (T : Nat → Value → World → Prop) (a0 : Act) (w0 : World) (s : Array Bool) (a : Act) (w : World) : Prop where
  below : R w0 w
  defers : a.defers = a0.defers
  size : a.tmps.size = a0.tmps.size
  still : ∀ t, t ∉ ops.toList.filterMap (·.dst) → a.tmps.getD t undef = a0.tmps.getD t undef
  done : ∀ (i : Nat) (o : Oper) (t : Nat), s[i]? = some true → ops[i]? = some o → o.dst = some t → T t (a.tmps.getD t undef) w
structure OpInR (R : World → World → Prop) (ops : Array Oper) (T : Nat → Value → World → Prop) (a0 : Act) (w0 : World) (o : Oper) (a : Act) (w : World) : Prop where
  below : R w0 w
  still : ∀ t, t ∉ ops.toList.filterMap (·.dst) → a.tmps.getD t undef = a0.tmps.getD t undef
  has : ∀ e, e ∈ o.after → Region.binds .any e = true → ∀ (o' : Oper) (t : Nat), ops[e.on]? = some o' → o'.dst = some t → T t (a.tmps.getD t undef) w
  size : a.tmps.size = a0.tmps.size
def OpOkR (P : Program) (R : World → World → Prop) (ops : Array Oper) (Q : Exit → Act → World → Prop) (T : Nat → Value → World → Prop) (S : Nat) (D : Act → World → Prop) (i : Nat) (o : Oper) (a : Act) (w : World) : Prop :=
  Region.wanted o (yielded ops a.tmps) = true ∧ o.wp P a w (fun a' w' => ∃ v, a' = a.put o.dst v ∧ (∀ t, o.dst = some t → T t v w') ∧ R w w' ∧ (i = S → D (a.put o.dst v) w') ∧ (waitedBy ops S i = false → ¬ i = S → D a w → D (a.put o.dst v) w')) Q
section
variable {P : Program} {ops : Array Oper} {Q : Exit → Act → World → Prop} {R : World → World → Prop} {T : Nat → Value → World → Prop} {a0 : Act} {w0 : World} {o : Oper} {a : Act} {w : World} {S i : Nat} {D : Act → World → Prop}
theorem OpInR.of (h : OpInR R ops T a0 w0 o a w) (t : Nat) (hw : waitsFor ops o t = true) : T t (a.tmps.getD t undef) w := by
  unfold waitsFor at hw
  rw [List.any_eq_true] at hw
  obtain ⟨e, he, hw⟩ := hw
  rw [Bool.and_eq_true] at hw
  cases ho : ops[e.on]? with
  | none => rw [ho] at hw; simp at hw
  | some o' =>
    rw [ho] at hw
    exact h.has e (by simpa using he) hw.1 o' t ho (by simpa using hw.2)
theorem OpInR.old (h : OpInR R ops T a0 w0 o a w) (t : Nat) (hs : stays ops t = true) : a.tmps.getD t undef = a0.tmps.getD t undef := by
  refine h.still t ?_
  unfold stays at hs
  simpa [List.contains_iff_mem] using hs
theorem opOkR_val {v : Value} {w' : World} (hw : Region.wanted o (yielded ops a.tmps) = true) (hr : (execOp a.eval o).run P w = .ok (.value v) w') (hT : ∀ t, o.dst = some t → T t v w') (hb : R w w') (hS : i = S → D (a.put o.dst v) w') (hD : waitedBy ops S i = false → ¬ i = S → D a w → D (a.put o.dst v) w') : OpOkR P R ops Q T S D i o a w := by
  refine ⟨hw, ?_⟩
  unfold Oper.wp
  rw [hr, Oper.upon_value]
  exact ⟨v, rfl, hT, hb, hS, hD⟩
theorem opOkR_call {f : FuncId} {args : Array Value} (hw : Region.wanted o (yielded ops a.tmps) = true) (hr : (execOp a.eval o).run P w = .ok (.enter f args) w)
    (hc : Calls P f args w fun e w' => ∃ v, e = .returned v ∧ (∀ t, o.dst = some t → T t v w') ∧ R w w' ∧ (i = S → D (a.put o.dst v) w') ∧ (waitedBy ops S i = false → ¬ i = S → D a w → D (a.put o.dst v) w')) : OpOkR P R ops Q T S D i o a w := by
  refine ⟨hw, ?_⟩
  unfold Oper.wp
  rw [hr, Oper.upon_enter]
  refine Calls.mono hc ?_
  rintro e w' ⟨v, rfl, h⟩
  exact ⟨v, rfl, h⟩
def AllOpsI (Φ : Nat → Oper → Prop) : Nat → List Oper → Prop
  | _, [] => True
  | i, o :: l => Φ i o ∧ AllOpsI Φ (i + 1) l
theorem AllOpsI.cons {Φ : Nat → Oper → Prop} {i : Nat} {o : Oper} {l : List Oper} (h : Φ i o) (hl : AllOpsI Φ (i + 1) l) : AllOpsI Φ i (o :: l) := ⟨h, hl⟩
theorem AllOpsI.nil {Φ : Nat → Oper → Prop} {i : Nat} : AllOpsI Φ i [] := trivial
theorem AllOpsI.get {Φ : Nat → Oper → Prop} : ∀ (l : List Oper) (i : Nat), AllOpsI Φ i l → ∀ j o, l[j]? = some o → Φ (i + j) o
  | [], _, _, j, o, h => by simp at h
  | x :: l, i, hA, j, o, h => by
    cases j with
    | zero => simp only [List.getElem?_cons_zero, Option.some.injEq] at h; subst h; exact hA.1
    | succ j =>
      simp only [List.getElem?_cons_succ] at h
      have := AllOpsI.get l (i + 1) hA.2 j o h
      rw [show i + (j + 1) = i + 1 + j by omega]
      exact this
theorem wp_region_tabR (R : World → World → Prop) (hRt : ∀ a b c, R a b → R b c → R a c) (hRd : ∀ w, R w { w with drawn := w.drawn + 1 }) (T : Nat → Value → World → Prop) (S : Nat) (D : Act → World → Prop) (hS : S < ops.size) {id : Nat} {a0 : Act} {w0 : World} (hm : P.follows .mixedOrders = true)
    (hf : tabFineR ops a0.tmps.size = true)
    (hmono : ∀ t v w w', R w w' → T t v w → T t v w')
    (hopA : AllOpsI (fun i o => ∀ a w, OpInR R ops T a0 w0 o a w → OpOkR P R ops Q T S D i o a w) 0 ops.toList)
    (hend : ∀ a w, R w0 w → D a w → a.defers = a0.defers → a.tmps.size = a0.tmps.size → (∀ t, t ∉ ops.toList.filterMap (·.dst) → a.tmps.getD t undef = a0.tmps.getD t undef) → (∀ t, t ∈ ops.toList.filterMap (·.dst) → T t (a.tmps.getD t undef) w) → Q .normal a w) :
    (Code.region id ops true).wp P Q a0 w0 := by
  have hop : ∀ (i : Nat) (o : Oper), ops[i]? = some o → ∀ a w, OpInR R ops T a0 w0 o a w → OpOkR P R ops Q T S D i o a w := fun i o ho => by
    have := AllOpsI.get ops.toList 0 hopA i o (by rw [Array.getElem?_toList]; exact ho)
    rw [Nat.zero_add] at this
    exact this
  unfold tabFineR at hf
  rw [Bool.and_eq_true, Bool.and_eq_true] at hf
  obtain ⟨⟨hnd, hlt⟩, hah⟩ := hf
  have hnd := of_decide_eq_true hnd
  have hlt' : ∀ t, t ∈ ops.toList.filterMap (·.dst) → t < a0.tmps.size := fun t ht => by
    have h := List.all_eq_true.mp hlt t ht
    exact of_decide_eq_true h
  have hah' : ∀ (i : Nat) (o : Oper), ops[i]? = some o → ∀ e, e ∈ o.after → Region.binds .any e = true → e.on < i := fun i o ho e he hbe => by
    have hi : i < ops.size := (Array.getElem?_eq_some_iff.mp ho).1
    have h := List.all_eq_true.mp hah i (List.mem_range.mpr hi)
    rw [ho, Option.map_some, Option.getD_some] at h
    have h9 := List.all_eq_true.mp h e (by simpa using he)
    rw [hbe] at h9
    exact of_decide_eq_true (by simpa using h9)
  have hset : ∀ {T : Nat → Value → World → Prop} {s : Array Bool} {a : Act} {w w' : World} {i : Nat} {o : Oper} {v : Value}, (∀ t v w w', R w w' → T t v w → T t v w') → s.size = ops.size → ops[i]? = some o → TabbedR R ops T a0 w0 s a w → (∀ t, o.dst = some t → T t v w') → R w w' → TabbedR R ops T a0 w0 (s.setIfInBounds i true) (a.put o.dst v) w' := by
    intro T s a w w' i o v hmono hs ho hI hv hb
    refine ⟨hRt _ _ _ hI.below hb, by rw [put_defers]; exact hI.defers, by rw [put_size]; exact hI.size, fun t ht => ?_, fun j oj t hj hoj hd => ?_⟩
    · cases hd : o.dst with
      | none => exact hI.still t ht
      | some u =>
        have hne : t ≠ u := fun h => ht (h ▸ dst_mem ho hd)
        rw [put_get_ne hne]
        exact hI.still t ht
    · by_cases hij : j = i
      · subst hij
        rw [ho] at hoj
        cases hoj
        rw [hd, put_get_self (by rw [hI.size]; exact hlt' t (dst_mem ho hd))]
        exact hv t hd
      · have hj' : s[j]? = some true := by
          rw [Array.getElem?_setIfInBounds, if_neg (fun h => hij h.symm)] at hj
          exact hj
        have h1 := hmono t _ w w' hb (hI.done j oj t hj' hoj hd)
        cases hd2 : o.dst with
        | none => exact h1
        | some u =>
          have hne : t ≠ u := fun h => hij (dst_inj ops.toList hnd j i oj o t (by rw [Array.getElem?_toList]; exact hoj) (by rw [Array.getElem?_toList]; exact ho) hd (h ▸ hd2))
          rw [put_get_ne hne]
          exact h1
  refine wp_region_inv (fun s a w => s.size = ops.size ∧ TabbedR R ops T a0 w0 s a w ∧ (s[S]? = some true → D a w ∧ ∀ i, waitedBy ops S i = true → s[i]? = some true)) hm ?_ ?_ ?_
  · rintro s a w hr ⟨hs, hI, hDs⟩
    have hall : ∀ n : Nat, n ≤ ops.size → ∀ i : Nat, i < n → s[i]? = some true := by
      intro n
      induction n with
      | zero => intro _ i hi; exact absurd hi (Nat.not_lt_zero _)
      | succ n ih =>
        intro hn i hi
        have ih := ih (by omega)
        by_cases hin : i < n
        · exact ih i hin
        · have hin : i = n := by omega
          subst hin
          cases hsi : s[i]? with
          | none => rw [Array.getElem?_eq_none_iff] at hsi; omega
          | some b =>
            cases b with
            | true => rfl
            | false =>
              exfalso
              have hio : i < ops.size := by omega
              have : i ∈ Region.ready .any ops s := by
                unfold Region.ready
                refine List.mem_filter.mpr ⟨List.mem_range.mpr hio, ?_⟩
                rw [Bool.and_eq_true]
                refine ⟨by simp [Array.getD_eq_getD_getElem?, hsi], ?_⟩
                have ho : ops[i]? = some ops[i] := Array.getElem?_eq_getElem hio
                rw [ho, Option.map_some, Option.getD_some, Array.all_eq_true_iff_forall_mem]
                intro e he
                cases hbe : Region.binds .any e with
                | false => rfl
                | true =>
                  have h1 := ih e.on (hah' i _ ho e he hbe)
                  simp [Array.getD_eq_getD_getElem?, h1]
              rw [hr] at this
              exact absurd this (by simp)
    refine hend a w hI.below (hDs (hall ops.size (Nat.le_refl _) S hS)).1 hI.defers hI.size hI.still (fun t ht => ?_)
    obtain ⟨o, ho, hd⟩ := List.mem_filterMap.mp ht
    obtain ⟨i, hi⟩ := List.mem_iff_getElem?.mp ho
    rw [Array.getElem?_toList] at hi
    exact hI.done i o t (hall ops.size (Nat.le_refl _) i (Array.getElem?_eq_some_iff.mp hi).1) hi hd
  · rintro s a w i hi ⟨hs, hI, hDs⟩
    obtain ⟨hsi, o, ho, haf⟩ := ready_mem hi
    have h := hop i o ho a w ⟨hI.below, hI.still, fun e he hb o' t ho' hd => hI.done e.on o' t (haf e he hb) ho' hd, hI.size⟩
    have hss : (s.setIfInBounds i true).size = ops.size := by simp [hs]
    obtain ⟨hw, h⟩ := h
    unfold wpOp
    rw [ho]
    dsimp only
    rw [if_pos hw]
    left
    refine Oper.wp_mono ?_ h
    rintro a' w' ⟨v, rfl, hv, hb, hSS, hDD⟩
    refine ⟨hss, hset hmono hs ho hI hv hb, fun hS1 => ?_⟩
    have hup : ∀ j, s[j]? = some true → (s.setIfInBounds i true)[j]? = some true := fun j hj => by
      rw [Array.getElem?_setIfInBounds]
      split
      · rename_i h9
        subst h9
        rw [hsi] at hj
        cases hj
      · exact hj
    by_cases hiS : i = S
    · refine ⟨hSS hiS, fun j hj => hup j ?_⟩
      subst hiS
      unfold waitedBy at hj
      rw [ho, Option.map_some, Option.getD_some, List.any_eq_true] at hj
      obtain ⟨e, he, h9⟩ := hj
      rw [Bool.and_eq_true] at h9
      have := haf e (by simpa using he) h9.1
      rw [(by simpa using h9.2 : e.on = j)] at this
      exact this
    · rw [Array.getElem?_setIfInBounds, if_neg hiS] at hS1
      obtain ⟨hD1, hW1⟩ := hDs hS1
      refine ⟨?_, fun j hj => hup j (hW1 j hj)⟩
      cases hwi : waitedBy ops S i with
      | true =>
        have := hW1 i hwi
        rw [hsi] at this
        cases this
      | false => exact hDD hwi hiS hD1
  · refine ⟨by simp, ⟨hRd w0, rfl, rfl, fun _ _ => rfl, fun i o t h _ _ => ?_⟩, fun h => ?_⟩
    · rw [Array.getElem?_replicate] at h
      split at h <;> simp at h
    · rw [Array.getElem?_replicate] at h
      split at h <;> simp at h
end
end Go.Proofs.Ytmfaodapofamfaa

