/- Own texts, one behind the other (part 10). -/
import Derived.Test.YtmfaodapofamfaaGreatBundleI
import Derived.Test.YtmfaodapofamfaaGreatRows
/- TellOf: the document's. -/
namespace Go.Proofs.YtmfaodapofamfaaGreat
open Go.RowKit

def RoB (all : List Wr.Up) (ob : Bool) (w : World) (v1 v2 : Value) : Prop := ob = true → RepI all w v1 v2
def AoN (all : List Wr.Up) (ob : Bool) (w : World) (v : Value) : Prop := ∃ a1 n1 c1 a2 n2 c2, v = .tuple #[.agg #[.slice a1 n1 c1, .slice a2 n2 c2], .bool ob] ∧ RoB all ob w (.slice a1 n1 c1) (.slice a2 n2 c2)
theorem AoN.kn {all : List Wr.Up} {ob : Bool} {w w' : World} {v : Value} (h : AoN all ob w v) (k : Kn w w') : AoN all ob w' v := by
  obtain ⟨a1, n1, c1, a2, n2, c2, e, h⟩ := h
  exact ⟨a1, n1, c1, a2, n2, c2, e, fun e => (h e).kn k⟩
def RoN (all : List Wr.Up) (ob : Bool) (w : World) (v : Value) : Prop := ∃ a1 n1 c1 a2 n2 c2, v = .agg #[.slice a1 n1 c1, .slice a2 n2 c2] ∧ RoB all ob w (.slice a1 n1 c1) (.slice a2 n2 c2)
theorem RoN.kn {all : List Wr.Up} {ob : Bool} {w w' : World} {v : Value} (h : RoN all ob w v) (k : Kn w w') : RoN all ob w' v := by
  obtain ⟨a1, n1, c1, a2, n2, c2, e, h⟩ := h
  exact ⟨a1, n1, c1, a2, n2, c2, e, fun e => (h e).kn k⟩
def toD (s B : Nat) (all : List Wr.Up) (ob : Bool) (a : Act) (w : World) : Prop := ∃ F, a.tmps.getD s undef = .pointer (some ⟨F, 0, none⟩) ∧ B ≤ F ∧ ∃ a1 n1 c1 a2 n2 c2, w.heap[F]? = some (.cells #[.slice a1 n1 c1, .slice a2 n2 c2] 24) ∧ RoB all ob w (.slice a1 n1 c1) (.slice a2 n2 c2)
theorem addof_rep {all : List Wr.Up} (hf : Fair all) (v1 v2 : Value) (x : Uv) (w : World) (h : RepI all w v1 v2) (hx : UvOk w x) (hc : Wr.check x.u = 0) (ob : Bool) (hob : ob = decide ((Dg.more all x.u).length ≤ 200)) :
    Calls Tryz.prog 11 #[.agg #[v1, v2], uvVal x] w fun e w' => ∃ v, e = .returned v ∧ AoN (Dg.more all x.u) ob w' v ∧ Below w.heap.size w w' := by
  obtain ⟨hq, wq, h1, h2, h3, h4, o, hn⟩ := h.ok hf
  have hi : ∀ y : Uv, Wr.check y.u = 0 → y.u.ps.length ≤ 6 ∧ y.u.ts.length ≤ 6 := fun y hy => ⟨(Wr.right_of hy).ps, (Wr.right_of hy).ts⟩
  have hmem : ∀ v, v ∈ ups hq ++ ups wq ↔ v ∈ all := fun v => by rw [List.mem_append]; exact h4.parts.mem v
  refine (AddOf_any hq wq v1 v2 x w h1 h2 (by have := hf.len; omega) (fun y hy => ⟨h3 y hy, hi y (o.each y.u (by rw [← ups_append]; exact List.mem_map_of_mem hy))⟩) ⟨hx, hi x hc⟩ (by rw [ups_append]; exact o.nd)).mono ?_
  rintro e w' ⟨o1v, o2v, c, l, b, rfl, k1, k2, k3, k4, k5⟩
  obtain ⟨a1, c1, rfl, hj1⟩ := id k1
  obtain ⟨a2, c2, rfl, hj2⟩ := id k2
  have hlen := hf.len
  have key : b = ob ∧ (b = true → RepI (Dg.more all x.u) w' (.slice a1 c.length c1) (.slice a2 l.length c2)) := by
    rcases k4 with ⟨ha, rfl, rfl, rfl⟩ | ⟨ha, hl, rfl, rfl, rfl⟩ | ⟨ha, hl, rfl, hs⟩
    · rw [Dg.hasU_congr hmem] at ha
      have e : Dg.more all x.u = all := by unfold Dg.more; rw [ha]; rfl
      refine ⟨by rw [hob, e]; exact (decide_eq_true hlen).symm, fun _ => ?_⟩
      rw [e]
      exact ⟨_, _, k1, k2, k3, h4⟩
    · rw [Dg.hasU_congr hmem] at ha
      have e : (Dg.more all x.u).length = all.length + 1 := by unfold Dg.more; rw [ha]; simp
      exact ⟨by rw [hob]; exact (decide_eq_false (by omega)).symm, fun h => by cases h⟩
    · have hs2 : Dg.settle (fun c x => Dg.ins x c) (ups hq) (Dg.ins x.u (ups wq)) = (ups c, ups l) := hs
      have h6 := Dg.is_add o ha
      rw [hs2] at h6
      rw [Dg.hasU_congr hmem] at ha
      have e : (Dg.more all x.u).length = all.length + 1 := by unfold Dg.more; rw [ha]; simp
      exact ⟨by rw [hob]; exact (decide_eq_true (by omega)).symm, fun _ => ⟨_, _, k1, k2, k3, h4.on h6⟩⟩
  obtain ⟨rfl, hr⟩ := key
  exact ⟨_, rfl, ⟨a1, _, c1, a2, _, c2, rfl, hr⟩, k5⟩
def toT (B : Nat) (u1 : Option Addr) (n1 g1 : Nat) (u2 : Option Addr) (n2 g2 : Nat) (b f nA cA k o : Nat) (va vn : Int) (b1 : Option Addr) (m1 f1 : Nat) (b2 : Option Addr) (m2 f2 : Nat) (b3 : Option Addr) (m3 f3 : Nat) (all : List Wr.Up) (ob : Bool) (tQ : Nat) (vQ : Value) (WQ : World) : Prop :=
  match tQ with
  | 16 => vQ = .agg #[.slice u1 n1 g1, .slice u2 n2 g2]
  | 17 => vQ = .slice (some ⟨b, f, none⟩) nA cA
  | 18 => vQ = .int .i64 k
  | 19 => vQ = .pointer (some ⟨b, o, none⟩)
  | 20 => vQ = .agg #[.int .i64 va, .int .i64 vn, .slice b1 m1 f1, .slice b2 m2 f2, .slice b3 m3 f3]
  | 21 => AoN all ob WQ vQ
  | 15 => AoN all ob WQ vQ
  | 22 => RoN all ob WQ vQ
  | 23 => vQ = .bool ob
  | 7 => Bxp B WQ vQ
  | 8 => vQ = .bool ob
  | _ => True
theorem toT_mono (B : Nat) (u1 : Option Addr) (n1 g1 : Nat) (u2 : Option Addr) (n2 g2 : Nat) (b f nA cA k o : Nat) (va vn : Int) (b1 : Option Addr) (m1 f1 : Nat) (b2 : Option Addr) (m2 f2 : Nat) (b3 : Option Addr) (m3 f3 : Nat) (all : List Wr.Up) (ob : Bool) (C : Nat) (tQ : Nat) (vQ : Value) (W W' : World) (hb : Rb C W W') (h : toT B u1 n1 g1 u2 n2 g2 b f nA cA k o va vn b1 m1 f1 b2 m2 f2 b3 m3 f3 all ob tQ vQ W) : toT B u1 n1 g1 u2 n2 g2 b f nA cA k o va vn b1 m1 f1 b2 m2 f2 b3 m3 f3 all ob tQ vQ W' := by
  revert h
  unfold toT
  split <;> (intro h; first | exact h | exact AoN.kn h hb.2.1 | exact RoN.kn h hb.2.1 | exact Bxp.rb h hb)

set_option maxRecDepth 100000 in
set_option maxHeartbeats 4000000 in
theorem TellOf_any (hq wq R : List Uv) (hv wv rv : Value) (w : World) (hV : UpsV w hv hq) (wV : UpsV w wv wq) (rV : UpsV w rv R) (hok : ∀ y, y ∈ hq ++ wq → UvOk w y) (rok : ∀ y, y ∈ R → UvOk w y ∧ Wr.check y.u = 0) (hrl : R.length ≤ 1000) (o1 : Dg.Ok (ups hq) (ups wq)) :
    Calls Tryz.prog 24 #[.agg #[hv, wv], rv] w fun e w' => ∃ a1 n1 c1 a2 n2 c2, e = .returned (.tuple #[.agg #[.slice a1 n1 c1, .slice a2 n2 c2], .bool (decide (Gs.tellErr (ups hq ++ ups wq) (ups R) = 0))]) ∧ ReE (Dg.mores (ups hq ++ ups wq) (ups R)) (Gs.tellErr (ups hq ++ ups wq) (ups R)) w' (.slice a1 n1 c1) (.slice a2 n2 c2) ∧ Below w.heap.size w w' := by
  obtain ⟨ah, ch, rfl, q1, q2⟩ := id hV
  obtain ⟨aw, cw, rfl, q3, q4⟩ := id wV
  obtain ⟨ar, cr, rfl, q5, q6⟩ := id rV
  clear q1 q2 q3 q4 q5 q6
  have hf1 := o1.few
  rw [ups_length, ups_length] at hf1
  have HR : Hid (∀ z, Kn w z → UpsV z (.slice ah hq.length ch) hq ∧ UpsV z (.slice aw wq.length cw) wq ∧ (∀ y, y ∈ hq ++ wq → UvOk z y)) := fun z hz => ⟨hV.kn hz, wV.kn hz, fun y hy => (hok y hy).kn hz⟩
  have HRV : Hid (UpsV w (.slice ar R.length cr) R) := rV
  have HRO : Hid (∀ y, y ∈ R → UvOk w y ∧ Wr.check y.u = 0) := rok
  have HO1 : Hid (Dg.Ok (ups hq) (ups wq)) := o1
  clear hV wV rV hok rok o1
  have hu0 := heap_alloc_new w (.cells #[.slice ah hq.length ch, .slice aw wq.length cw] 24)
  have hg0 := new_below w (.cells #[.slice ah hq.length ch, .slice aw wq.length cw] 24)
  have hz0 : (w.alloc (.cells #[.slice ah hq.length ch, .slice aw wq.length cw] 24)).heap.size = w.heap.size + 1 := by simp
  have hu1 := heap_alloc_new (w.alloc (.cells #[.slice ah hq.length ch, .slice aw wq.length cw] 24)) (.cells #[.slice none 0 0, .slice none 0 0] 24)
  have hg1 := new_below (w.alloc (.cells #[.slice ah hq.length ch, .slice aw wq.length cw] 24)) (.cells #[.slice none 0 0, .slice none 0 0] 24)
  rw [hz0] at hu1
  have hu0' := (hg1.block _ (by rw [hz0]; omega)).trans hu0
  have hgg := hg0.trans (hg1.mono hg0.size)
  go_enter Tryz.func24, Tryz.ntmps24
  go_upto_region 1 with fail
  clear hu0 hg0 hz0 hg1
  generalize (w.alloc (.cells #[.slice ah hq.length ch, .slice aw wq.length cw] 24)).alloc (.cells #[.slice none 0 0, .slice none 0 0] 24) = w1 at *
  have hk1 := HR.out w1 (Kn.below hgg)
  have HB0 : Hid (BoxI (Dg.mores (ups hq ++ ups wq) []) w1 w.heap.size) := ⟨_, _, _, _, _, _, hu0', _, _, hk1.1, hk1.2.1, hk1.2.2, HO1.out.is⟩
  have HN0 : Hid (w1.heap[w.heap.size + 1]? = some (.cells #[.slice none 0 0, .slice none 0 0] 24)) := hu1
  have HR0 : Hid (Rb w.heap.size w w1) := Rb.of hgg (Nat.le_refl _)
  have HL0 : Hid (((ups hq ++ ups wq)).length ≤ 200) := by show List.length _ ≤ 200; rw [List.length_append, ups_length, ups_length]; exact hf1
  have HFR : Hid (∀ k, (Dg.mores (ups hq ++ ups wq) (ups (R.take k))).length ≤ 200 → Fair (Dg.mores (ups hq ++ ups wq) (ups (R.take k)))) := fun k hk => by
    refine ⟨Dg.mores_nodup HO1.out.nd, Dg.mores_check HO1.out.each (fun u hu => ?_), hk⟩
    obtain ⟨y, hy, rfl⟩ := List.mem_map.mp hu
    exact (HRO.out y (List.mem_of_mem_take hy)).2
  clear hu0' hu1 hgg hk1
  go_wp2_with fail
  go_loopw [6] (fun iv wr => ∃ k : Nat, k ≤ R.length ∧ iv = .int .i64 k ∧ Hid (BoxI (Dg.mores (ups hq ++ ups wq) (ups (R.take k))) wr w.heap.size) ∧ Hid ((Dg.mores (ups hq ++ ups wq) (ups (R.take k))).length ≤ 200) ∧ Hid (Rb w.heap.size w wr) ∧ Hid (wr.heap[w.heap.size + 1]? = some (.cells #[.slice none 0 0, .slice none 0 0] 24))) (fun iv _ => R.length - (intOf iv).toNat)
  case atStart => exact ⟨0, Nat.zero_le _, rfl, HB0.out, HL0.out, HR0.out, HN0.out⟩
  case round =>
    clear HB0 HN0 HR0 HL0
    obtain ⟨k, hk, rfl, HA, HLN, HRB, HNN⟩ := hrel
    by_cases hlt : k < R.length
    · have g0 : decide (k < R.length) = true := decide_eq_true hlt
      have HSA : Hid (Dg.mores (ups hq ++ ups wq) (ups (R.take (k + 1))) = Dg.more (Dg.mores (ups hq ++ ups wq) (ups (R.take k))) (uvD R k).u) := by show _ = _; rw [uvD_take R k hlt, ups_append]; exact Dg.mores_snoc _ _ _
      have HOV : Hid (200 < (Dg.mores (ups hq ++ ups wq) (ups (R.take (k + 1)))).length → Gs.tellErr (ups hq ++ ups wq) (ups R) = 2) := fun h => by
        have e : ups R = ups (R.take (k + 1)) ++ ups (R.drop (k + 1)) := by rw [← ups_append, List.take_append_drop]
        rw [e]
        exact Gs.tell_over h
      have HF1 : Hid _ := HFR.out k HLN.out
      obtain ⟨ar', cr', er, _, hAA⟩ := HRV.out.kn HRB.out.2.1
      cases er
      obtain ⟨b, off, eb, p0, p1, p2, p3, p4⟩ := ups_at hAA k hlt
      have hxo : UvOk wr (uvD R k) ∧ Wr.check (uvD R k).u = 0 := ⟨(HRO.out _ (uvD_mem R k hlt)).1.kn HRB.out.2.1, (HRO.out _ (uvD_mem R k hlt)).2⟩
      clear hAA
      generalize Dg.mores (ups hq ++ ups wq) (ups (R.take k)) = M at *
      generalize uvD R k = x at *
      obtain ⟨b1, m1, f1, b2, m2, f2, b3, m3, f3, e1', e2', e3'⟩ := hxo.1.forms
      have HX : Hid (UvOk wr x ∧ Wr.check x.u = 0) := hxo
      clear hxo
      obtain ⟨⟨⟨va, vn⟩, ps, says, ts⟩, vp, vs, vt⟩ := x
      dsimp only at *
      subst e1' e2' e3'
      have HXU : Hid (∀ z, Kn wr z → z.cell? ⟨b, off + k * 5, none⟩ = some (.int .i64 va) ∧ z.cell? ⟨b, off + k * 5 + 1, none⟩ = some (.int .i64 vn) ∧ z.cell? ⟨b, off + k * 5 + 2, none⟩ = some (.slice b1 m1 f1) ∧ z.cell? ⟨b, off + k * 5 + 3, none⟩ = some (.slice b2 m2 f2) ∧ z.cell? ⟨b, off + k * 5 + 4, none⟩ = some (.slice b3 m3 f3)) := fun z hz => ⟨hz _ ⟨_, _, p0⟩ _ _ p0, hz _ ⟨_, _, p0⟩ _ _ p1, hz _ ⟨_, _, p0⟩ _ _ p2, hz _ ⟨_, _, p0⟩ _ _ p3, hz _ ⟨_, _, p0⟩ _ _ p4⟩
      clear p0 p1 p2 p3 p4
      subst eb
      obtain ⟨u1, n1, g1, u2, n2, g2, hFh, hRep⟩ := HA.out
      have hXl := HA.out.lt
      obtain ⟨ob, HOB⟩ : ∃ ob, Hid (ob = decide ((Dg.more M ⟨⟨va, vn⟩, ps, says, ts⟩).length ≤ 200)) := ⟨_, rfl⟩
      have HBC : Hid (∀ z, Below wr.heap.size wr z → z.cell? ⟨w.heap.size, 0, none⟩ = some (.slice u1 n1 g1) ∧ z.cell? ⟨w.heap.size, 1, none⟩ = some (.slice u2 n2 g2)) := fun z hz => ⟨cell_below hz (by rw [Lib.cell_of_heap hFh]; rfl), cell_below hz (by rw [Lib.cell_of_heap hFh]; rfl)⟩
      have HAD : Hid (∀ z, Rb wr.heap.size wr z → Calls Tryz.prog 11 #[.agg #[.slice u1 n1 g1, .slice u2 n2 g2], uvVal ⟨⟨⟨va, vn⟩, ps, says, ts⟩, .slice b1 m1 f1, .slice b2 m2 f2, .slice b3 m3 f3⟩] z fun e w' => ∃ v, e = .returned v ∧ AoN (Dg.more M ⟨⟨va, vn⟩, ps, says, ts⟩) ob w' v ∧ Below z.heap.size z w') := fun z hz => addof_rep HF1.out _ _ ⟨⟨⟨va, vn⟩, ps, says, ts⟩, .slice b1 m1 f1, .slice b2 m2 f2, .slice b3 m3 f3⟩ z (hRep.kn hz.2.1) (HX.out.1.kn hz.2.1) HX.out.2 ob HOB.out
      clear hFh hRep
      go_upto_region 4 with fail
      refine wp_region_tabR (Rb wr.heap.size) (fun _ _ _ => Rb.trans) (fun _ => Rb.draw _ _) (toT wr.heap.size u1 n1 g1 u2 n2 g2 b off R.length cr k (off + k * 5) va vn b1 m1 f1 b2 m2 f2 b3 m3 f3 (Dg.more M ⟨⟨va, vn⟩, ps, says, ts⟩) ob) 10 (toD 7 wr.heap.size (Dg.more M ⟨⟨va, vn⟩, ps, says, ts⟩) ob) (by decide) (by kernel_rfl) (by kernel_rfl) (toT_mono _ _ _ _ _ _ _ _ _ _ _ _ _ _ _ _ _ _ _ _ _ _ _ _ _ _ _) ?hop4 ?hend4
      case hop4 =>
        refine AllOpsI.cons (fun a y h => ?_) ?_
        · have e2 : a.eval (.tmp 2) = (.pointer (some ⟨w.heap.size, 0, none⟩) : Value) := h.old 2 (by kernel_rfl)
          obtain ⟨q0, q1⟩ := HBC.out y h.below.1
          refine opOkR_val (v := .agg #[.slice u1 n1 g1, .slice u2 n2 g2]) (w' := y) (wanted_none rfl) ?_ (fun t ht => by cases ht; exact rfl) (Rb.refl _ _) (fun h9 => absurd h9 (by decide)) (fun h9 => absurd h9 (by decide))
          have ec : ∀ v, a.eval (.const v) = v := fun _ => rfl
          generalize a.eval = ev at *
          clear h
          go_simp
        refine AllOpsI.cons (fun a y h => ?_) ?_
        · have e1 : a.eval (.tmp 1) = (.slice (some ⟨b, off, none⟩) R.length cr : Value) := h.old 1 (by kernel_rfl)
          refine opOkR_val (v := .slice (some ⟨b, off, none⟩) R.length cr) (w' := y) (wanted_none rfl) ?_ (fun t ht => by cases ht; exact rfl) (Rb.refl _ _) (fun h9 => absurd h9 (by decide)) (fun h9 => absurd h9 (by decide))
          have ec : ∀ v, a.eval (.const v) = v := fun _ => rfl
          generalize a.eval = ev at *
          clear h
          go_simp
        refine AllOpsI.cons (fun a y h => ?_) ?_
        · have e6 : a.eval (.tmp 6) = (.int .i64 k : Value) := h.old 6 (by kernel_rfl)
          refine opOkR_val (v := .int .i64 k) (w' := y) (wanted_none rfl) ?_ (fun t ht => by cases ht; exact rfl) (Rb.refl _ _) (fun h9 => absurd h9 (by decide)) (fun h9 => absurd h9 (by decide))
          have ec : ∀ v, a.eval (.const v) = v := fun _ => rfl
          generalize a.eval = ev at *
          clear h
          go_simp
        refine AllOpsI.cons (fun a y h => ?_) ?_
        · have e17 : a.eval (.tmp 17) = (.slice (some ⟨b, off, none⟩) R.length cr : Value) := h.of 17 (by kernel_rfl)
          have e18 : a.eval (.tmp 18) = (.int .i64 k : Value) := h.of 18 (by kernel_rfl)
          refine opOkR_val (v := .pointer (some ⟨b, (off + k * 5), none⟩)) (w' := y) (wanted_none rfl) ?_ (fun t ht => by cases ht; exact rfl) (Rb.refl _ _) (fun h9 => absurd h9 (by decide)) (fun h9 => absurd h9 (by decide))
          have ec : ∀ v, a.eval (.const v) = v := fun _ => rfl
          generalize a.eval = ev at *
          clear h
          go_simp
        refine AllOpsI.cons (fun a y h => ?_) ?_
        · have e19 : a.eval (.tmp 19) = (.pointer (some ⟨b, (off + k * 5), none⟩) : Value) := h.of 19 (by kernel_rfl)
          obtain ⟨q0, q1, q2, q3, q4⟩ := HXU.out y h.below.2.1
          refine opOkR_val (v := .agg #[.int .i64 va, .int .i64 vn, .slice b1 m1 f1, .slice b2 m2 f2, .slice b3 m3 f3]) (w' := y) (wanted_none rfl) ?_ (fun t ht => by cases ht; exact rfl) (Rb.refl _ _) (fun h9 => absurd h9 (by decide)) (fun h9 => absurd h9 (by decide))
          have ec : ∀ v, a.eval (.const v) = v := fun _ => rfl
          generalize a.eval = ev at *
          clear h
          go_simp
        refine AllOpsI.cons (fun a y h => ?_) ?_
        · have e16 : a.eval (.tmp 16) = (.agg #[.slice u1 n1 g1, .slice u2 n2 g2] : Value) := h.of 16 (by kernel_rfl)
          have e20 : a.eval (.tmp 20) = (.agg #[.int .i64 va, .int .i64 vn, .slice b1 m1 f1, .slice b2 m2 f2, .slice b3 m3 f3] : Value) := h.of 20 (by kernel_rfl)
          refine opOkR_call (f := 11) (args := #[.agg #[.slice u1 n1 g1, .slice u2 n2 g2], .agg #[.int .i64 va, .int .i64 vn, .slice b1 m1 f1, .slice b2 m2 f2, .slice b3 m3 f3]]) (wanted_none rfl) ?_ ?_
          · have ec : ∀ v, a.eval (.const v) = v := fun _ => rfl
            have ef : ∀ f, a.eval (.func f) = .func (.func f) #[] #[] := fun _ => rfl
            generalize a.eval = ev at *
            clear h
            go_simp
          · refine Calls.mono (HAD.out y h.below) ?_
            rintro _ y2 ⟨v, rfl, hA9, hb2⟩
            exact ⟨_, rfl, fun t ht => by cases ht; exact hA9, Rb.of hb2 h.below.1.size, fun h9 => absurd h9 (by decide), fun h9 => absurd h9 (by decide)⟩
        refine AllOpsI.cons (fun a y h => ?_) ?_
        · have t21 : AoN (Dg.more M ⟨⟨va, vn⟩, ps, says, ts⟩) ob y (a.eval (.tmp 21)) := h.of 21 (by kernel_rfl)
          obtain ⟨d1, d2, d3, d4, d5, d6, e21, hR⟩ := t21
          refine opOkR_val (v := .tuple #[.agg #[.slice d1 d2 d3, .slice d4 d5 d6], .bool ob]) (w' := y) (wanted_none rfl) ?_ (fun t ht => by cases ht; exact ⟨_, _, _, _, _, _, rfl, hR⟩) (Rb.refl _ _) (fun h9 => absurd h9 (by decide)) (fun h9 => absurd h9 (by decide))
          have ec : ∀ v, a.eval (.const v) = v := fun _ => rfl
          generalize a.eval = ev at *
          clear h
          go_simp
        refine AllOpsI.cons (fun a y h => ?_) ?_
        · have t15 : AoN (Dg.more M ⟨⟨va, vn⟩, ps, says, ts⟩) ob y (a.eval (.tmp 15)) := h.of 15 (by kernel_rfl)
          obtain ⟨d1, d2, d3, d4, d5, d6, e15, hR⟩ := t15
          refine opOkR_val (v := .agg #[.slice d1 d2 d3, .slice d4 d5 d6]) (w' := y) (wanted_none rfl) ?_ (fun t ht => by cases ht; exact ⟨_, _, _, _, _, _, rfl, hR⟩) (Rb.refl _ _) (fun h9 => absurd h9 (by decide)) (fun h9 => absurd h9 (by decide))
          have ec : ∀ v, a.eval (.const v) = v := fun _ => rfl
          generalize a.eval = ev at *
          clear h
          go_simp
        refine AllOpsI.cons (fun a y h => ?_) ?_
        · have t15 : AoN (Dg.more M ⟨⟨va, vn⟩, ps, says, ts⟩) ob y (a.eval (.tmp 15)) := h.of 15 (by kernel_rfl)
          obtain ⟨d1, d2, d3, d4, d5, d6, e15, hR⟩ := t15
          refine opOkR_val (v := .bool ob) (w' := y) (wanted_none rfl) ?_ (fun t ht => by cases ht; exact rfl) (Rb.refl _ _) (fun h9 => absurd h9 (by decide)) (fun _ _ hD => by obtain ⟨F, e3, h8, h7⟩ := hD; exact ⟨F, (put_get_ne (by decide)).trans e3, h8, h7⟩)
          have ec : ∀ v, a.eval (.const v) = v := fun _ => rfl
          generalize a.eval = ev at *
          clear h
          go_simp
        refine AllOpsI.cons (fun a y h => ?_) ?_
        · refine opOkR_val (v := .pointer (some ⟨y.heap.size, 0, none⟩)) (w' := y.alloc (.cells #[.slice none 0 0, .slice none 0 0] 24)) (wanted_none rfl) ?_ (fun t ht => by cases ht; exact bxp_new _ y h.below.1.size) (Rb.of (new_below y _) h.below.1.size) (fun h9 => absurd h9 (by decide)) (fun h9 => absurd h9 (by decide))
          have ec : ∀ v, a.eval (.const v) = v := fun _ => rfl
          generalize a.eval = ev at *
          clear h
          go_simp
        refine AllOpsI.cons (fun a y h => ?_) ?_
        · have t7 : Bxp wr.heap.size y (a.eval (.tmp 7)) := h.of 7 (by kernel_rfl)
          have t22 : RoN (Dg.more M ⟨⟨va, vn⟩, ps, says, ts⟩) ob y (a.eval (.tmp 22)) := h.of 22 (by kernel_rfl)
          obtain ⟨d1, d2, d3, d4, d5, d6, e22, hR⟩ := t22
          obtain ⟨F, e7, ⟨r1, r2, r3, r4, r5, r6, hF⟩, hFl⟩ := t7
          have z0 : y.cell? ⟨F, 0, none⟩ = some (.slice r1 r2 r3) := by rw [Lib.cell_of_heap hF]; rfl
          have y0 := Lib.frozen_of_heap hF 0
          have k1 : (y.setCell ⟨F, 0, none⟩ (.slice d1 d2 d3)).heap[F]? = some (.cells #[.slice d1 d2 d3, .slice r4 r5 r6] 24) := by rw [Lib.heap_setCell_same hF]; rfl
          have z1 : (y.setCell ⟨F, 0, none⟩ (.slice d1 d2 d3)).cell? ⟨F, 1, none⟩ = some (.slice r4 r5 r6) := by rw [Lib.cell_of_heap k1]; rfl
          have y1 := Lib.frozen_of_heap k1 1
          refine opOkR_void (w' := two y F (.slice d1 d2 d3) (.slice d4 d5 d6)) (wanted_none rfl) ?_ rfl (Rb.two hF hFl) (fun _ => ⟨F, e7, hFl, _, _, _, _, _, _, two_heap hF, fun e => (hR e).kn (two_kn hF)⟩) (fun _ h9 => absurd rfl h9)
          unfold two
          generalize a.eval = ev at *
          clear h hR
          go_simp
        refine AllOpsI.cons (fun a y h => ?_) ?_
        · have e23 : a.eval (.tmp 23) = (.bool ob : Value) := h.of 23 (by kernel_rfl)
          refine opOkR_val (v := .bool ob) (w' := y) (wanted_none rfl) ?_ (fun t ht => by cases ht; exact rfl) (Rb.refl _ _) (fun h9 => absurd h9 (by decide)) (fun _ _ hD => by obtain ⟨F, e3, h8, h7⟩ := hD; exact ⟨F, (put_get_ne (by decide)).trans e3, h8, h7⟩)
          have ec : ∀ v, a.eval (.const v) = v := fun _ => rfl
          generalize a.eval = ev at *
          clear h
          go_simp
        exact AllOpsI.nil
      rintro ⟨tm, df⟩ y4 hI hD hdE hszE hstE hTE
      obtain ⟨F, kb, hFl, d1, d2, d3, d4, d5, d6, hFh, hRo⟩ := hD
      have ke : tm.getD 8 undef = (.bool ob : Value) := hTE 8 (by decide)
      obtain rfl : df = [] := hdE
      have HRB4 : Hid (Rb w.heap.size w y4) := HRB.out.trans ⟨hI.1.mono HRB.out.1.size, hI.2⟩
      have HN4 : Hid (y4.heap[w.heap.size + 1]? = some (.cells #[.slice none 0 0, .slice none 0 0] 24)) := (hI.1.block _ (Array.getElem?_eq_some_iff.1 HNN.out).1).trans HNN.out
      have HX4 : Hid (BoxI M y4 w.heap.size) := HA.out.rb hI hXl
      have HF4 : Hid (y4.heap[F]? = some (.cells #[.slice d1 d2 d3, .slice d4 d5 d6] 24)) := hFh
      have HRO4 : Hid (RoB (Dg.more M ⟨⟨va, vn⟩, ps, says, ts⟩) ob y4 (.slice d1 d2 d3) (.slice d4 d5 d6)) := hRo
      clear hI hTE hRo hFh HRB HNN HA HBC HAD HXU HX
      have hF8 := tmps_fold [16, 17, 18, 19, 20, 21, 15, 22, 23, 7, 8] tm _ (hszE.trans (by rfl)) hstE
      clear hszE hstE
      simp only [] at kb
      simp only [List.foldl_cons, List.foldl_nil, kb, ke] at hF8
      clear kb ke
      generalize tm.getD 16 undef = x16 at hF8
      generalize tm.getD 17 undef = x17 at hF8
      generalize tm.getD 18 undef = x18 at hF8
      generalize tm.getD 19 undef = x19 at hF8
      generalize tm.getD 20 undef = x20 at hF8
      generalize tm.getD 21 undef = x21 at hF8
      generalize tm.getD 15 undef = x15 at hF8
      generalize tm.getD 22 undef = x22 at hF8
      generalize tm.getD 23 undef = x23 at hF8
      simp only [List.setIfInBounds_toArray, List.set_cons_zero, List.set_cons_succ] at hF8
      subst hF8
      cases ob with
      | true =>
        have hov : (Dg.more M ⟨⟨va, vn⟩, ps, says, ts⟩).length ≤ 200 := of_decide_eq_true HOB.out.symm
        have hRn := HRO4.out rfl
        obtain ⟨r1, r2, r3, r4, r5, r6, hF, _⟩ := HX4.out
        have c0 : y4.cell? ⟨F, 0, none⟩ = some (.slice d1 d2 d3) := by rw [Lib.cell_of_heap HF4.out]; rfl
        have c1 : y4.cell? ⟨F, 1, none⟩ = some (.slice d4 d5 d6) := by rw [Lib.cell_of_heap HF4.out]; rfl
        have z0 : y4.cell? ⟨w.heap.size, 0, none⟩ = some (.slice r1 r2 r3) := by rw [Lib.cell_of_heap hF]; rfl
        have y0 := Lib.frozen_of_heap hF 0
        have k1 : (y4.setCell ⟨w.heap.size, 0, none⟩ (.slice d1 d2 d3)).heap[w.heap.size]? = some (.cells #[.slice d1 d2 d3, .slice r4 r5 r6] 24) := by rw [Lib.heap_setCell_same hF]; rfl
        have z1 : (y4.setCell ⟨w.heap.size, 0, none⟩ (.slice d1 d2 d3)).cell? ⟨w.heap.size, 1, none⟩ = some (.slice r4 r5 r6) := by rw [Lib.cell_of_heap k1]; rfl
        have y1 := Lib.frozen_of_heap k1 1
        have HN1 : Hid (BoxI (Dg.more M ⟨⟨va, vn⟩, ps, says, ts⟩) (two y4 w.heap.size (.slice d1 d2 d3) (.slice d4 d5 d6)) w.heap.size) := ⟨_, _, _, _, _, _, two_heap hF, RepI.kn hRn (two_kn hF)⟩
        have HN2 : Hid (Rb w.heap.size w (two y4 w.heap.size (.slice d1 d2 d3) (.slice d4 d5 d6))) := HRB4.out.trans (Rb.two hF (Nat.le_refl _))
        have HN3 : Hid ((two y4 w.heap.size (.slice d1 d2 d3) (.slice d4 d5 d6)).heap[w.heap.size + 1]? = some (.cells #[.slice none 0 0, .slice none 0 0] 24)) := (two_other (by omega)).trans HN4.out
        rw [← HSA.out] at HN1 hov
        have HOL : Hid ((Dg.mores (ups hq ++ ups wq) (ups (R.take (k + 1)))).length ≤ 200) := hov
        clear hov HSA HOV HOB hRn hF k1 HRB4 HN4 HX4 HF4 HRO4
        go_upto_region 3 with fail
        change Code.wp _ _ _ _ (two _ _ _ _)
        clear z0 y0 z1 y1 c0 c1
        generalize two y4 w.heap.size (.slice d1 d2 d3) (.slice d4 d5 d6) = w8 at *
        go_wp2_with fail
        go_roundw
        case rel => exact ⟨k + 1, hlt, by go_num, HN1.out, HOL.out, HN2.out, HN3.out⟩
        case measure => simp [intOf]; omega
      | false =>
        have hov : 200 < (Dg.more M ⟨⟨va, vn⟩, ps, says, ts⟩).length := Nat.lt_of_not_le (of_decide_eq_false HOB.out.symm)
        have HE2 : Hid (Gs.tellErr (ups hq ++ ups wq) (ups R) = 2) := HOV.out (by rw [HSA.out]; exact hov)
        have hF := HN4.out
        have z0 : y4.cell? ⟨w.heap.size + 1, 0, none⟩ = some (.slice none 0 0) := by rw [Lib.cell_of_heap hF]; rfl
        have y0 := Lib.frozen_of_heap hF 0
        have k1 : (y4.setCell ⟨w.heap.size + 1, 0, none⟩ (.slice none 0 0)).heap[w.heap.size + 1]? = some (.cells #[.slice none 0 0, .slice none 0 0] 24) := by rw [Lib.heap_setCell_same hF]; rfl
        have z1 : (y4.setCell ⟨w.heap.size + 1, 0, none⟩ (.slice none 0 0)).cell? ⟨w.heap.size + 1, 1, none⟩ = some (.slice none 0 0) := by rw [Lib.cell_of_heap k1]; rfl
        have y1 := Lib.frozen_of_heap k1 1
        have HH9 : Hid ((two y4 (w.heap.size + 1) (.slice none 0 0) (.slice none 0 0)).heap[w.heap.size + 1]? = some (.cells #[.slice none 0 0, .slice none 0 0] 24)) := two_heap hF
        have HB9 : Hid (Below w.heap.size w (two y4 (w.heap.size + 1) (.slice none 0 0) (.slice none 0 0))) := two_below HRB4.out.1 (by omega) _ _
        clear k1 hF hov HOB HSA HOV HRO4 HX4 HF4
        go_wp2_with fail
        clear z0 y0 z1 y1
        change bodyPost _ _ _ _ _ (two _ _ _ _)
        generalize two y4 (w.heap.size + 1) (.slice none 0 0) (.slice none 0 0) = w9 at *
        have t0 : w9.cell? ⟨w.heap.size + 1, 0, none⟩ = some (.slice none 0 0) := by rw [Lib.cell_of_heap HH9.out]; rfl
        have t1 : w9.cell? ⟨w.heap.size + 1, 1, none⟩ = some (.slice none 0 0) := by rw [Lib.cell_of_heap HH9.out]; rfl
        rw [HE2.out]
        exact bodyPost_ret (v := .tuple #[.agg #[.slice none 0 0, .slice none 0 0], .bool false]) (by simp [results, Tryz.results24, go_sem, t0, t1]) rfl ⟨none, 0, 0, none, 0, 0, rfl, ⟨(fun h => absurd h (by decide)), fun _ => ⟨rfl, rfl⟩⟩, HB9.out⟩
    · have g0 : decide (k < R.length) = false := decide_eq_false hlt
      have u1 : R.take k = R := List.take_of_length_le (by omega)
      rw [u1] at HA HLN
      have HE0 : Hid (Gs.tellErr (ups hq ++ ups wq) (ups R) = 0) := by show _ = _; unfold Gs.tellErr; rw [if_neg (by have := HLN.out; omega)]
      obtain ⟨d1, d2, d3, d4, d5, d6, hFA, hRep⟩ := HA.out
      have c0 : wr.cell? ⟨w.heap.size, 0, none⟩ = some (.slice d1 d2 d3) := by rw [Lib.cell_of_heap hFA]; rfl
      have c1 : wr.cell? ⟨w.heap.size, 1, none⟩ = some (.slice d4 d5 d6) := by rw [Lib.cell_of_heap hFA]; rfl
      have hF := HNN.out
      have z0 : wr.cell? ⟨w.heap.size + 1, 0, none⟩ = some (.slice none 0 0) := by rw [Lib.cell_of_heap hF]; rfl
      have y0 := Lib.frozen_of_heap hF 0
      have k1 : (wr.setCell ⟨w.heap.size + 1, 0, none⟩ (.slice d1 d2 d3)).heap[w.heap.size + 1]? = some (.cells #[.slice d1 d2 d3, .slice none 0 0] 24) := by rw [Lib.heap_setCell_same hF]; rfl
      have z1 : (wr.setCell ⟨w.heap.size + 1, 0, none⟩ (.slice d1 d2 d3)).cell? ⟨w.heap.size + 1, 1, none⟩ = some (.slice none 0 0) := by rw [Lib.cell_of_heap k1]; rfl
      have y1 := Lib.frozen_of_heap k1 1
      have HH9 : Hid ((two wr (w.heap.size + 1) (.slice d1 d2 d3) (.slice d4 d5 d6)).heap[w.heap.size + 1]? = some (.cells #[.slice d1 d2 d3, .slice d4 d5 d6] 24)) := two_heap hF
      have HR9 : Hid (RepI (Dg.mores (ups hq ++ ups wq) (ups R)) (two wr (w.heap.size + 1) (.slice d1 d2 d3) (.slice d4 d5 d6)) (.slice d1 d2 d3) (.slice d4 d5 d6)) := hRep.kn (two_kn hF)
      have HB9 : Hid (Below w.heap.size w (two wr (w.heap.size + 1) (.slice d1 d2 d3) (.slice d4 d5 d6))) := two_below HRB.out.1 (by omega) _ _
      clear k1 hF hFA hRep u1
      go_wp2_with fail
      clear z0 y0 z1 y1 c0 c1
      change bodyPost _ _ _ _ _ (two _ _ _ _)
      generalize two wr (w.heap.size + 1) (.slice d1 d2 d3) (.slice d4 d5 d6) = w9 at *
      have t0 : w9.cell? ⟨w.heap.size + 1, 0, none⟩ = some (.slice d1 d2 d3) := by rw [Lib.cell_of_heap HH9.out]; rfl
      have t1 : w9.cell? ⟨w.heap.size + 1, 1, none⟩ = some (.slice d4 d5 d6) := by rw [Lib.cell_of_heap HH9.out]; rfl
      rw [HE0.out]
      exact bodyPost_ret (v := .tuple #[.agg #[.slice d1 d2 d3, .slice d4 d5 d6], .bool true]) (by simp [results, Tryz.results24, go_sem, t0, t1]) rfl ⟨d1, d2, d3, d4, d5, d6, rfl, ⟨(fun _ => HR9.out), fun h => absurd rfl h⟩, HB9.out⟩
end Go.Proofs.YtmfaodapofamfaaGreat

