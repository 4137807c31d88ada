/- Own texts, one behind the other (part 7). -/
import Derived.Test.YtmfaodapofamfaaBundleF
import Derived.Test.YtmfaodapofamfaaRows
import Derived.ArgAppend
import Derived.Laws.OwnMore
/- Round: two replicas, each with what the other one answers. -/
namespace Go.Proofs.Ytmfaodapofamfaa
open Go.RowKit

def Two2 (a b : Int) (w : World) (v : Value) : Prop := ∃ g, v = .slice (some ⟨g, 0, none⟩) 2 2 ∧ w.cell? ⟨g, 0, none⟩ = some (.int .i64 a) ∧ w.cell? ⟨g, 1, none⟩ = some (.int .i64 b)
theorem Two2.below {a b : Int} {w w' : World} {v : Value} (h : Two2 a b w v) (hb : Below w.heap.size w w') : Two2 a b w' v := by
  obtain ⟨g, e, h1, h2⟩ := h
  exact ⟨g, e, cell_below hb h1, cell_below hb h2⟩
theorem two2_new (a b : Int) (y : World) : Two2 a b (y.alloc (.cells #[.int .i64 a, .int .i64 b] 26)) (.slice (some ⟨y.heap.size, 0, none⟩) 2 2) := by
  have hh := heap_alloc_new y (.cells #[.int .i64 a, .int .i64 b] 26)
  exact ⟨_, rfl, by rw [Lib.cell_of_heap hh]; rfl, by rw [Lib.cell_of_heap hh]; rfl⟩
noncomputable def Gs.roundErr (ha wa hb wb : List Wr.Up) : Int := if Dg.check ha wa ≠ 0 then Dg.check ha wa else if Dg.check hb wb ≠ 0 then Dg.check hb wb else if Gs.tellErr (ha ++ wa) (Gs.missing hb (Dg.heads ha)) ≠ 0 ∨ Gs.tellErr (hb ++ wb) (Gs.missing ha (Dg.heads hb)) ≠ 0 then 2 else 0
theorem Gs.tell_two (l us : List Wr.Up) : Gs.tellErr l us = 0 ∨ Gs.tellErr l us = 2 := by
  unfold Gs.tellErr
  split
  · exact .inr rfl
  · exact .inl rfl
def rdT (ah : Option Addr) (nh ch : Nat) (aw : Option Addr) (nw cw : Nat) (aj : Option Addr) (nj cj : Nat) (ak : Option Addr) (nk ck : Nat) (c1 c2 e0 : Int) (tQ : Nat) (vQ : Value) (WQ : World) : Prop :=
  match tQ with
  | 13 => vQ = .agg #[.slice ah nh ch, .slice aw nw cw]
  | 14 => vQ = .int .i64 c1
  | 15 => vQ = .agg #[.slice aj nj cj, .slice ak nk ck]
  | 16 => vQ = .int .i64 c2
  | 17 => Two2 c1 c2 WQ vQ
  | 18 => vQ = .int .i64 e0
  | 7 => vQ = .int .i64 e0
  | _ => True
theorem rdT_mono (ah : Option Addr) (nh ch : Nat) (aw : Option Addr) (nw cw : Nat) (aj : Option Addr) (nj cj : Nat) (ak : Option Addr) (nk ck : Nat) (c1 c2 e0 : Int) (tQ : Nat) (vQ : Value) (W W' : World) (hb : Below W.heap.size W W') (h : rdT ah nh ch aw nw cw aj nj cj ak nk ck c1 c2 e0 tQ vQ W) : rdT ah nh ch aw nw cw aj nj cj ak nk ck c1 c2 e0 tQ vQ W' := by
  revert h
  unfold rdT
  split <;> (intro h; first | exact h | exact Two2.below h hb)

set_option maxRecDepth 100000 in
set_option maxHeartbeats 8000000 in
theorem Round_any (hq wq ph pw : List Uv) (hv wv jv kv : Value) (w : World) (hV : UpsV w hv hq) (wV : UpsV w wv wq) (jV : UpsV w jv ph) (kV : UpsV w kv pw) (hl : hq.length ≤ 4611686018427387903 ∧ wq.length ≤ 4611686018427387903) (jl : ph.length ≤ 4611686018427387903 ∧ pw.length ≤ 4611686018427387903) (hok : ∀ y, y ∈ hq ++ wq → UvOk w y) (jok : ∀ y, y ∈ ph ++ pw → UvOk w y) :
    Calls Try.prog 5 #[.agg #[hv, wv], .agg #[jv, kv]] w fun e w' => ∃ a1 n1 c1 a2 n2 c2 a3 n3 c3 a4 n4 c4, e = .returned (.tuple #[.agg #[.slice a1 n1 c1, .slice a2 n2 c2], .agg #[.slice a3 n3 c3, .slice a4 n4 c4], .int .i64 (Gs.roundErr (ups hq) (ups wq) (ups ph) (ups pw))]) ∧
      ReE (Dg.mores (ups hq ++ ups wq) (Gs.missing (ups ph) (Dg.heads (ups hq)))) (Gs.roundErr (ups hq) (ups wq) (ups ph) (ups pw)) w' (.slice a1 n1 c1) (.slice a2 n2 c2) ∧ ReE (Dg.mores (ups ph ++ ups pw) (Gs.missing (ups hq) (Dg.heads (ups ph)))) (Gs.roundErr (ups hq) (ups wq) (ups ph) (ups pw)) w' (.slice a3 n3 c3) (.slice a4 n4 c4) ∧ Below w.heap.size w w' := by
  obtain ⟨ah, ch, rfl, q1, q2⟩ := id hV
  obtain ⟨aw, cw, rfl, q3, q4⟩ := id wV
  obtain ⟨aj, cj, rfl, q5, q6⟩ := id jV
  obtain ⟨ak, ck, rfl, q7, q8⟩ := id kV
  clear q1 q2 q3 q4 q5 q6 q7 q8
  obtain ⟨c1, hc1⟩ : ∃ c, c = Dg.check (ups hq) (ups wq) := ⟨_, rfl⟩
  obtain ⟨c2, hc2⟩ : ∃ c, c = Dg.check (ups ph) (ups pw) := ⟨_, rfl⟩
  have HR : Hid (∀ z, Kn w z → UpsV z (.slice ah hq.length ch) hq ∧ UpsV z (.slice aw wq.length cw) wq ∧ (∀ y, y ∈ hq ++ wq → UvOk z y)) := fun z hz => ⟨hV.kn hz, wV.kn hz, fun y hy => (hok y hy).kn hz⟩
  have HJ : Hid (∀ z, Kn w z → UpsV z (.slice aj ph.length cj) ph ∧ UpsV z (.slice ak pw.length ck) pw ∧ (∀ y, y ∈ ph ++ pw → UvOk z y)) := fun z hz => ⟨jV.kn hz, kV.kn hz, fun y hy => (jok y hy).kn hz⟩
  have H15A : Hid (∀ z, Below w.heap.size w z → Calls Try.prog 14 #[.agg #[.slice ah hq.length ch, .slice aw wq.length cw]] z fun e w' => e = .returned (.int .i64 c1) ∧ Below z.heap.size z w') := fun z hz => by
    obtain ⟨k1, k2, k3⟩ := HR.out z (Kn.below hz)
    rw [hc1]
    exact DCheck_any hq wq _ _ z k1 k2 hl k3
  have H15B : Hid (∀ z, Below w.heap.size w z → Calls Try.prog 14 #[.agg #[.slice aj ph.length cj, .slice ak pw.length ck]] z fun e w' => e = .returned (.int .i64 c2) ∧ Below z.heap.size z w') := fun z hz => by
    obtain ⟨k1, k2, k3⟩ := HJ.out z (Kn.below hz)
    rw [hc2]
    exact DCheck_any ph pw _ _ z k1 k2 jl k3
  have HC1 : Hid (c1 = Dg.check (ups hq) (ups wq)) := hc1
  have HC2 : Hid (c2 = Dg.check (ups ph) (ups pw)) := hc2
  obtain ⟨e0, HE0⟩ : ∃ e, Hid (e = if c1 = 0 then c2 else c1) := ⟨_, rfl⟩
  obtain ⟨E, HE⟩ : ∃ e, Hid (e = Gs.roundErr (ups hq) (ups wq) (ups ph) (ups pw)) := ⟨_, rfl⟩
  rw [← HE.out]
  clear hV wV jV kV hok jok hc1 hc2 hl jl
  have hu0 := heap_alloc_new w (.cells #[.slice ah hq.length ch, .slice aw wq.length cw] 24)
  have hg0 := new_below w (.cells #[.slice ah hq.length ch, .slice aw wq.length cw] 24)
  have hz0 : (w.alloc (.cells #[.slice ah hq.length ch, .slice aw wq.length cw] 24)).heap.size = w.heap.size + 1 := by simp
  have hu1 := heap_alloc_new (w.alloc (.cells #[.slice ah hq.length ch, .slice aw wq.length cw] 24)) (.cells #[.slice aj ph.length cj, .slice ak pw.length ck] 24)
  have hg1 := new_below (w.alloc (.cells #[.slice ah hq.length ch, .slice aw wq.length cw] 24)) (.cells #[.slice aj ph.length cj, .slice ak pw.length ck] 24)
  rw [hz0] at hu1
  have hz1 : ((w.alloc (.cells #[.slice ah hq.length ch, .slice aw wq.length cw] 24)).alloc (.cells #[.slice aj ph.length cj, .slice ak pw.length ck] 24)).heap.size = w.heap.size + 2 := by simp
  have hu2 := heap_alloc_new ((w.alloc (.cells #[.slice ah hq.length ch, .slice aw wq.length cw] 24)).alloc (.cells #[.slice aj ph.length cj, .slice ak pw.length ck] 24)) (.cells #[.slice none 0 0, .slice none 0 0] 24)
  have hg2 := new_below ((w.alloc (.cells #[.slice ah hq.length ch, .slice aw wq.length cw] 24)).alloc (.cells #[.slice aj ph.length cj, .slice ak pw.length ck] 24)) (.cells #[.slice none 0 0, .slice none 0 0] 24)
  rw [hz1] at hu2
  have hz2 : (((w.alloc (.cells #[.slice ah hq.length ch, .slice aw wq.length cw] 24)).alloc (.cells #[.slice aj ph.length cj, .slice ak pw.length ck] 24)).alloc (.cells #[.slice none 0 0, .slice none 0 0] 24)).heap.size = w.heap.size + 3 := by simp
  have hu3 := heap_alloc_new (((w.alloc (.cells #[.slice ah hq.length ch, .slice aw wq.length cw] 24)).alloc (.cells #[.slice aj ph.length cj, .slice ak pw.length ck] 24)).alloc (.cells #[.slice none 0 0, .slice none 0 0] 24)) (.cells #[.slice none 0 0, .slice none 0 0] 24)
  have hg3 := new_below (((w.alloc (.cells #[.slice ah hq.length ch, .slice aw wq.length cw] 24)).alloc (.cells #[.slice aj ph.length cj, .slice ak pw.length ck] 24)).alloc (.cells #[.slice none 0 0, .slice none 0 0] 24)) (.cells #[.slice none 0 0, .slice none 0 0] 24)
  rw [hz2] at hu3
  have hu0' := (hg3.block _ (by rw [hz2]; omega)).trans ((hg2.block _ (by rw [hz1]; omega)).trans ((hg1.block _ (by rw [hz0]; omega)).trans hu0))
  have hu1' := (hg3.block _ (by rw [hz2]; omega)).trans ((hg2.block _ (by rw [hz1]; omega)).trans hu1)
  have hu2' := (hg3.block _ (by rw [hz2]; omega)).trans hu2
  have ha := hg0.trans (hg1.mono hg0.size)
  have hb := ha.trans (hg2.mono ha.size)
  have hgg := hb.trans (hg3.mono hb.size)
  go_enter Try.func5, Try.ntmps5
  go_upto_region 1 with fail
  clear hu0 hg0 hz0 hu1 hg1 hz1 hg2 hu2 hz2 hg3 ha hb
  generalize (((w.alloc (.cells #[.slice ah hq.length ch, .slice aw wq.length cw] 24)).alloc (.cells #[.slice aj ph.length cj, .slice ak pw.length ck] 24)).alloc (.cells #[.slice none 0 0, .slice none 0 0] 24)).alloc (.cells #[.slice none 0 0, .slice none 0 0] 24) = w1 at *
  have HBX : Hid (∀ z, Below w1.heap.size w1 z → z.heap[w.heap.size]? = some (.cells #[.slice ah hq.length ch, .slice aw wq.length cw] 24) ∧ z.heap[w.heap.size + 1]? = some (.cells #[.slice aj ph.length cj, .slice ak pw.length ck] 24) ∧ z.heap[w.heap.size + 2]? = some (.cells #[.slice none 0 0, .slice none 0 0] 24) ∧ z.heap[w.heap.size + 3]? = some (.cells #[.slice none 0 0, .slice none 0 0] 24)) := fun z hz => ⟨(hz.block _ (Array.getElem?_eq_some_iff.1 hu0').1).trans hu0', (hz.block _ (Array.getElem?_eq_some_iff.1 hu1').1).trans hu1', (hz.block _ (Array.getElem?_eq_some_iff.1 hu2').1).trans hu2', (hz.block _ (Array.getElem?_eq_some_iff.1 hu3).1).trans hu3⟩
  have HXC : Hid (∀ z, Below w1.heap.size w1 z → z.cell? ⟨w.heap.size, 0, none⟩ = some (.slice ah hq.length ch) ∧ z.cell? ⟨w.heap.size, 1, none⟩ = some (.slice aw wq.length cw) ∧ z.cell? ⟨w.heap.size + 1, 0, none⟩ = some (.slice aj ph.length cj) ∧ z.cell? ⟨w.heap.size + 1, 1, none⟩ = some (.slice ak pw.length ck)) := fun z hz => by
    obtain ⟨k1, k2, _, _⟩ := HBX.out z hz
    exact ⟨by rw [Lib.cell_of_heap k1]; rfl, by rw [Lib.cell_of_heap k1]; rfl, by rw [Lib.cell_of_heap k2]; rfl, by rw [Lib.cell_of_heap k2]; rfl⟩
  have HG1 : Hid (Below w.heap.size w w1) := hgg
  have hs1 : w.heap.size + 3 < w1.heap.size := (Array.getElem?_eq_some_iff.1 hu3).1
  clear hu0' hu1' hu2' hu3 hgg
  refine wp_region_tabA (rdT ah hq.length ch aw wq.length cw aj ph.length cj ak pw.length ck c1 c2 e0) (by kernel_rfl) (by kernel_rfl) (rdT_mono _ _ _ _ _ _ _ _ _ _ _ _ _ _ _) ?hop1 ?hend1
  case hop1 =>
    refine AllOps.cons (fun a y h => ?_) ?_
    · have e2 : a.eval (.tmp 2) = (.pointer (some ⟨w.heap.size, 0, none⟩) : Value) := h.old 2 (by kernel_rfl)
      obtain ⟨x0, x1, x2, x3⟩ := HXC.out y h.below
      refine opOk_val (v := .agg #[.slice ah hq.length ch, .slice aw wq.length cw]) (w' := y) (wanted_none rfl) ?_ (fun t ht => by cases ht; exact rfl) (Below.refl _ _)
      have ec : ∀ v, a.eval (.const v) = v := fun _ => rfl
      generalize a.eval = ev at *
      clear h
      go_simp
    refine AllOps.cons (fun a y h => ?_) ?_
    · have e13 : a.eval (.tmp 13) = (.agg #[.slice ah hq.length ch, .slice aw wq.length cw] : Value) := h.of 13 (by kernel_rfl)
      refine opOk_call (f := 14) (args := #[.agg #[.slice ah hq.length ch, .slice aw wq.length cw]]) (wanted_none rfl) ?_ ?_
      · have ec : ∀ v, a.eval (.const v) = v := fun _ => rfl
        have ef : ∀ f, a.eval (.func f) = .func (.func f) #[] #[] := fun _ => rfl
        generalize a.eval = ev at *
        clear h
        go_simp
      · refine Calls.mono (H15A.out y (HG1.out.trans (h.below.mono HG1.out.size))) ?_
        rintro _ y2 ⟨rfl, hb2⟩
        exact ⟨_, rfl, fun t ht => by cases ht; exact rfl, hb2⟩
    refine AllOps.cons (fun a y h => ?_) ?_
    · have e3 : a.eval (.tmp 3) = (.pointer (some ⟨w.heap.size + 1, 0, none⟩) : Value) := h.old 3 (by kernel_rfl)
      obtain ⟨x0, x1, x2, x3⟩ := HXC.out y h.below
      refine opOk_val (v := .agg #[.slice aj ph.length cj, .slice ak pw.length ck]) (w' := y) (wanted_none rfl) ?_ (fun t ht => by cases ht; exact rfl) (Below.refl _ _)
      have ec : ∀ v, a.eval (.const v) = v := fun _ => rfl
      generalize a.eval = ev at *
      clear h
      go_simp
    refine AllOps.cons (fun a y h => ?_) ?_
    · have e15 : a.eval (.tmp 15) = (.agg #[.slice aj ph.length cj, .slice ak pw.length ck] : Value) := h.of 15 (by kernel_rfl)
      refine opOk_call (f := 14) (args := #[.agg #[.slice aj ph.length cj, .slice ak pw.length ck]]) (wanted_none rfl) ?_ ?_
      · have ec : ∀ v, a.eval (.const v) = v := fun _ => rfl
        have ef : ∀ f, a.eval (.func f) = .func (.func f) #[] #[] := fun _ => rfl
        generalize a.eval = ev at *
        clear h
        go_simp
      · refine Calls.mono (H15B.out y (HG1.out.trans (h.below.mono HG1.out.size))) ?_
        rintro _ y2 ⟨rfl, hb2⟩
        exact ⟨_, rfl, fun t ht => by cases ht; exact rfl, hb2⟩
    refine AllOps.cons (fun a y h => ?_) ?_
    · have e14 : a.eval (.tmp 14) = (.int .i64 c1 : Value) := h.of 14 (by kernel_rfl)
      have e16 : a.eval (.tmp 16) = (.int .i64 c2 : Value) := h.of 16 (by kernel_rfl)
      refine opOk_val (v := .slice (some ⟨y.heap.size, 0, none⟩) 2 2) (w' := y.alloc (.cells #[.int .i64 c1, .int .i64 c2] 26)) (wanted_none rfl) ?_ (fun t ht => by cases ht; exact two2_new c1 c2 y) ((Below.refl _ _).alloc (Nat.le_refl _) _)
      have ec : ∀ v, a.eval (.const v) = v := fun _ => rfl
      generalize a.eval = ev at *
      clear h
      go_simp
    refine AllOps.cons (fun a y h => ?_) ?_
    · have t17 : Two2 c1 c2 y (a.eval (.tmp 17)) := h.of 17 (by kernel_rfl)
      obtain ⟨g, e17, q0, q1⟩ := t17
      refine opOk_call (f := 13) (args := #[.slice (some ⟨g, 0, none⟩) 2 2]) (wanted_none rfl) ?_ ?_
      · have ec : ∀ v, a.eval (.const v) = v := fun _ => rfl
        have ef : ∀ f, a.eval (.func f) = .func (.func f) #[] #[] := fun _ => rfl
        generalize a.eval = ev at *
        clear h
        go_simp
      · refine Calls.mono (orE_any c1 c2 g y q0 q1) ?_
        rintro _ y2 ⟨rfl, rfl⟩
        exact ⟨_, rfl, fun t ht => by cases ht; exact congrArg (Value.int .i64) HE0.out.symm, Below.refl _ _⟩
    refine AllOps.cons (fun a y h => ?_) ?_
    · have e18 : a.eval (.tmp 18) = (.int .i64 e0 : Value) := h.of 18 (by kernel_rfl)
      refine opOk_val (v := .int .i64 e0) (w' := y) (wanted_none rfl) ?_ (fun t ht => by cases ht; exact rfl) (Below.refl _ _)
      have ec : ∀ v, a.eval (.const v) = v := fun _ => rfl
      generalize a.eval = ev at *
      clear h
      go_simp
    exact AllOps.nil
  rintro ⟨tm, df⟩ w2 hbE hdE hszE hstE hTE
  have k7 : tm.getD 7 undef = (.int .i64 e0 : Value) := ends_at (T := rdT ah hq.length ch aw wq.length cw aj ph.length cj ak pw.length ck c1 c2 e0) (w := w2) (a := ⟨tm, df⟩) (t := 7) hTE (by kernel_rfl)
  obtain rfl : df = [] := hdE
  have HBW : Hid (Below w1.heap.size w1 w2) := hbE
  have hF8 := tmps_fold [13, 14, 15, 16, 17, 18, 7] tm _ hszE hstE
  clear hszE hstE hTE hbE
  simp only [List.foldl_cons, List.foldl_nil, k7] at hF8
  clear k7
  generalize tm.getD 13 undef = x13 at hF8
  generalize tm.getD 14 undef = x14 at hF8
  generalize tm.getD 15 undef = x15 at hF8
  generalize tm.getD 16 undef = x16 at hF8
  generalize tm.getD 17 undef = x17 at hF8
  generalize tm.getD 18 undef = x18 at hF8
  simp only [List.setIfInBounds_toArray, List.set_cons_zero, List.set_cons_succ] at hF8
  subst hF8
  clear H15A H15B
  by_cases h0 : e0 = 0
  case neg =>
    have d0 : (!decide (e0 = 0)) = true := by simp [h0]
    have hEe : E = e0 := by
      rw [HE.out, HE0.out]
      unfold Gs.roundErr
      rw [← HC1.out, ← HC2.out]
      have h9 := HE0.out
      by_cases hc : c1 = 0
      · rw [if_pos hc] at h9
        rw [if_neg (fun h => h hc), if_pos hc, if_pos (by rw [← h9]; exact h0)]
      · rw [if_pos hc, if_neg hc]
    subst hEe
    have hne : E ≠ 0 := h0
    have v4 := (HBX.out w2 HBW.out).2.2.1
    have v5 := (HBX.out w2 HBW.out).2.2.2
    obtain ⟨s0, s1, s2, s3, _, _⟩ := box_store (X := w.heap.size + 3) (u := .slice none 0 0) (v := .slice none 0 0) v4 (by omega) (show w2.cell? ⟨w.heap.size + 3, 0, none⟩ = some (.slice none 0 0) by rw [Lib.cell_of_heap v5]; rfl) (show w2.cell? ⟨w.heap.size + 3, 1, none⟩ = some (.slice none 0 0) by rw [Lib.cell_of_heap v5]; rfl)
    have v6 : (two w2 (w.heap.size + 2) (.slice none 0 0) (.slice none 0 0)).heap[w.heap.size + 3]? = some (.cells #[.slice none 0 0, .slice none 0 0] 24) := (two_other (by omega)).trans v5
    obtain ⟨s4, s5, s6, s7, _, _⟩ := box_store (X := w.heap.size + 2) (u := .slice none 0 0) (v := .slice none 0 0) v6 (by omega) (show (two w2 (w.heap.size + 2) (.slice none 0 0) (.slice none 0 0)).cell? ⟨w.heap.size + 2, 0, none⟩ = some (.slice none 0 0) by rw [Lib.cell_of_heap (two_heap v4)]; rfl) (show (two w2 (w.heap.size + 2) (.slice none 0 0) (.slice none 0 0)).cell? ⟨w.heap.size + 2, 1, none⟩ = some (.slice none 0 0) by rw [Lib.cell_of_heap (two_heap v4)]; rfl)
    have HH4 : Hid ((two (two w2 (w.heap.size + 2) (.slice none 0 0) (.slice none 0 0)) (w.heap.size + 3) (.slice none 0 0) (.slice none 0 0)).heap[w.heap.size + 2]? = some (.cells #[.slice none 0 0, .slice none 0 0] 24)) := (two_other (by omega)).trans (two_heap v4)
    have HH5 : Hid ((two (two w2 (w.heap.size + 2) (.slice none 0 0) (.slice none 0 0)) (w.heap.size + 3) (.slice none 0 0) (.slice none 0 0)).heap[w.heap.size + 3]? = some (.cells #[.slice none 0 0, .slice none 0 0] 24)) := two_heap v6
    have HB9 : Hid (Below w.heap.size w (two (two w2 (w.heap.size + 2) (.slice none 0 0) (.slice none 0 0)) (w.heap.size + 3) (.slice none 0 0) (.slice none 0 0))) := two_below (two_below (HG1.out.trans (HBW.out.mono HG1.out.size)) (by omega) _ _) (by omega) _ _
    unfold two at s4 s5 s6 s7
    clear v4 v5 v6
    go_wp2_with fail
    clear s0 s1 s2 s3 s4 s5 s6 s7
    change bodyPost _ _ _ _ _ (two (two _ _ _ _) _ _ _)
    generalize two (two w2 (w.heap.size + 2) (.slice none 0 0) (.slice none 0 0)) (w.heap.size + 3) (.slice none 0 0) (.slice none 0 0) = w9 at *
    have t0 : w9.cell? ⟨w.heap.size + 2, 0, none⟩ = some (.slice none 0 0) := by rw [Lib.cell_of_heap HH4.out]; rfl
    have t1 : w9.cell? ⟨w.heap.size + 2, 1, none⟩ = some (.slice none 0 0) := by rw [Lib.cell_of_heap HH4.out]; rfl
    have t2 : w9.cell? ⟨w.heap.size + 3, 0, none⟩ = some (.slice none 0 0) := by rw [Lib.cell_of_heap HH5.out]; rfl
    have t3 : w9.cell? ⟨w.heap.size + 3, 1, none⟩ = some (.slice none 0 0) := by rw [Lib.cell_of_heap HH5.out]; rfl
    exact bodyPost_ret (v := .tuple #[.agg #[.slice none 0 0, .slice none 0 0], .agg #[.slice none 0 0, .slice none 0 0], .int .i64 E]) (by simp [results, Try.results5, go_sem, t0, t1, t2, t3]) rfl ⟨none, 0, 0, none, 0, 0, none, 0, 0, none, 0, 0, rfl, ⟨(fun h => absurd h hne), fun _ => ⟨rfl, rfl⟩⟩, ⟨(fun h => absurd h hne), fun _ => ⟨rfl, rfl⟩⟩, HB9.out⟩
  subst h0
  have hcc : c1 = 0 ∧ c2 = 0 := by
    have h9 := HE0.out
    by_cases hc : c1 = 0
    · rw [if_pos hc] at h9
      exact ⟨hc, h9.symm⟩
    · rw [if_neg hc] at h9
      exact absurd h9.symm hc
  obtain ⟨rfl, rfl⟩ := hcc
  have HO1 : Hid (Dg.Ok (ups hq) (ups wq)) := Dg.check_ok.mp HC1.out.symm
  have HO2 : Hid (Dg.Ok (ups ph) (ups pw)) := Dg.check_ok.mp HC2.out.symm
  obtain ⟨g1, HG1E⟩ : ∃ e, Hid (e = Gs.tellErr (ups hq ++ ups wq) (Gs.missing (ups ph) (Dg.heads (ups hq)))) := ⟨_, rfl⟩
  obtain ⟨g2, HG2E⟩ : ∃ e, Hid (e = Gs.tellErr (ups ph ++ ups pw) (Gs.missing (ups hq) (Dg.heads (ups ph)))) := ⟨_, rfl⟩
  have HEE : Hid (E = if g1 = 0 then g2 else g1) := by
    show _ = _
    rw [HE.out]
    unfold Gs.roundErr
    rw [if_neg (fun h => h HC1.out.symm), if_neg (fun h => h HC2.out.symm), ← HG1E.out, ← HG2E.out]
    have k1 : g1 = 0 ∨ g1 = 2 := by rw [HG1E.out]; exact Gs.tell_two _ _
    have k2 : g2 = 0 ∨ g2 = 2 := by rw [HG2E.out]; exact Gs.tell_two _ _
    rcases k1 with rfl | rfl <;> rcases k2 with rfl | rfl <;> simp
  have HT1 : Hid (∀ z, Kn w z → Calls Try.prog 15 #[.agg #[.slice ah hq.length ch, .slice aw wq.length cw], .agg #[.slice aj ph.length cj, .slice ak pw.length ck]] z fun e w' => ∃ a1 n1 c1 a2 n2 c2, e = .returned (.tuple #[.agg #[.slice a1 n1 c1, .slice a2 n2 c2], .int .i64 g1]) ∧ ReE (Dg.mores (ups hq ++ ups wq) (Gs.missing (ups ph) (Dg.heads (ups hq)))) g1 w' (.slice a1 n1 c1) (.slice a2 n2 c2) ∧ Below z.heap.size z w') := fun z hz => by
    obtain ⟨k1, k2, k3⟩ := HR.out z hz
    obtain ⟨l1, l2, l3⟩ := HJ.out z hz
    rw [HG1E.out]
    exact told_any hq wq ph pw _ _ _ _ z k1 k2 l1 l2 k3 l3 HO1.out HO2.out
  have HT2 : Hid (∀ z, Kn w z → Calls Try.prog 15 #[.agg #[.slice aj ph.length cj, .slice ak pw.length ck], .agg #[.slice ah hq.length ch, .slice aw wq.length cw]] z fun e w' => ∃ a1 n1 c1 a2 n2 c2, e = .returned (.tuple #[.agg #[.slice a1 n1 c1, .slice a2 n2 c2], .int .i64 g2]) ∧ ReE (Dg.mores (ups ph ++ ups pw) (Gs.missing (ups hq) (Dg.heads (ups ph)))) g2 w' (.slice a1 n1 c1) (.slice a2 n2 c2) ∧ Below z.heap.size z w') := fun z hz => by
    obtain ⟨k1, k2, k3⟩ := HR.out z hz
    obtain ⟨l1, l2, l3⟩ := HJ.out z hz
    rw [HG2E.out]
    exact told_any ph pw hq wq _ _ _ _ z l1 l2 k1 k2 l3 k3 HO2.out HO1.out
  clear HE0 HC1 HC2
  obtain ⟨x0, x1, x2, x3⟩ := HXC.out w2 HBW.out
  go_upto_region 5 with (go_at_call 15; refine Calls.mono (HT1.out w2 (Kn.below (HG1.out.trans (HBW.out.mono HG1.out.size)))) ?_; rintro _ w3 ⟨d1, d2, d3, d4, d5, d6, rfl, hD, hb3⟩)
  have b8 := heap_alloc_new w3 (.cells #[.slice d1 d2 d3, .slice d4 d5 d6] 24)
  have g8 := new_below w3 (.cells #[.slice d1 d2 d3, .slice d4 d5 d6] 24)
  generalize w3.alloc (.cells #[.slice d1 d2 d3, .slice d4 d5 d6] 24) = w4 at *
  have HB4 : Hid (Below w1.heap.size w1 w4) := (HBW.out.trans (hb3.mono HBW.out.size)).trans (g8.mono (HBW.out.trans (hb3.mono HBW.out.size)).size)
  have HD4 : Hid (ReE (Dg.mores (ups hq ++ ups wq) (Gs.missing (ups ph) (Dg.heads (ups hq)))) g1 w4 (.slice d1 d2 d3) (.slice d4 d5 d6)) := hD.kn (Kn.below g8)
  have HF8 : Hid (w4.heap[w3.heap.size]? = some (.cells #[.slice d1 d2 d3, .slice d4 d5 d6] 24) ∧ w1.heap.size ≤ w3.heap.size) := ⟨b8, (HBW.out.trans (hb3.mono HBW.out.size)).size⟩
  clear b8 g8 hD hb3 x0 x1 x2 x3 HBW
  generalize w3.heap.size = F8 at *
  obtain ⟨x0, x1, x2, x3⟩ := HXC.out w4 HB4.out
  go_upto_region 6 with (go_at_call 15; refine Calls.mono (HT2.out w4 (Kn.below (HG1.out.trans (HB4.out.mono HG1.out.size)))) ?_; rintro _ w5 ⟨f1, f2, f3, f4, f5, f6, rfl, hD, hb5⟩)
  have b10 := heap_alloc_new w5 (.cells #[.slice f1 f2 f3, .slice f4 f5 f6] 24)
  have g10 := new_below w5 (.cells #[.slice f1 f2 f3, .slice f4 f5 f6] 24)
  generalize w5.alloc (.cells #[.slice f1 f2 f3, .slice f4 f5 f6] 24) = w6 at *
  have hb56 := hb5.trans (g10.mono hb5.size)
  have HB6 : Hid (Below w1.heap.size w1 w6) := HB4.out.trans (hb56.mono HB4.out.size)
  have HD6 : Hid (ReE (Dg.mores (ups hq ++ ups wq) (Gs.missing (ups ph) (Dg.heads (ups hq)))) g1 w6 (.slice d1 d2 d3) (.slice d4 d5 d6)) := HD4.out.kn (Kn.below hb56)
  have HF6 : Hid (w6.heap[F8]? = some (.cells #[.slice d1 d2 d3, .slice d4 d5 d6] 24) ∧ w1.heap.size ≤ F8 ∧ F8 < w5.heap.size) := ⟨(hb56.block _ (Array.getElem?_eq_some_iff.1 HF8.out.1).1).trans HF8.out.1, HF8.out.2, Nat.lt_of_lt_of_le (Array.getElem?_eq_some_iff.1 HF8.out.1).1 hb5.size⟩
  have HE6 : Hid (ReE (Dg.mores (ups ph ++ ups pw) (Gs.missing (ups hq) (Dg.heads (ups ph)))) g2 w6 (.slice f1 f2 f3) (.slice f4 f5 f6)) := hD.kn (Kn.below g10)
  have HF10 : Hid (w6.heap[w5.heap.size]? = some (.cells #[.slice f1 f2 f3, .slice f4 f5 f6] 24)) := b10
  clear b10 g10 hD hb5 hb56 x0 x1 x2 x3 HB4 HD4 HF8 HT1 HT2
  generalize w5.heap.size = F10 at *
  have b11 := heap_alloc_new w6 (.cells #[.int .i64 g1, .int .i64 g2] 26)
  have g11 := new_below w6 (.cells #[.int .i64 g1, .int .i64 g2] 26)
  have HOE : Hid (Calls Try.prog 13 #[.slice (some ⟨w6.heap.size, 0, none⟩) 2 2] (w6.alloc (.cells #[.int .i64 g1, .int .i64 g2] 26)) fun e w' => e = .returned (.int .i64 E) ∧ w' = w6.alloc (.cells #[.int .i64 g1, .int .i64 g2] 26)) := by
    rw [HEE.out]
    exact orE_any g1 g2 w6.heap.size _ (by rw [Lib.cell_of_heap b11]; rfl) (by rw [Lib.cell_of_heap b11]; rfl)
  go_upto_region 7 with (go_at_call 13; refine Calls.mono HOE.out ?_; rintro _ _ ⟨rfl, rfl⟩)
  have HBW : Hid (Below w1.heap.size w1 (w6.alloc (.cells #[.int .i64 g1, .int .i64 g2] 26))) := HB6.out.trans (g11.mono HB6.out.size)
  have HDW : Hid _ := HD6.out.kn (Kn.below g11)
  have HEW : Hid _ := HE6.out.kn (Kn.below g11)
  have HFA : Hid ((w6.alloc (.cells #[.int .i64 g1, .int .i64 g2] 26)).heap[F8]? = some (.cells #[.slice d1 d2 d3, .slice d4 d5 d6] 24)) := (g11.block _ (Array.getElem?_eq_some_iff.1 HF6.out.1).1).trans HF6.out.1
  have HFB : Hid ((w6.alloc (.cells #[.int .i64 g1, .int .i64 g2] 26)).heap[F10]? = some (.cells #[.slice f1 f2 f3, .slice f4 f5 f6] 24)) := (g11.block _ (Array.getElem?_eq_some_iff.1 HF10.out).1).trans HF10.out
  clear b11 g11 HOE HB6 HD6 HE6 HF10
  generalize w6.alloc (.cells #[.int .i64 g1, .int .i64 g2] 26) = w7 at *
  by_cases h1 : E = 0
  case neg =>
    have d0 : (!decide (E = 0)) = true := by simp [h1]
    have hne : E ≠ 0 := h1
    clear HDW HEW HFA HFB
    have v4 := (HBX.out w7 HBW.out).2.2.1
    have v5 := (HBX.out w7 HBW.out).2.2.2
    obtain ⟨s0, s1, s2, s3, _, _⟩ := box_store (X := w.heap.size + 3) (u := .slice none 0 0) (v := .slice none 0 0) v4 (by omega) (show w7.cell? ⟨w.heap.size + 3, 0, none⟩ = some (.slice none 0 0) by rw [Lib.cell_of_heap v5]; rfl) (show w7.cell? ⟨w.heap.size + 3, 1, none⟩ = some (.slice none 0 0) by rw [Lib.cell_of_heap v5]; rfl)
    have v6 : (two w7 (w.heap.size + 2) (.slice none 0 0) (.slice none 0 0)).heap[w.heap.size + 3]? = some (.cells #[.slice none 0 0, .slice none 0 0] 24) := (two_other (by omega)).trans v5
    obtain ⟨s4, s5, s6, s7, _, _⟩ := box_store (X := w.heap.size + 2) (u := .slice none 0 0) (v := .slice none 0 0) v6 (by omega) (show (two w7 (w.heap.size + 2) (.slice none 0 0) (.slice none 0 0)).cell? ⟨w.heap.size + 2, 0, none⟩ = some (.slice none 0 0) by rw [Lib.cell_of_heap (two_heap v4)]; rfl) (show (two w7 (w.heap.size + 2) (.slice none 0 0) (.slice none 0 0)).cell? ⟨w.heap.size + 2, 1, none⟩ = some (.slice none 0 0) by rw [Lib.cell_of_heap (two_heap v4)]; rfl)
    have HH4 : Hid ((two (two w7 (w.heap.size + 2) (.slice none 0 0) (.slice none 0 0)) (w.heap.size + 3) (.slice none 0 0) (.slice none 0 0)).heap[w.heap.size + 2]? = some (.cells #[.slice none 0 0, .slice none 0 0] 24)) := (two_other (by omega)).trans (two_heap v4)
    have HH5 : Hid ((two (two w7 (w.heap.size + 2) (.slice none 0 0) (.slice none 0 0)) (w.heap.size + 3) (.slice none 0 0) (.slice none 0 0)).heap[w.heap.size + 3]? = some (.cells #[.slice none 0 0, .slice none 0 0] 24)) := two_heap v6
    have HB9 : Hid (Below w.heap.size w (two (two w7 (w.heap.size + 2) (.slice none 0 0) (.slice none 0 0)) (w.heap.size + 3) (.slice none 0 0) (.slice none 0 0))) := two_below (two_below (HG1.out.trans (HBW.out.mono HG1.out.size)) (by omega) _ _) (by omega) _ _
    unfold two at s4 s5 s6 s7
    clear v4 v5 v6
    go_wp2_with fail
    clear s0 s1 s2 s3 s4 s5 s6 s7
    change bodyPost _ _ _ _ _ (two (two _ _ _ _) _ _ _)
    generalize two (two w7 (w.heap.size + 2) (.slice none 0 0) (.slice none 0 0)) (w.heap.size + 3) (.slice none 0 0) (.slice none 0 0) = w9 at *
    have t0 : w9.cell? ⟨w.heap.size + 2, 0, none⟩ = some (.slice none 0 0) := by rw [Lib.cell_of_heap HH4.out]; rfl
    have t1 : w9.cell? ⟨w.heap.size + 2, 1, none⟩ = some (.slice none 0 0) := by rw [Lib.cell_of_heap HH4.out]; rfl
    have t2 : w9.cell? ⟨w.heap.size + 3, 0, none⟩ = some (.slice none 0 0) := by rw [Lib.cell_of_heap HH5.out]; rfl
    have t3 : w9.cell? ⟨w.heap.size + 3, 1, none⟩ = some (.slice none 0 0) := by rw [Lib.cell_of_heap HH5.out]; rfl
    exact bodyPost_ret (v := .tuple #[.agg #[.slice none 0 0, .slice none 0 0], .agg #[.slice none 0 0, .slice none 0 0], .int .i64 E]) (by simp [results, Try.results5, go_sem, t0, t1, t2, t3]) rfl ⟨none, 0, 0, none, 0, 0, none, 0, 0, none, 0, 0, rfl, ⟨(fun h => absurd h hne), fun _ => ⟨rfl, rfl⟩⟩, ⟨(fun h => absurd h hne), fun _ => ⟨rfl, rfl⟩⟩, HB9.out⟩
  have HZ : Hid (g1 = 0 ∧ g2 = 0) := by
    have h9 := HEE.out
    rw [h1] at h9
    by_cases hc : g1 = 0
    · rw [if_pos hc] at h9
      exact ⟨hc, h9.symm⟩
    · rw [if_neg hc] at h9
      exact absurd h9.symm hc
  subst h1
  go_upto_region 9 with fail
  obtain ⟨_, _, v4, v5⟩ := HBX.out w7 HBW.out
  have hne1 : F10 ≠ w.heap.size + 2 := by have := HF6.out.2; omega
  have hne2 : F10 ≠ w.heap.size + 3 := by have := HF6.out.2; omega
  have q0 : w7.cell? ⟨F8, 0, none⟩ = some (.slice d1 d2 d3) := by rw [Lib.cell_of_heap HFA.out]; rfl
  have q1 : w7.cell? ⟨F8, 1, none⟩ = some (.slice d4 d5 d6) := by rw [Lib.cell_of_heap HFA.out]; rfl
  have q2 : w7.cell? ⟨F10, 0, none⟩ = some (.slice f1 f2 f3) := by rw [Lib.cell_of_heap HFB.out]; rfl
  have q3 : w7.cell? ⟨F10, 1, none⟩ = some (.slice f4 f5 f6) := by rw [Lib.cell_of_heap HFB.out]; rfl
  obtain ⟨s0, s1, s2, s3, s4, s5⟩ := box_store (u := .slice d1 d2 d3) (v := .slice d4 d5 d6) v4 hne1 q2 q3
  have v6 : (two w7 (w.heap.size + 2) (.slice d1 d2 d3) (.slice d4 d5 d6)).heap[w.heap.size + 3]? = some (.cells #[.slice none 0 0, .slice none 0 0] 24) := (two_other (by omega)).trans v5
  obtain ⟨s6, s7, s8, s9, _, _⟩ := box_store (u := .slice f1 f2 f3) (v := .slice f4 f5 f6) v6 hne2 s4 s5
  have hk1 := two_kn (u := .slice d1 d2 d3) (v := .slice d4 d5 d6) v4
  have hk2 := two_kn (u := .slice f1 f2 f3) (v := .slice f4 f5 f6) v6
  have HH4 : Hid ((two (two w7 (w.heap.size + 2) (.slice d1 d2 d3) (.slice d4 d5 d6)) (w.heap.size + 3) (.slice f1 f2 f3) (.slice f4 f5 f6)).heap[w.heap.size + 2]? = some (.cells #[.slice d1 d2 d3, .slice d4 d5 d6] 24)) := (two_other (by omega)).trans (two_heap v4)
  have HH5 : Hid ((two (two w7 (w.heap.size + 2) (.slice d1 d2 d3) (.slice d4 d5 d6)) (w.heap.size + 3) (.slice f1 f2 f3) (.slice f4 f5 f6)).heap[w.heap.size + 3]? = some (.cells #[.slice f1 f2 f3, .slice f4 f5 f6] 24)) := two_heap v6
  have HB9 : Hid (Below w.heap.size w (two (two w7 (w.heap.size + 2) (.slice d1 d2 d3) (.slice d4 d5 d6)) (w.heap.size + 3) (.slice f1 f2 f3) (.slice f4 f5 f6))) := two_below (two_below (HG1.out.trans (HBW.out.mono HG1.out.size)) (by omega) _ _) (by omega) _ _
  have HR1 : Hid (RepI (Dg.mores (ups hq ++ ups wq) (Gs.missing (ups ph) (Dg.heads (ups hq)))) (two (two w7 (w.heap.size + 2) (.slice d1 d2 d3) (.slice d4 d5 d6)) (w.heap.size + 3) (.slice f1 f2 f3) (.slice f4 f5 f6)) (.slice d1 d2 d3) (.slice d4 d5 d6)) := ((HDW.out.1 HZ.out.1).kn hk1).kn hk2
  have HR2 : Hid (RepI (Dg.mores (ups ph ++ ups pw) (Gs.missing (ups hq) (Dg.heads (ups ph)))) (two (two w7 (w.heap.size + 2) (.slice d1 d2 d3) (.slice d4 d5 d6)) (w.heap.size + 3) (.slice f1 f2 f3) (.slice f4 f5 f6)) (.slice f1 f2 f3) (.slice f4 f5 f6)) := ((HEW.out.1 HZ.out.2).kn hk1).kn hk2
  unfold two at s6 s7 s8 s9
  clear v4 v5 v6 hk1 hk2 HDW HEW HFA HFB HF6
  refine wp_mid (fun a0 a w' => w' = (two (two w7 (w.heap.size + 2) (.slice d1 d2 d3) (.slice d4 d5 d6)) (w.heap.size + 3) (.slice f1 f2 f3) (.slice f4 f5 f6)).drew ∧ a = ⟨((a0.tmps.setIfInBounds 45 (.agg #[.slice d1 d2 d3, .slice d4 d5 d6])).setIfInBounds 46 (.agg #[.slice f1 f2 f3, .slice f4 f5 f6])).setIfInBounds 6 (.int .i64 0), a0.defers⟩) ?first9 ?rest9
  case first9 =>
    go_region
    refine ⟨rfl, rfl, ?_⟩
    simp only [List.setIfInBounds_toArray, List.set_cons_zero, List.set_cons_succ]
  clear s0 s1 s2 s3 s4 s5 s6 s7 s8 s9 q0 q1 q2 q3
  rintro a wN ⟨hw, ha⟩
  simp only [List.setIfInBounds_toArray, List.set_cons_zero, List.set_cons_succ] at ha
  subst ha
  generalize two (two w7 (w.heap.size + 2) (.slice d1 d2 d3) (.slice d4 d5 d6)) (w.heap.size + 3) (.slice f1 f2 f3) (.slice f4 f5 f6) = w8 at *
  have hbd : Below w8.heap.size w8 wN := by rw [hw]; exact (Below.refl _ _).drew
  have t0 : wN.cell? ⟨w.heap.size + 2, 0, none⟩ = some (.slice d1 d2 d3) := cell_below hbd (by rw [Lib.cell_of_heap HH4.out]; rfl)
  have t1 : wN.cell? ⟨w.heap.size + 2, 1, none⟩ = some (.slice d4 d5 d6) := cell_below hbd (by rw [Lib.cell_of_heap HH4.out]; rfl)
  have t2 : wN.cell? ⟨w.heap.size + 3, 0, none⟩ = some (.slice f1 f2 f3) := cell_below hbd (by rw [Lib.cell_of_heap HH5.out]; rfl)
  have t3 : wN.cell? ⟨w.heap.size + 3, 1, none⟩ = some (.slice f4 f5 f6) := cell_below hbd (by rw [Lib.cell_of_heap HH5.out]; rfl)
  have HBN : Hid (Below w.heap.size w wN) := HB9.out.trans (hbd.mono HB9.out.size)
  have HS1 : Hid (RepI (Dg.mores (ups hq ++ ups wq) (Gs.missing (ups ph) (Dg.heads (ups hq)))) wN (.slice d1 d2 d3) (.slice d4 d5 d6)) := HR1.out.kn (Kn.below hbd)
  have HS2 : Hid (RepI (Dg.mores (ups ph ++ ups pw) (Gs.missing (ups hq) (Dg.heads (ups ph)))) wN (.slice f1 f2 f3) (.slice f4 f5 f6)) := HR2.out.kn (Kn.below hbd)
  clear hw hbd HH4 HH5 HB9 HR1 HR2
  go_wp2_with fail
  exact bodyPost_ret (v := .tuple #[.agg #[.slice d1 d2 d3, .slice d4 d5 d6], .agg #[.slice f1 f2 f3, .slice f4 f5 f6], .int .i64 0]) (by simp [results, Try.results5, go_sem, t0, t1, t2, t3]) rfl ⟨d1, d2, d3, d4, d5, d6, f1, f2, f3, f4, f5, f6, rfl, ⟨(fun _ => HS1.out), fun h => absurd rfl h⟩, ⟨(fun _ => HS2.out), fun h => absurd rfl h⟩, HBN.out⟩
end Go.Proofs.Ytmfaodapofamfaa

/- Appending rows of updates to an own row. -/
open Go.RowKit
namespace Go.Proofs.Ytmfaodapofamfaa
/-- 'append([]update{}, row...)': what it answers lies in new memory. -/
theorem run_append_new (w : World) (B b : Nat) (hB : B ≤ w.heap.size) (h0 : URow w B (.slice (some ⟨b, 0, none⟩) 0 0) []) (ao : Option Addr) (cap : Nat) (q : List Uv) (ty : TypeId) (hA : UpsAt w ao q) (hc : ao = none → cap = 0) (hok : ∀ x, x ∈ q → UvOk w x) (hl : q.length ≤ 1000) :
    ∃ v w', (Builtin.append_ #[22, 22] ty #[.slice (some ⟨b, 0, none⟩) 0 0, .slice ao q.length cap]).run Try.prog w = .ok v w' ∧ URow w' B v q ∧ Below w.heap.size w w' := by
  by_cases hq : q = []
  · subst hq
    refine ⟨.slice (some ⟨b, 0, none⟩) 0 0, w, ?_, h0, Below.refl _ _⟩
    cases ao with
    | none => rw [hc rfl]; simp [Builtin.append_, go_sem]
    | some ad => simp [Builtin.append_, go_sem]
  · obtain ⟨i0, hi, hz0, hz1, hz2⟩ := info_parts up_info
    have hne : 0 < q.length := List.length_pos_iff.mpr hq
    rcases hA with h | ⟨g, off, rfl, hcs⟩
    · exact absurd h hq
    · obtain ⟨v, w', hr, h1, h2⟩ := run_append_arg_grows (P := Try.prog) w 22 ty 34 i0 _ 5 88 Try.underlying22 hi hz0 hz1 hz2 rfl (by decide) ⟨b, 0, none⟩ 0 0 [] rfl (fun j u h => by simp at h) ⟨g, off, none⟩ q.length cap (q.map uvCells).flatten (by rw [ups_flat]) (fun j u hj => by rw [Addr.add_lit]; exact ups_cells hcs j u hj) (by omega) (by unfold maxLen; omega) (by omega)
      refine ⟨v, w', hr, ?_, (Below.refl w.heap.size w).grown h2 (Nat.le_refl _) (fun j e => by cases e)⟩
      rw [Nat.zero_add, List.nil_append] at h1
      exact rl_own_le h1 hB
/-- .. and a second behind it: what is appended to may be written. -/
theorem run_append_own2 (w : World) (B : Nat) (hB : B ≤ w.heap.size) (v : Value) (q : List Uv) (h0 : URow w B v q) (ao : Option Addr) (cap : Nat) (p : List Uv) (ty : TypeId) (hA : UpsAt w ao p) (hc : ao = none → cap = 0) (hok : ∀ x, x ∈ p → UvOk w x) (hl : q.length + p.length ≤ 1000) :
    ∃ v' w', (Builtin.append_ #[22, 22] ty #[v, .slice ao p.length cap]).run Try.prog w = .ok v' w' ∧ URow w' B v' (q ++ p) ∧ w.grownBy w' v.ownBlock := by
  obtain ⟨i0, hi, hz0, hz1, hz2⟩ := info_parts up_info
  cases ao with
  | none =>
    have hp : p = [] := by
      rcases hA with h | ⟨g, off, h, _⟩
      · exact h
      · cases h
    subst hp
    rw [hc rfl]
    refine ⟨v, w, ?_, by rw [List.append_nil]; exact h0, grown_refl _ _⟩
    exact run_append_owned_none (P := Try.prog) (w := w) B 22 ty 34 i0 5 Try.underlying22 hi v q.length _ h0
  | some ad =>
    obtain ⟨v', w', hr, h1, h2, _⟩ := run_append_own (P := Try.prog) w B 22 ty 34 i0 _ 5 88 Try.underlying22 hi hz0 hz1 hz2 rfl (by decide) v q.length _ h0 ad p.length cap (p.map uvCells).flatten (by rw [ups_flat]) (fun j u hj => by
      rcases hA with h | ⟨g, off, h, hcs⟩
      · subst h; simp at hj
      · rw [Option.some.inj h, Addr.add_lit]; exact ups_cells hcs j u hj) (uv_one hok) (by unfold maxLen; omega) (by omega) hB
    refine ⟨v', w', hr, ?_, h2⟩
    show World.ownsRow _ _ _ _ _ _ _
    rw [List.length_append, List.map_append, List.flatten_append]
    exact h1
end Go.Proofs.Ytmfaodapofamfaa

/- Behind a round, plain: both have all that one of them had. -/
namespace Go.Proofs.Ytmfaodapofamfaa
namespace Gs
open Wr (Up)

/-- No two of these with one id differ; and what waits is none other than what is there of its id. -/
structure Alike (h wq p pw : List Up) : Prop where
  one : Dg.Apart (h ++ p)
  wait : ∀ v u, v ∈ wq ++ pw → u ∈ h ++ p → v.id = u.id → v = u
theorem Alike.swap {h wq p pw : List Up} (a : Alike h wq p pw) : Alike p pw h wq :=
  ⟨fun u v hu hv e => a.one u v (by rw [List.mem_append] at hu ⊢; exact hu.symm) (by rw [List.mem_append] at hv ⊢; exact hv.symm) e, fun v u hv hu e => a.wait v u (by rw [List.mem_append] at hv ⊢; exact hv.symm) (by rw [List.mem_append] at hu ⊢; exact hu.symm) e⟩
theorem heads_sub {h : List Up} {x : Wr.Id} (hx : x ∈ Dg.heads h) : ∃ v, v ∈ h ∧ v.id = x := by
  obtain ⟨v, hv, e⟩ := List.mem_map.mp hx
  exact ⟨v, (List.mem_filter.mp hv).1, e⟩
theorem known_in {h wq p pw : List Up} (o : Dg.Ok h wq) (a : Alike h wq p pw) {x : Wr.Id} (k : Kw p (Dg.heads h) x) : ∃ v, v ∈ h ∧ v.id = x := by
  induction k with
  | head h1 _ => exact heads_sub h1
  | under h1 _ h3 _ ih =>
    obtain ⟨v, hv, e⟩ := ih
    have e2 := a.one v _ (List.mem_append_left _ hv) (List.mem_append_right _ h1) e
    subst e2
    have hc := o.parts.carry o.ap v hv
    exact Dg.hasU_iff.mp (Dg.carry_iff.mp hc _ h3)
theorem all_in {h wq p pw : List Up} (o : Dg.Ok h wq) (o2 : Dg.Ok p pw) (a : Alike h wq p pw) : ∀ u, u ∈ h ++ p → u ∈ Dg.mores (h ++ wq) (missing p (Dg.heads h)) := by
  intro u hu
  have hn : ((missing p (Dg.heads h)).map Up.id).Nodup := (Dg.rise_nodup o2.rh).sublist (List.Sublist.map _ (List.filter_sublist))
  rw [Dg.mores_mem hn]
  rcases List.mem_append.mp hu with h1 | h1
  · exact .inl (List.mem_append_left _ h1)
  · cases hk : knows p (Dg.heads h) u with
    | true =>
      obtain ⟨v, hv, e⟩ := known_in o a (knows_iff.mp hk)
      have e2 := a.one v u (List.mem_append_left _ hv) hu e
      subst e2
      exact .inl (List.mem_append_left _ hv)
    | false =>
      cases hb : Dg.hasU (h ++ wq) u.id with
      | false => exact .inr ⟨rfl, List.mem_filter.mpr ⟨h1, by rw [hk]; rfl⟩⟩
      | true =>
        obtain ⟨v, hv, e⟩ := Dg.hasU_iff.mp hb
        rcases List.mem_append.mp hv with h2 | h2
        · have e2 := a.one v u (List.mem_append_left _ h2) hu e
          subst e2
          exact .inl hv
        · have e2 := a.wait v u (List.mem_append_left _ h2) hu e
          subst e2
          exact .inl hv
theorem cm_in {h wq p pw : List Up} (o : Dg.Ok h wq) (o2 : Dg.Ok p pw) (a : Alike h wq p pw) : ∀ u, u ∈ h ++ p → Dg.Cm (Dg.mores (h ++ wq) (missing p (Dg.heads h))) u.id := by
  intro u hu
  have key : ∀ l : List Up, (∀ v, v ∈ l → v ∈ h ++ p) → ∀ x, Dg.Cm l x → Dg.Cm (Dg.mores (h ++ wq) (missing p (Dg.heads h))) x := fun l hl x hx => hx.mono fun v hv => all_in o o2 a v (hl v hv)
  rcases List.mem_append.mp hu with h1 | h1
  · exact key h (fun v hv => List.mem_append_left _ hv) _ (o.parts.come _ ((o.parts.has u).mp h1).2)
  · exact key p (fun v hv => List.mem_append_right _ hv) _ (o2.parts.come _ ((o2.parts.has u).mp h1).2)
/-- What one of them had is there. -/
theorem meets {h wq p pw : List Up} (o : Dg.Ok h wq) (o2 : Dg.Ok p pw) (a : Alike h wq p pw) {x y : List Up} (hi : Dg.Is (Dg.mores (h ++ wq) (missing p (Dg.heads h))) x y) : ∀ u, u ∈ h ++ p → u ∈ x :=
  fun u hu => (hi.parts.has u).mpr ⟨all_in o o2 a u hu, cm_in o o2 a u hu⟩
theorem mores_sub {l us : List Up} (hn : (us.map Up.id).Nodup) : ∀ v, v ∈ Dg.mores l us → v ∈ l ∨ v ∈ us := fun v hv => by
  rcases (Dg.mores_mem hn v).mp hv with h | h
  · exact .inl h
  · exact .inr h.2
theorem same_in {h p : List Up} (o : Dg.Ok h []) (o2 : Dg.Ok p []) (a : Alike h [] p []) : ∀ v, v ∈ Dg.mores (p ++ []) (missing h (Dg.heads p)) ↔ v ∈ Dg.mores (h ++ []) (missing p (Dg.heads h)) := by
  have hn1 : ((missing p (Dg.heads h)).map Up.id).Nodup := (Dg.rise_nodup o2.rh).sublist (List.Sublist.map _ (List.filter_sublist))
  have hn2 : ((missing h (Dg.heads p)).map Up.id).Nodup := (Dg.rise_nodup o.rh).sublist (List.Sublist.map _ (List.filter_sublist))
  intro v
  constructor
  · intro hv
    refine all_in o o2 a v ?_
    rcases mores_sub hn2 v hv with h1 | h1
    · rw [List.append_nil] at h1
      exact List.mem_append_right _ h1
    · exact List.mem_append_left _ (List.mem_filter.mp h1).1
  · intro hv
    refine all_in o2 o a.swap v ?_
    rcases mores_sub hn1 v hv with h1 | h1
    · rw [List.append_nil] at h1
      exact List.mem_append_right _ h1
    · exact List.mem_append_left _ (List.mem_filter.mp h1).1
end Gs
end Go.Proofs.Ytmfaodapofamfaa

/- Behind a round, plain: what the law's loops find. -/
namespace Go.Proofs.Ytmfaodapofamfaa
theorem mem_upsTake {Q : List Uv} {i : Nat} {u : Wr.Up} (h : u ∈ ups (Q.take i)) : ∃ j, j < i ∧ j < Q.length ∧ u = (uvD Q j).u := by
  obtain ⟨x, hx, e⟩ := List.mem_map.mp h
  obtain ⟨j, hj, e2⟩ := List.mem_iff_getElem.mp hx
  rw [List.length_take] at hj
  refine ⟨j, by omega, by omega, ?_⟩
  rw [← e, ← e2, List.getElem_take]
  unfold uvD
  rw [List.getD_eq_getElem?_getD, List.getElem?_eq_getElem (by omega)]
  rfl
theorem mem_ups {Q : List Uv} {u : Wr.Up} (h : u ∈ ups Q) : ∃ j, j < Q.length ∧ u = (uvD Q j).u := by
  rw [← List.take_length (l := Q)] at h
  obtain ⟨j, _, h1, h2⟩ := mem_upsTake h
  exact ⟨j, h1, h2⟩
theorem uvD_ups {Q : List Uv} {j : Nat} (h : j < Q.length) : (uvD Q j).u ∈ ups Q := List.mem_map.mpr ⟨_, uvD_mem Q j h, rfl⟩
theorem apart_more {Q : List Uv} {i : Nat} (hi : i < Q.length) (h : Dg.Apart (ups (Q.take i))) (k : ∀ j, j < i → (uvD Q j).u.id = (uvD Q i).u.id → (uvD Q j).u = (uvD Q i).u) : Dg.Apart (ups (Q.take (i + 1))) := by
  intro u v hu hv e
  rw [uvD_take Q i hi, ups_append] at hu hv
  have key : ∀ x, x ∈ ups (Q.take i) → x.id = (uvD Q i).u.id → x = (uvD Q i).u := fun x hx ex => by
    obtain ⟨j, hj, _, rfl⟩ := mem_upsTake hx
    exact k j hj ex
  rcases List.mem_append.mp hu with h1 | h1 <;> rcases List.mem_append.mp hv with h2 | h2
  · exact h u v h1 h2 e
  · rw [List.mem_singleton.mp h2] at e ⊢
    exact key u h1 e
  · rw [List.mem_singleton.mp h1] at e ⊢
    exact (key v h2 e.symm).symm
  · rw [List.mem_singleton.mp h1, List.mem_singleton.mp h2]
/-- None of those that wait has the id of another that is there. -/
def Waits (Q V : List Uv) : Prop := ∀ v u, v ∈ ups V → u ∈ ups Q → v.id = u.id → v = u
theorem waits_more {Q W : List Uv} {m : Nat} (hm : m < W.length) (h : Waits Q (W.take m)) (k : ∀ u, u ∈ ups Q → (uvD W m).u.id = u.id → (uvD W m).u = u) : Waits Q (W.take (m + 1)) := by
  intro v u hv hu e
  rw [uvD_take W m hm, ups_append] at hv
  rcases List.mem_append.mp hv with h1 | h1
  · exact h v u h1 hu e
  · rw [List.mem_singleton.mp h1] at e ⊢
    exact k u hu e
theorem waits_none {Q : List Uv} {x : Wr.Up} (h : Dg.hasU (ups Q) x.id = false) : ∀ u, u ∈ ups Q → x.id = u.id → x = u := fun u hu e => by
  have : Dg.hasU (ups Q) x.id = true := Dg.hasU_iff.mpr ⟨u, hu, e.symm⟩
  rw [h] at this
  cases this
theorem waits_same {Q : List Uv} (ap : Dg.Apart (ups Q)) {x : Wr.Up} {k : Nat} (hk : k < Q.length) (he : (uvD Q k).u = x) : ∀ u, u ∈ ups Q → x.id = u.id → x = u := fun u hu e => by
  rw [← he] at e ⊢
  exact ap _ u (uvD_ups hk) hu e
/-- Where one that is there is found. -/
theorem place_has {X : List Uv} (hr : Wr.rise Dg.uOrd (ups X) = true) {u : Wr.Up} (hu : u ∈ ups X) {r : Int} (h : PlaceR X u.id r) : ∃ k : Nat, r = k ∧ k < X.length ∧ (uvD X k).u = u := by
  rcases h with ⟨_, h⟩ | ⟨k, rfl, hk, he⟩
  · have : Dg.hasU (ups X) u.id = true := Dg.hasU_iff.mpr ⟨u, hu, rfl⟩
    rw [h] at this
    cases this
  · refine ⟨k, rfl, hk, ?_⟩
    have hn := Dg.rise_nodup hr
    obtain ⟨j, hj, rfl⟩ := mem_ups hu
    have hjk : k = j := by
      have h1 : ((ups X).map Wr.Up.id)[k]? = some (uvD X k).u.id := by simp [ups, uvD, hk]
      have h2 : ((ups X).map Wr.Up.id)[j]? = some (uvD X j).u.id := by simp [ups, uvD, hj]
      rw [he, ← h2] at h1
      refine (List.getElem?_inj ?_ hn).mp h1
      simp [ups, hk]
    rw [hjk]
theorem alike_of {hq wq ph pw Q W : List Uv} (eQ : Q = hq ++ ph) (eW : W = wq ++ pw) (ap : Dg.Apart (ups Q)) (wt : Waits Q W) : Gs.Alike (ups hq) (ups wq) (ups ph) (ups pw) := by
  subst eQ eW
  rw [ups_append] at ap
  refine ⟨ap, fun v u hv hu e => wt v u (by rw [ups_append]; exact hv) (by rw [ups_append]; exact hu) e⟩
/-- What stands in the answers. -/
theorem found_all {hq wq ph pw Q W X X2 : List Uv} (o : Dg.Ok (ups hq) (ups wq)) (o2 : Dg.Ok (ups ph) (ups pw)) (eQ : Q = hq ++ ph) (eW : W = wq ++ pw) (ap : Dg.Apart (ups Q)) (wt : Waits Q W) (hi : Dg.Is (Dg.mores (ups hq ++ ups wq) (Gs.missing (ups ph) (Dg.heads (ups hq)))) (ups X) (ups X2)) : ∀ u, u ∈ ups Q → ∀ r, PlaceR X u.id r → ∃ k : Nat, r = k ∧ k < X.length ∧ (uvD X k).u = u := fun u hu r hr =>
  place_has hi.rh (Gs.meets o o2 (alike_of eQ eW ap wt) hi u (by rw [eQ, ups_append] at hu; exact hu)) hr
theorem found_all2 {hq wq ph pw Q W X X2 : List Uv} (o : Dg.Ok (ups hq) (ups wq)) (o2 : Dg.Ok (ups ph) (ups pw)) (eQ : Q = hq ++ ph) (eW : W = wq ++ pw) (ap : Dg.Apart (ups Q)) (wt : Waits Q W) (hi : Dg.Is (Dg.mores (ups ph ++ ups pw) (Gs.missing (ups hq) (Dg.heads (ups ph)))) (ups X) (ups X2)) : ∀ u, u ∈ ups Q → ∀ r, PlaceR X u.id r → ∃ k : Nat, r = k ∧ k < X.length ∧ (uvD X k).u = u := fun u hu r hr =>
  place_has hi.rh (Gs.meets o2 o (alike_of eQ eW ap wt).swap hi u (by rw [eQ, ups_append, List.mem_append] at hu; exact List.mem_append.mpr hu.symm)) hr
theorem none_waits {hq wq ph pw Q W X X2 Y Y2 : List Uv} (o : Dg.Ok (ups hq) (ups wq)) (o2 : Dg.Ok (ups ph) (ups pw)) (eQ : Q = hq ++ ph) (eW : W = wq ++ pw) (ap : Dg.Apart (ups Q)) (wt : Waits Q W) (hW : W = []) (hi : Dg.Is (Dg.mores (ups hq ++ ups wq) (Gs.missing (ups ph) (Dg.heads (ups hq)))) (ups X) (ups X2)) (hj : Dg.Is (Dg.mores (ups ph ++ ups pw) (Gs.missing (ups hq) (Dg.heads (ups ph)))) (ups Y) (ups Y2)) : ups X = ups Y ∧ ups X2 = ups Y2 := by
  have ha := alike_of eQ eW ap wt
  rw [hW] at eW
  obtain ⟨rfl, rfl⟩ := List.append_eq_nil_iff.mp eW.symm
  exact hi.one (hj.congr (Gs.same_in o o2 ha))
end Go.Proofs.Ytmfaodapofamfaa

/- gossipBegun. -/
namespace Go.Proofs.Ytmfaodapofamfaa
open Go.RowKit

theorem fs_ok : Dg.Ok [Wr.firstU, Wr.secondU] [] := Dg.check_ok.mp (beg_check rfl rfl)
theorem fs_fair : Fair [Wr.firstU, Wr.secondU] := ⟨by decide, (fun u hu => by rcases Dg.beg_mem.mp hu with rfl | rfl; exact Dg.beg_c1; exact Dg.beg_c2), by decide⟩
theorem Gs.no_kw {h : List Wr.Up} {x : Wr.Id} (k : Gs.Kw h [] x) : False := by
  induction k with
  | head h _ => cases h
  | under _ _ _ _ ih => exact ih
theorem Gs.miss_nil (h : List Wr.Up) : Gs.missing h [] = h := by
  unfold Gs.missing
  rw [List.filter_eq_self]
  intro u _
  cases hk : Gs.knows h [] u with
  | false => rfl
  | true => exact absurd (Gs.knows_iff.mp hk) (fun k => Gs.no_kw k)
theorem Gs.miss_beg : Gs.missing [Wr.firstU, Wr.secondU] [⟨0, 1⟩] = [Wr.secondU] := by
  have k1 : Gs.knows [Wr.firstU, Wr.secondU] [⟨0, 1⟩] Wr.firstU = true := Gs.knows_iff.mpr (.head (by decide) (by decide))
  have k2 : ∀ x, Gs.Kw [Wr.firstU, Wr.secondU] [⟨0, 1⟩] x → x = ⟨0, 1⟩ := by
    intro x k
    induction k with
    | head h _ => exact List.mem_singleton.mp h
    | under h1 _ h3 _ ih =>
      rcases Dg.beg_mem.mp h1 with rfl | rfl
      · cases h3
      · exact absurd ih (by decide)
  have k3 : Gs.knows [Wr.firstU, Wr.secondU] [⟨0, 1⟩] Wr.secondU = false := by
    cases hk : Gs.knows [Wr.firstU, Wr.secondU] [⟨0, 1⟩] Wr.secondU with
    | false => rfl
    | true => exact absurd (k2 _ (Gs.knows_iff.mp hk)) (by decide)
  unfold Gs.missing
  rw [List.filter_cons, List.filter_cons, k1, k3]
  rfl
theorem fs_more : Dg.mores [] [Wr.firstU, Wr.secondU] = [Wr.firstU, Wr.secondU] := by
  show Dg.more (Dg.more [] Wr.firstU) Wr.secondU = _
  have e1 : Dg.more [] Wr.firstU = [Wr.firstU] := rfl
  have e2 : Dg.hasU [Wr.firstU] Wr.secondU.id = false := by decide
  rw [e1]
  unfold Dg.more
  rw [e2]
  rfl
theorem fs_round : Gs.roundErr [Wr.firstU, Wr.secondU] [] [] [] = 0 := by
  unfold Gs.roundErr
  rw [if_neg (fun h => h (Dg.check_ok.mpr fs_ok)), if_neg (fun h => h (Dg.check_ok.mpr Dg.beg_ok0)), if_neg]
  rintro (h | h)
  · exact h (by show Gs.tellErr _ [] = 0; rfl)
  · refine h ?_
    show Gs.tellErr [] (Gs.missing [Wr.firstU, Wr.secondU] []) = 0
    rw [Gs.miss_nil]
    unfold Gs.tellErr
    rw [fs_more]
    rfl
theorem fs_rep {w : World} {v1 v2 : Value} {R1 R2 : Uv} (h1 : UpsV w v1 [R1, R2]) (h2 : UpsV w v2 []) (o1 : UvOk w R1) (o2 : UvOk w R2) (e1 : R1.u = Wr.firstU) (e2 : R2.u = Wr.secondU) : RepI [Wr.firstU, Wr.secondU] w v1 v2 := by
  refine ⟨[R1, R2], [], h1, h2, fun y hy => ?_, ?_⟩
  · have hy : y = R1 ∨ y = R2 := by simpa using hy
    rcases hy with rfl | rfl
    · exact o1
    · exact o2
  · have e : ups [R1, R2] = [Wr.firstU, Wr.secondU] := by show [R1.u, R2.u] = _; rw [e1, e2]
    rw [e]
    exact fs_ok.is
set_option maxRecDepth 100000 in
set_option maxHeartbeats 4000000 in
theorem gossipBegun_any (w : World) : Calls Try.prog 4 #[] w fun e w' => e = .returned (.bool true) ∧ Below w.heap.size w w' := by
  have HFI : Hid (∀ w, Calls Try.prog 9 #[] w fun e w' => ∃ vp vs vt, e = .returned (upVal Wr.firstU vp vs vt) ∧ UpV w' Wr.firstU vp vs vt ∧ Below w.heap.size w w') := first_any
  have HSE : Hid (∀ w, Calls Try.prog 10 #[] w fun e w' => ∃ vp vs vt, e = .returned (upVal Wr.secondU vp vs vt) ∧ UpV w' Wr.secondU vp vs vt ∧ Below w.heap.size w w') := second_any
  go_enter Try.func4, Try.ntmps4
  go_upto_region 2 with (first | (go_at_call 9; refine Calls.mono (HFI.out _) ?_; rintro _ w1 ⟨vp, vs, vt, rfl, hU, hb1⟩; obtain ⟨p1, n1, q1, p2, n2, q2, p3, n3, q3, eU, hU⟩ := up1_of hU; rw [eU]; clear eU) | (go_at_call 10; refine Calls.mono (HSE.out _) ?_; rintro _ w2 ⟨vp2, vs2, vt2, rfl, hV, hb2⟩; obtain ⟨p4, n4, q4, p5, n5, q5, p6, n6, q6, eV, hV⟩ := up1_of hV; rw [eV]; clear eV))
  have hUP : Ups2 (w2.alloc (.cells #[.int .i64 Wr.firstU.id.a, .int .i64 Wr.firstU.id.n, .slice p1 n1 q1, .slice p2 n2 q2, .slice p3 n3 q3, .int .i64 Wr.secondU.id.a, .int .i64 Wr.secondU.id.n, .slice p4 n4 q4, .slice p5 n5 q5, .slice p6 n6 q6] 34)) (.slice (some ⟨w2.heap.size, 0, none⟩) 2 2) := ups2_new (hU.below hb2) hV
  have g1 := new_below w2 (.cells #[.int .i64 Wr.firstU.id.a, .int .i64 Wr.firstU.id.n, .slice p1 n1 q1, .slice p2 n2 q2, .slice p3 n3 q3, .int .i64 Wr.secondU.id.a, .int .i64 Wr.secondU.id.n, .slice p4 n4 q4, .slice p5 n5 q5, .slice p6 n6 q6] 34)
  have hz : (w2.alloc (.cells #[.int .i64 Wr.firstU.id.a, .int .i64 Wr.firstU.id.n, .slice p1 n1 q1, .slice p2 n2 q2, .slice p3 n3 q3, .int .i64 Wr.secondU.id.a, .int .i64 Wr.secondU.id.n, .slice p4 n4 q4, .slice p5 n5 q5, .slice p6 n6 q6] 34)).heap.size = w2.heap.size + 1 := by simp
  have b2 := heap_alloc_new (w2.alloc (.cells #[.int .i64 Wr.firstU.id.a, .int .i64 Wr.firstU.id.n, .slice p1 n1 q1, .slice p2 n2 q2, .slice p3 n3 q3, .int .i64 Wr.secondU.id.a, .int .i64 Wr.secondU.id.n, .slice p4 n4 q4, .slice p5 n5 q5, .slice p6 n6 q6] 34)) (.cells #[.slice (some ⟨w2.heap.size, 0, none⟩) 2 2, .slice none 0 0] 24)
  have g2 := new_below (w2.alloc (.cells #[.int .i64 Wr.firstU.id.a, .int .i64 Wr.firstU.id.n, .slice p1 n1 q1, .slice p2 n2 q2, .slice p3 n3 q3, .int .i64 Wr.secondU.id.a, .int .i64 Wr.secondU.id.n, .slice p4 n4 q4, .slice p5 n5 q5, .slice p6 n6 q6] 34)) (.cells #[.slice (some ⟨w2.heap.size, 0, none⟩) 2 2, .slice none 0 0] 24)
  rw [hz] at b2
  have hUP2 := hUP.below g2
  have hbb := (hb1.trans (hb2.mono hb1.size))
  have hbc := hbb.trans (g1.mono hbb.size)
  have HB3 : Hid (Below w.heap.size w ((w2.alloc (.cells #[.int .i64 Wr.firstU.id.a, .int .i64 Wr.firstU.id.n, .slice p1 n1 q1, .slice p2 n2 q2, .slice p3 n3 q3, .int .i64 Wr.secondU.id.a, .int .i64 Wr.secondU.id.n, .slice p4 n4 q4, .slice p5 n5 q5, .slice p6 n6 q6] 34)).alloc (.cells #[.slice (some ⟨w2.heap.size, 0, none⟩) 2 2, .slice none 0 0] 24))) := hbc.trans (g2.mono hbc.size)
  clear hUP g1 hz g2 hbb hbc hb1 hb2 hU hV
  generalize (w2.alloc (.cells #[.int .i64 Wr.firstU.id.a, .int .i64 Wr.firstU.id.n, .slice p1 n1 q1, .slice p2 n2 q2, .slice p3 n3 q3, .int .i64 Wr.secondU.id.a, .int .i64 Wr.secondU.id.n, .slice p4 n4 q4, .slice p5 n5 q5, .slice p6 n6 q6] 34)).alloc (.cells #[.slice (some ⟨w2.heap.size, 0, none⟩) 2 2, .slice none 0 0] 24) = w3 at *
  generalize w2.heap.size = Z at *
  obtain ⟨a9, e9, R1, R2, h1, h2, h3, h4, h5⟩ := hUP2
  cases e9
  have HBX : Hid (∀ z, Below w3.heap.size w3 z → z.heap[Z + 1]? = some (.cells #[.slice (some ⟨Z, 0, none⟩) 2 2, .slice none 0 0] 24)) := fun z hz => (hz.block _ (Array.getElem?_eq_some_iff.1 b2).1).trans b2
  have HXC : Hid (∀ z, Below w3.heap.size w3 z → z.cell? ⟨Z + 1, 0, none⟩ = some (.slice (some ⟨Z, 0, none⟩) 2 2) ∧ z.cell? ⟨Z + 1, 1, none⟩ = some (.slice none 0 0)) := fun z hz => ⟨by rw [Lib.cell_of_heap (HBX.out z hz)]; rfl, by rw [Lib.cell_of_heap (HBX.out z hz)]; rfl⟩
  have hok : ∀ z, Below w3.heap.size w3 z → ∀ y, y ∈ [R1, R2] ++ [] → UvOk z y := fun z hz y hy => by
    have hy : y = R1 ∨ y = R2 := by simpa using hy
    rcases hy with rfl | rfl
    · exact h2.below hz
    · exact h3.below hz
  have hu : ups [R1, R2] = [Wr.firstU, Wr.secondU] := by show [R1.u, R2.u] = _; rw [h4, h5]
  have HMI : Hid (∀ z iv, Below w3.heap.size w3 z → IdsV z iv [⟨0, 1⟩] → Calls Try.prog 11 #[.agg #[.slice (some ⟨Z, 0, none⟩) 2 2, .slice none 0 0], iv] z fun e w' => ∃ (v : Value) (R : List Uv), e = .returned (.tuple #[v, .int .i64 0]) ∧ UpsV w' v R ∧ (∀ x, x ∈ R → UvOk w' x) ∧ ups R = [Wr.secondU] ∧ Below z.heap.size z w') := fun z iv hz hi => by
    refine (Missing_any [R1, R2] [] _ _ [⟨0, 1⟩] iv z (h1.kc (Kc.below hz)) (ups_nil z) ⟨(by simp), (by simp)⟩ (hok z hz) hi (by decide)).mono ?_
    rintro e w' ⟨v, R, rfl, k1, k2, k3, k4⟩
    have he : Gs.missErr (ups [R1, R2]) (ups []) [⟨0, 1⟩] = 0 := by
      rw [hu]
      unfold Gs.missErr
      rw [if_neg (fun h => h (Dg.check_ok.mpr fs_ok)), if_neg (by decide)]
    unfold Gs.missOut at k3
    rw [if_pos he, hu, Gs.miss_beg] at k3
    rw [he]
    exact ⟨v, R, rfl, k1, k2, k3, k4⟩
  have HRO : Hid (∀ z, Below w3.heap.size w3 z → Calls Try.prog 5 #[.agg #[.slice (some ⟨Z, 0, none⟩) 2 2, .slice none 0 0], .agg #[.slice none 0 0, .slice none 0 0]] z fun e w' => ∃ a1 n1 c1 a2 n2 c2 a3 n3 c3 a4 n4 c4, e = .returned (.tuple #[.agg #[.slice a1 n1 c1, .slice a2 n2 c2], .agg #[.slice a3 n3 c3, .slice a4 n4 c4], .int .i64 0]) ∧ RepI [Wr.firstU, Wr.secondU] w' (.slice a1 n1 c1) (.slice a2 n2 c2) ∧ RepI [Wr.firstU, Wr.secondU] w' (.slice a3 n3 c3) (.slice a4 n4 c4) ∧ Below z.heap.size z w') := fun z hz => by
    refine (Round_any [R1, R2] [] [] [] _ _ _ _ z (h1.kc (Kc.below hz)) (ups_nil z) (ups_nil z) (ups_nil z) ⟨(by simp), (by simp)⟩ ⟨(by simp), (by simp)⟩ (hok z hz) (fun y hy => by cases hy)).mono ?_
    rintro e w' ⟨a1, n1, c1, a2, n2, c2, a3, n3, c3, a4, n4, c4, rfl, k1, k2, k3⟩
    have he : Gs.roundErr (ups [R1, R2]) (ups []) (ups []) (ups []) = 0 := by rw [hu]; exact fs_round
    rw [he] at k1 k2 ⊢
    refine ⟨a1, n1, c1, a2, n2, c2, a3, n3, c3, a4, n4, c4, rfl, ?_, ?_, k3⟩
    · have h9 := k1.1 rfl
      rw [hu] at h9
      exact h9
    · have h9 := k2.1 rfl
      rw [hu] at h9
      have e : Dg.mores (ups [] ++ ups []) (Gs.missing [Wr.firstU, Wr.secondU] (Dg.heads (ups []))) = [Wr.firstU, Wr.secondU] := by
        show Dg.mores [] (Gs.missing [Wr.firstU, Wr.secondU] []) = _
        rw [Gs.miss_nil]
        exact fs_more
      rw [e] at h9
      exact h9
  have HRA : Hid (∀ z, Below w3.heap.size w3 z → RepI [Wr.firstU, Wr.secondU] z (.slice (some ⟨Z, 0, none⟩) 2 2) (.slice none 0 0)) := fun z hz => fs_rep (h1.kc (Kc.below hz)) (ups_nil z) (h2.below hz) (h3.below hz) h4 h5
  clear h1 h2 h3 h4 h5 hok hu b2
  obtain ⟨x0, x1⟩ := HXC.out w3 (Below.refl _ _)
  have b4 := heap_alloc_new w3 (.cells #[.int .i64 0, .int .i64 1] 30)
  have g4 := new_below w3 (.cells #[.int .i64 0, .int .i64 1] 30)
  have hI4 : IdsV (w3.alloc (.cells #[.int .i64 0, .int .i64 1] 30)) (.slice (some ⟨w3.heap.size, 0, none⟩) 1 1) [⟨0, 1⟩] := by
    refine ⟨_, _, rfl, ⟨Nat.le_refl _, (fun h => by cases h)⟩, .inr ⟨_, 0, rfl, fun i hi => ?_⟩⟩
    match i, hi with
    | 0, _ => exact ⟨by rw [Lib.cell_of_heap b4]; rfl, by rw [Lib.cell_of_heap b4]; rfl⟩
  have HM4 : Hid _ := HMI.out _ _ g4 hI4
  have HG4 : Hid (Below w3.heap.size w3 (w3.alloc (.cells #[.int .i64 0, .int .i64 1] 30))) := g4
  clear b4 g4 hI4 HMI
  go_upto_region 3 with (go_at_call 11; refine Calls.mono HM4.out ?_; rintro _ w5 ⟨v5, R, rfl, hRV, hRO, hRU, hb5⟩; obtain ⟨a5, c5, rfl, hj⟩ := id hRV; clear hj)
  have HB5 : Hid (Below w3.heap.size w3 w5) := HG4.out.trans (hb5.mono HG4.out.size)
  have HRV : Hid (UpsV w5 (.slice a5 R.length c5) R) := hRV
  have HRO5 : Hid (∀ x, x ∈ R → UvOk w5 x) := hRO
  have HRU : Hid (ups R = [Wr.secondU]) := hRU
  clear hRV hRO hRU hb5 HM4 HG4 x0 x1
  obtain ⟨x0, x1⟩ := HXC.out w5 HB5.out
  go_upto_region 4 with (go_at_call 5; refine Calls.mono (HRO.out w5 HB5.out) ?_; rintro _ w6 ⟨a1, n1, c1, a2, n2, c2, a3, n3, c3, a4, n4, c4, rfl, hRX, hRY, hb6⟩)
  have b7 := heap_alloc_new w6 (.cells #[.slice a1 n1 c1, .slice a2 n2 c2] 24)
  have g7 := new_below w6 (.cells #[.slice a1 n1 c1, .slice a2 n2 c2] 24)
  have b8 := heap_alloc_new (w6.alloc (.cells #[.slice a1 n1 c1, .slice a2 n2 c2] 24)) (.cells #[.slice a3 n3 c3, .slice a4 n4 c4] 24)
  have g8 := new_below (w6.alloc (.cells #[.slice a1 n1 c1, .slice a2 n2 c2] 24)) (.cells #[.slice a3 n3 c3, .slice a4 n4 c4] 24)
  have hz : (w6.alloc (.cells #[.slice a1 n1 c1, .slice a2 n2 c2] 24)).heap.size = w6.heap.size + 1 := by simp
  rw [hz] at b8
  have b7' := (g8.block _ (by rw [hz]; exact Nat.lt_succ_self _)).trans b7
  have g78 := g7.trans (g8.mono g7.size)
  generalize (w6.alloc (.cells #[.slice a1 n1 c1, .slice a2 n2 c2] 24)).alloc (.cells #[.slice a3 n3 c3, .slice a4 n4 c4] 24) = w8 at *
  have hb68 := hb6.trans (g78.mono hb6.size)
  have HB8 : Hid (Below w3.heap.size w3 w8) := HB5.out.trans (hb68.mono HB5.out.size)
  have HX8 : Hid (RepI [Wr.firstU, Wr.secondU] w8 (.slice a1 n1 c1) (.slice a2 n2 c2)) := RepI.kn hRX (Kn.below g78)
  have HY8 : Hid (RepI [Wr.firstU, Wr.secondU] w8 (.slice a3 n3 c3) (.slice a4 n4 c4)) := RepI.kn hRY (Kn.below g78)
  have HRV8 : Hid (UpsV w8 (.slice a5 R.length c5) R) := HRV.out.kc (Kc.below hb68)
  have HRO8 : Hid (∀ x, x ∈ R → UvOk w8 x) := fun x hx => (HRO5.out x hx).below hb68
  have HCC : Hid (∀ z, Below w8.heap.size w8 z → (z.cell? ⟨w6.heap.size, 0, none⟩ = some (.slice a1 n1 c1) ∧ z.cell? ⟨w6.heap.size, 1, none⟩ = some (.slice a2 n2 c2)) ∧ (z.cell? ⟨w6.heap.size + 1, 0, none⟩ = some (.slice a3 n3 c3) ∧ z.cell? ⟨w6.heap.size + 1, 1, none⟩ = some (.slice a4 n4 c4)) ∧ z.cell? ⟨Z + 1, 0, none⟩ = some (.slice (some ⟨Z, 0, none⟩) 2 2) ∧ z.cell? ⟨Z + 1, 1, none⟩ = some (.slice none 0 0)) := fun z hz =>
    ⟨⟨cell_below hz (by rw [Lib.cell_of_heap b7']; rfl), cell_below hz (by rw [Lib.cell_of_heap b7']; rfl)⟩, ⟨cell_below hz (by rw [Lib.cell_of_heap b8]; rfl), cell_below hz (by rw [Lib.cell_of_heap b8]; rfl)⟩, HXC.out z (HB8.out.trans (hz.mono HB8.out.size))⟩
  clear b7 g7 b8 g8 hz b7' g78 hb68 hb6 hRX hRY x0 x1 HRV HRO5 HRO HB5
  go_wp2_with fail
  refine Calls.mono (HSE.out w8) ?_
  rintro _ w9 ⟨vp9, vs9, vt9, rfl, hW, hb9⟩
  obtain ⟨s1, t1, u1, s2, t2, u2, s3, t3, u3, eW, hW⟩ := up1_of hW
  rw [eW]
  clear eW
  have bA := heap_alloc_new w9 (.cells #[.int .i64 Wr.secondU.id.a, .int .i64 Wr.secondU.id.n, .slice s1 t1 u1, .slice s2 t2 u2, .slice s3 t3 u3] 34)
  have gA := new_below w9 (.cells #[.int .i64 Wr.secondU.id.a, .int .i64 Wr.secondU.id.n, .slice s1 t1 u1, .slice s2 t2 u2, .slice s3 t3 u3] 34)
  have hb9A := hb9.trans (gA.mono hb9.size)
  have hUA : UpsV (w9.alloc (.cells #[.int .i64 Wr.secondU.id.a, .int .i64 Wr.secondU.id.n, .slice s1 t1 u1, .slice s2 t2 u2, .slice s3 t3 u3] 34)) (.slice (some ⟨w9.heap.size, 0, none⟩) 1 1) [⟨Wr.secondU, .slice s1 t1 u1, .slice s2 t2 u2, .slice s3 t3 u3⟩] :=
    ⟨_, _, rfl, ⟨Nat.le_refl _, (fun h => by cases h)⟩, ups_one w9 ⟨Wr.secondU, .slice s1 t1 u1, .slice s2 t2 u2, .slice s3 t3 u3⟩⟩
  have hRl : R.length = 1 := by
    have := congrArg List.length HRU.out
    rw [ups_length] at this
    exact this
  have HSU : Hid _ := SameUpdates_same R [⟨Wr.secondU, .slice s1 t1 u1, .slice s2 t2 u2, .slice s3 t3 u3⟩] _ _ (w9.alloc (.cells #[.int .i64 Wr.secondU.id.a, .int .i64 Wr.secondU.id.n, .slice s1 t1 u1, .slice s2 t2 u2, .slice s3 t3 u3] 34)) (HRV8.out.kc (Kc.below hb9A)) hUA HRU.out (by omega) (fun x hx => (HRO8.out x hx).below hb9A) (fun x hx => by rw [List.mem_singleton.mp hx]; exact (hW.below gA).ok)
  have HBA : Hid (Below w8.heap.size w8 (w9.alloc (.cells #[.int .i64 Wr.secondU.id.a, .int .i64 Wr.secondU.id.n, .slice s1 t1 u1, .slice s2 t2 u2, .slice s3 t3 u3] 34))) := hb9A
  clear hRl bA gA hb9A hUA hW hb9
  go_wp2_with fail
  refine Calls.mono HSU.out ?_
  rintro _ wB ⟨rfl, hbB⟩
  have HBB : Hid (Below w8.heap.size w8 wB) := HBA.out.trans (hbB.mono HBA.out.size)
  have HS1 : Hid _ := same_rep fs_fair _ _ _ _ wB (HX8.out.kn (Kn.below HBB.out)) (HRA.out wB (HB8.out.trans (HBB.out.mono HB8.out.size)))
  clear HSU HBA hbB
  obtain ⟨⟨x0, x1⟩, ⟨x2, x3⟩, x4, x5⟩ := HCC.out wB HBB.out
  go_wp2_with fail
  refine Calls.mono HS1.out ?_
  rintro _ wC ⟨rfl, hbC⟩
  have HBC : Hid (Below w8.heap.size w8 wC) := HBB.out.trans (hbC.mono HBB.out.size)
  have HS2 : Hid _ := same_rep fs_fair _ _ _ _ wC (HY8.out.kn (Kn.below HBC.out)) (HRA.out wC (HB8.out.trans (HBC.out.mono HB8.out.size)))
  clear HS1 HBB hbC x0 x1 x2 x3 x4 x5
  obtain ⟨⟨x0, x1⟩, ⟨x2, x3⟩, x4, x5⟩ := HCC.out wC HBC.out
  go_wp2_with fail
  refine Calls.mono HS2.out ?_
  rintro _ wD ⟨rfl, hbD⟩
  have HBD : Hid (Below w8.heap.size w8 wD) := HBC.out.trans (hbD.mono HBC.out.size)
  have HBE : Hid (Below w.heap.size w wD) := HB3.out.trans ((HB8.out.trans (HBD.out.mono HB8.out.size)).mono HB3.out.size)
  clear HS2 hbD
  go_wp2_with fail
  go_ret
  exact ⟨rfl, HBE.out⟩
end Go.Proofs.Ytmfaodapofamfaa

