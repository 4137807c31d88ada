/- Own texts, one behind the other (part 9). -/
import Derived.Test.YtmfaodapofamfaaGreatBundleH
import Derived.Test.YtmfaodapofamfaaGreatRows
/- A copy of a replica. -/
namespace Go.Proofs.YtmfaodapofamfaaGreat
open Go.RowKit

def CpV (l : List Wr.Up) (w : World) (v : Value) : Prop := ∃ R, UpsV w v R ∧ (∀ x, x ∈ R → UvOk w x) ∧ ups R = l
theorem CpV.kn {l : List Wr.Up} {w w' : World} {v : Value} (h : CpV l w v) (k : Kn w w') : CpV l w' v := by
  obtain ⟨R, h1, h2, h3⟩ := h
  exact ⟨R, h1.kn k, fun x hx => (h2 x hx).kn k, h3⟩
def CpU (l : List Wr.Up) (w : World) (v : Value) : Prop := ∃ a n c, v = .slice a n c ∧ CpV l w (.slice a n c)
theorem CpU.below {l : List Wr.Up} {w w' : World} {v : Value} (h : CpU l w v) (hb : Below w.heap.size w w') : CpU l w' v := by
  obtain ⟨a, n, c, e, h⟩ := h
  exact ⟨a, n, c, e, h.kn (Kn.below hb)⟩
theorem cpu_of {q R : List Uv} {w w' : World} {v : Value} (h1 : URow w' w.heap.size v R) (h2 : ups R = ups q) (h3 : ∀ x, x ∈ R → UvP w.heap.size w' x) : CpU (ups q) w' v := by
  obtain ⟨a, c, rfl⟩ := own_slice h1
  exact ⟨a, _, c, rfl, R, own_ups h1, fun x hx => (h3 x hx).ok, h2⟩
def CpR (l m : List Wr.Up) (w : World) (v : Value) : Prop := ∃ a1 n1 c1 a2 n2 c2, v = .agg #[.slice a1 n1 c1, .slice a2 n2 c2] ∧ CpV l w (.slice a1 n1 c1) ∧ CpV m w (.slice a2 n2 c2)
theorem CpR.below {l m : List Wr.Up} {w w' : World} {v : Value} (h : CpR l m w v) (hb : Below w.heap.size w w') : CpR l m w' v := by
  obtain ⟨a1, n1, c1, a2, n2, c2, e, h, k⟩ := h
  exact ⟨a1, n1, c1, a2, n2, c2, e, h.kn (Kn.below hb), k.kn (Kn.below hb)⟩
def cpT (X : Nat) (ah : Option Addr) (nh ch : Nat) (aw : Option Addr) (nw cw : Nat) (lh lw : List Wr.Up) (tQ : Nat) (vQ : Value) (WQ : World) : Prop :=
  match tQ with
  | 3 => vQ = .pointer (some ⟨X, 0, none⟩)
  | 4 => vQ = .slice ah nh ch
  | 5 => CpU lh WQ vQ
  | 6 => vQ = .pointer (some ⟨X, 1, none⟩)
  | 7 => vQ = .slice aw nw cw
  | 8 => CpU lw WQ vQ
  | 9 => CpR lh lw WQ vQ
  | _ => True
theorem cpT_mono (X : Nat) (ah : Option Addr) (nh ch : Nat) (aw : Option Addr) (nw cw : Nat) (lh lw : List Wr.Up) (tQ : Nat) (vQ : Value) (W W' : World) (hb : Below W.heap.size W W') (h : cpT X ah nh ch aw nw cw lh lw tQ vQ W) : cpT X ah nh ch aw nw cw lh lw tQ vQ W' := by
  revert h
  unfold cpT
  split <;> (intro h; first | exact h | exact CpU.below h hb | exact CpR.below h hb)

set_option maxRecDepth 100000 in
set_option maxHeartbeats 2000000 in
theorem CopyRep_any (hq wq : List Uv) (hv wv : Value) (w : World) (hV : UpsV w hv hq) (wV : UpsV w wv wq) (hl : hq.length ≤ 1000 ∧ wq.length ≤ 1000) (hok : ∀ y, y ∈ hq ++ wq → UvOk w y ∧ Few y.u) :
    Calls Tryz.prog 97 #[repVal hv wv] w fun e w' => ∃ v, e = .returned v ∧ CpR (ups hq) (ups wq) w' v ∧ Below w.heap.size w w' := by
  obtain ⟨ah, ch, rfl, hch, hAt⟩ := id hV
  obtain ⟨aw, cw, rfl, hcw, wAt⟩ := id wV
  clear hch hAt hcw wAt
  have b0 := heap_alloc_new w (.cells #[.slice ah hq.length ch, .slice aw wq.length cw] 24)
  have g0 := new_below w (.cells #[.slice ah hq.length ch, .slice aw wq.length cw] 24)
  have b1 := heap_alloc_new (w.alloc (.cells #[.slice ah hq.length ch, .slice aw wq.length cw] 24)) (.cells #[.slice none 0 0, .slice none 0 0] 24)
  have g1 := new_below (w.alloc (.cells #[.slice ah hq.length ch, .slice aw wq.length cw] 24)) (.cells #[.slice none 0 0, .slice none 0 0] 24)
  have hsz : (w.alloc (.cells #[.slice ah hq.length ch, .slice aw wq.length cw] 24)).heap.size = w.heap.size + 1 := by simp
  rw [hsz] at b1
  go_enter Tryz.func97, Tryz.ntmps97
  go_upto_region 1 with fail
  have b0' := (g1.block _ (by rw [hsz]; exact Nat.lt_succ_self _)).trans b0
  have g2 := g0.trans (g1.mono g0.size)
  generalize (w.alloc (.cells #[.slice ah hq.length ch, .slice aw wq.length cw] 24)).alloc (.cells #[.slice none 0 0, .slice none 0 0] 24) = w1 at *
  have HX : Hid (∀ z, Below w1.heap.size w1 z → z.cell? ⟨w.heap.size, 0, none⟩ = some (.slice ah hq.length ch) ∧ z.cell? ⟨w.heap.size, 1, none⟩ = some (.slice aw wq.length cw)) := fun z hz => ⟨cell_below hz (by rw [Lib.cell_of_heap b0']; rfl), cell_below hz (by rw [Lib.cell_of_heap b0']; rfl)⟩
  have HG1 : Hid (Below w.heap.size w w1) := g2
  have HB1 : Hid (w1.heap[w.heap.size + 1]? = some (.cells #[.slice none 0 0, .slice none 0 0] 24)) := b1
  have HC1 : Hid (∀ z, Below w1.heap.size w1 z → Calls Tryz.prog 74 #[.slice ah hq.length ch] z fun e w' => ∃ (R : List Uv) (v' : Value), e = .returned v' ∧ URow w' z.heap.size v' R ∧ ups R = ups hq ∧ (∀ x, x ∈ R → UvP z.heap.size w' x) ∧ Below z.heap.size z w') := fun z hz => by
    have hk := g2.trans (hz.mono g2.size)
    exact Copies_any hq _ z (hV.kc (Kc.below hk)) (fun x hx => (hok x (List.mem_append_left _ hx)).1.below hk) (fun x hx => (hok x (List.mem_append_left _ hx)).2) hl.1
  have HC2 : Hid (∀ z, Below w1.heap.size w1 z → Calls Tryz.prog 74 #[.slice aw wq.length cw] z fun e w' => ∃ (R : List Uv) (v' : Value), e = .returned v' ∧ URow w' z.heap.size v' R ∧ ups R = ups wq ∧ (∀ x, x ∈ R → UvP z.heap.size w' x) ∧ Below z.heap.size z w') := fun z hz => by
    have hk := g2.trans (hz.mono g2.size)
    exact Copies_any wq _ z (wV.kc (Kc.below hk)) (fun x hx => (hok x (List.mem_append_right _ hx)).1.below hk) (fun x hx => (hok x (List.mem_append_right _ hx)).2) hl.2
  clear b0 g0 b1 g1 hsz b0' g2 hV wV hok hl
  refine wp_region_tail2 (cpT w.heap.size ah hq.length ch aw wq.length cw (ups hq) (ups wq)) 7 (by decide) (by kernel_rfl) (by kernel_rfl) (by kernel_rfl) (cpT_mono _ _ _ _ _ _ _ _ _) ?hop ?hend
  case hop =>
    refine AllOps.cons (fun a y h hpre => ?_) ?_
    · have e1 : a.eval (.tmp 1) = (.pointer (some ⟨w.heap.size, 0, none⟩) : Value) := h.old 1 (by kernel_rfl)
      refine opOk_val (v := .pointer (some ⟨w.heap.size, 0, none⟩)) (w' := y) (wanted_none rfl) ?_ (fun t ht => by cases ht; exact rfl) (Below.refl _ _)
      have ec : ∀ v, a.eval (.const v) = v := fun _ => rfl
      generalize a.eval = ev at *
      clear h hpre
      go_simp
    refine AllOps.cons (fun a y h hpre => ?_) ?_
    · have e3 : a.eval (.tmp 3) = (.pointer (some ⟨w.heap.size, 0, none⟩) : Value) := h.of 3 (by kernel_rfl)
      obtain ⟨x0, x1⟩ := HX.out y h.below
      refine opOk_val (v := .slice ah hq.length ch) (w' := y) (wanted_none rfl) ?_ (fun t ht => by cases ht; exact rfl) (Below.refl _ _)
      have ec : ∀ v, a.eval (.const v) = v := fun _ => rfl
      generalize a.eval = ev at *
      clear h hpre
      go_simp
    refine AllOps.cons (fun a y h hpre => ?_) ?_
    · have e4 : a.eval (.tmp 4) = (.slice ah hq.length ch : Value) := h.of 4 (by kernel_rfl)
      refine opOk_call (f := 74) (args := #[.slice ah hq.length ch]) (wanted_none rfl) ?_ ?_
      · have ec : ∀ v, a.eval (.const v) = v := fun _ => rfl
        have ef : ∀ f, a.eval (.func f) = .func (.func f) #[] #[] := fun _ => rfl
        generalize a.eval = ev at *
        clear h hpre
        go_simp
      · refine Calls.mono (HC1.out y h.below) ?_
        rintro _ y2 ⟨R, v, rfl, h1, h2, h3, hb2⟩
        exact ⟨_, rfl, fun t ht => by cases ht; exact cpu_of h1 h2 h3, hb2⟩
    refine AllOps.cons (fun a y h hpre => ?_) ?_
    · have e1 : a.eval (.tmp 1) = (.pointer (some ⟨w.heap.size, 0, none⟩) : Value) := h.old 1 (by kernel_rfl)
      refine opOk_val (v := .pointer (some ⟨w.heap.size, 1, none⟩)) (w' := y) (wanted_none rfl) ?_ (fun t ht => by cases ht; exact rfl) (Below.refl _ _)
      have ec : ∀ v, a.eval (.const v) = v := fun _ => rfl
      generalize a.eval = ev at *
      clear h hpre
      go_simp
    refine AllOps.cons (fun a y h hpre => ?_) ?_
    · have e6 : a.eval (.tmp 6) = (.pointer (some ⟨w.heap.size, 1, none⟩) : Value) := h.of 6 (by kernel_rfl)
      obtain ⟨x0, x1⟩ := HX.out y h.below
      refine opOk_val (v := .slice aw wq.length cw) (w' := y) (wanted_none rfl) ?_ (fun t ht => by cases ht; exact rfl) (Below.refl _ _)
      have ec : ∀ v, a.eval (.const v) = v := fun _ => rfl
      generalize a.eval = ev at *
      clear h hpre
      go_simp
    refine AllOps.cons (fun a y h hpre => ?_) ?_
    · have e7 : a.eval (.tmp 7) = (.slice aw wq.length cw : Value) := h.of 7 (by kernel_rfl)
      refine opOk_call (f := 74) (args := #[.slice aw wq.length cw]) (wanted_none rfl) ?_ ?_
      · have ec : ∀ v, a.eval (.const v) = v := fun _ => rfl
        have ef : ∀ f, a.eval (.func f) = .func (.func f) #[] #[] := fun _ => rfl
        generalize a.eval = ev at *
        clear h hpre
        go_simp
      · refine Calls.mono (HC2.out y h.below) ?_
        rintro _ y2 ⟨R, v, rfl, h1, h2, h3, hb2⟩
        exact ⟨_, rfl, fun t ht => by cases ht; exact cpu_of h1 h2 h3, hb2⟩
    refine AllOps.cons (fun a y h hpre => ?_) ?_
    · have t5 : CpU (ups hq) y (a.eval (.tmp 5)) := h.of 5 (by kernel_rfl)
      have t8 : CpU (ups wq) y (a.eval (.tmp 8)) := h.of 8 (by kernel_rfl)
      obtain ⟨d1, d2, d3, e5, h5⟩ := t5
      obtain ⟨d4, d5, d6, e8, h8⟩ := t8
      refine opOk_val (v := .agg #[.slice d1 d2 d3, .slice d4 d5 d6]) (w' := y) (wanted_none rfl) ?_ (fun t ht => by cases ht; exact ⟨_, _, _, _, _, _, rfl, h5, h8⟩) (Below.refl _ _)
      have ec : ∀ v, a.eval (.const v) = v := fun _ => rfl
      generalize a.eval = ev at *
      clear h hpre
      go_simp
    exact AllOps.nil
  rintro ⟨tm, df⟩ y hI _
  obtain ⟨d1, d2, d3, d4, d5, d6, e9, h5, h8⟩ : CpR (ups hq) (ups wq) y (Act.eval ⟨tm, df⟩ (.tmp 9)) := hI.all 6 _ 9 (by decide) rfl rfl
  have e2 : Act.eval ⟨tm, df⟩ (.tmp 2) = (.pointer (some ⟨w.heap.size + 1, 0, none⟩) : Value) := hI.still 2 (by decide)
  have hF := (hI.below.block _ (Array.getElem?_eq_some_iff.1 HB1.out).1).trans HB1.out
  have z0 : y.cell? ⟨w.heap.size + 1, 0, none⟩ = some (.slice none 0 0) := by rw [Lib.cell_of_heap hF]; rfl
  have y0 := Lib.frozen_of_heap hF 0
  have k1 : (y.setCell ⟨w.heap.size + 1, 0, none⟩ (.slice d1 d2 d3)).heap[w.heap.size + 1]? = some (.cells #[.slice d1 d2 d3, .slice none 0 0] 24) := by rw [Lib.heap_setCell_same hF]; rfl
  have z1 : (y.setCell ⟨w.heap.size + 1, 0, none⟩ (.slice d1 d2 d3)).cell? ⟨w.heap.size + 1, 1, none⟩ = some (.slice none 0 0) := by rw [Lib.cell_of_heap k1]; rfl
  have y1 := Lib.frozen_of_heap k1 1
  show wpOps Tryz.prog _ _ [7] _ _
  rw [wpOps_cons]
  refine wpOp_void rfl (wanted_none rfl) rfl (w' := two y (w.heap.size + 1) (.slice d1 d2 d3) (.slice d4 d5 d6)) ?_ ?_
  · unfold two
    generalize Act.eval ⟨tm, df⟩ = ev at *
    clear hI h5 h8
    go_simp
  have hk := two_kn (u := .slice d1 d2 d3) (v := .slice d4 d5 d6) hF
  have H5 : Hid _ := h5.kn hk
  have H8 : Hid _ := h8.kn hk
  have hh := two_heap (u := .slice d1 d2 d3) (v := .slice d4 d5 d6) hF
  have HB : Hid (Below w.heap.size w (two y (w.heap.size + 1) (.slice d1 d2 d3) (.slice d4 d5 d6))) := two_below (HG1.out.trans (hI.below.mono HG1.out.size)) (Nat.le_succ _) _ _
  have h2 : tm.getD 2 undef = .pointer (some ⟨w.heap.size + 1, 0, none⟩) := e2
  have hszE := hI.size
  have hstE := hI.still
  obtain rfl : df = [] := hI.defers
  clear hI h5 h8 hk z0 y0 k1 z1 y1 hF e9 e2 HX HC1 HC2 HB1
  generalize two y (w.heap.size + 1) (.slice d1 d2 d3) (.slice d4 d5 d6) = y3 at *
  have t0 : y3.cell? ⟨w.heap.size + 1, 0, none⟩ = some (.slice d1 d2 d3) := by rw [Lib.cell_of_heap hh]; rfl
  have t1 : y3.cell? ⟨w.heap.size + 1, 1, none⟩ = some (.slice d4 d5 d6) := by rw [Lib.cell_of_heap hh]; rfl
  clear h2
  show Exit.then _ _ Exit.normal ⟨tm, []⟩ y3
  have hF8 := tmps_fold [3, 4, 5, 6, 7, 8, 9] tm _ hszE hstE
  clear hszE hstE
  simp only [List.foldl_cons, List.foldl_nil] at hF8
  generalize tm.getD 3 undef = x3 at hF8
  generalize tm.getD 4 undef = x4 at hF8
  generalize tm.getD 5 undef = x5 at hF8
  generalize tm.getD 6 undef = x6 at hF8
  generalize tm.getD 7 undef = x7 at hF8
  generalize tm.getD 8 undef = x8 at hF8
  generalize tm.getD 9 undef = x9 at hF8
  simp only [List.setIfInBounds_toArray, List.set_cons_zero, List.set_cons_succ] at hF8
  subst hF8
  go_wp2_with fail
  exact bodyPost_ret (v := .agg #[.slice d1 d2 d3, .slice d4 d5 d6]) (by simp [results, Tryz.results97, go_sem, t0, t1]) rfl ⟨_, rfl, ⟨_, _, _, _, _, _, rfl, H5.out, H8.out⟩, HB.out⟩
end Go.Proofs.YtmfaodapofamfaaGreat

/- told: a replica with what another one answers to its heads. -/
namespace Go.Proofs.YtmfaodapofamfaaGreat
open Go.RowKit

theorem add_fit {all : List Wr.Up} (hf : Fair all) (v1 v2 : Value) (x : Uv) (w : World) (h : RepI all w v1 v2) (hx : UvOk w x) (hc : Wr.check x.u = 0) (hl : (Dg.more all x.u).length ≤ 200) :
    Calls Tryz.prog 6 #[.agg #[v1, v2], uvVal x] w fun e w' => ∃ v, e = .returned v ∧ AdN (Dg.more all x.u) w' v ∧ Below w.heap.size w w' := by
  cases hh : Dg.hasU all x.u.id with
  | true =>
    have e : Dg.more all x.u = all := by unfold Dg.more; rw [hh]; rfl
    rw [e]
    exact add_same hf v1 v2 x w h hx hc hh
  | false =>
    have e : (Dg.more all x.u).length = all.length + 1 := by unfold Dg.more; rw [hh]; simp
    exact add_more hf (by omega) v1 v2 x w h hx hc
theorem add_over {all : List Wr.Up} (hf : Fair all) (v1 v2 : Value) (x : Uv) (w : World) (h : RepI all w v1 v2) (hx : UvOk w x) (hc : Wr.check x.u = 0) (hl : 200 < (Dg.more all x.u).length) :
    Calls Tryz.prog 6 #[.agg #[v1, v2], uvVal x] w fun e w' => ∃ a1 n1 c1 a2 n2 c2, e = .returned (.tuple #[.agg #[.slice a1 n1 c1, .slice a2 n2 c2], .int .i64 2]) ∧ Below w.heap.size w w' := by
  obtain ⟨hq, wq, h1, h2, h3, h4, o, hn⟩ := h.ok hf
  refine (Add_any hq wq v1 v2 x w h1 h2 (by have := hf.len; omega) h3 hx).mono ?_
  rintro e w' ⟨u1, u2, R1, R2, rfl, k1, k2, k3, k4, _, k6⟩
  have hz : Dg.addErr (ups hq) (ups wq) x.u = 2 := by
    unfold Dg.addErr
    have hc0 : Dg.check (ups hq) (ups wq) = 0 := Dg.check_ok.mpr o
    have hm : (Dg.more (ups hq ++ ups wq) x.u).length = (Dg.more all x.u).length := by
      unfold Dg.more
      rw [Dg.hasU_congr (m := all) (fun v => by rw [List.mem_append]; exact h4.parts.mem v)]
      split
      · rw [List.length_append, ups_length, ups_length, hn]
      · rw [List.length_append, List.length_append, List.length_append, ups_length, ups_length, hn]
    rw [if_neg (fun h => h hc0), if_neg (fun h => h hc), if_pos (by omega)]
  rw [hz]
  obtain ⟨a1, c1, rfl, hj1⟩ := id k1
  obtain ⟨a2, c2, rfl, hj2⟩ := id k2
  exact ⟨a1, _, c1, a2, _, c2, rfl, k6⟩
theorem Dg.more_le (l : List Wr.Up) (u : Wr.Up) : l.length ≤ (Dg.more l u).length := by
  unfold Dg.more
  split
  · exact Nat.le_refl _
  · rw [List.length_append]; omega
theorem Dg.mores_le : ∀ (us l : List Wr.Up), l.length ≤ (Dg.mores l us).length
  | [], _ => Nat.le_refl _
  | u :: us, l => Nat.le_trans (Dg.more_le l u) (Dg.mores_le us (Dg.more l u))
theorem Dg.mores_app (l us vs : List Wr.Up) : Dg.mores l (us ++ vs) = Dg.mores (Dg.mores l us) vs := List.foldl_append
def Gs.tellErr (l us : List Wr.Up) : Int := if 200 < (Dg.mores l us).length then 2 else 0
theorem Gs.tell_over {l us vs : List Wr.Up} (h : 200 < (Dg.mores l us).length) : Gs.tellErr l (us ++ vs) = 2 := by
  unfold Gs.tellErr
  rw [Dg.mores_app, if_pos (Nat.lt_of_lt_of_le h (Dg.mores_le _ _))]
/-- A replica, or nothing where there is an error. -/
def ReE (M : List Wr.Up) (E : Int) (w : World) (v1 v2 : Value) : Prop := (E = 0 → RepI M w v1 v2) ∧ (E ≠ 0 → v1 = .slice none 0 0 ∧ v2 = .slice none 0 0)
theorem ReE.kn {M : List Wr.Up} {E : Int} {w w' : World} {v1 v2 : Value} (h : ReE M E w v1 v2) (k : Kn w w') : ReE M E w' v1 v2 := ⟨fun e => (h.1 e).kn k, h.2⟩

set_option maxRecDepth 100000 in
set_option maxHeartbeats 4000000 in
theorem told_any (hq wq ph pw : List Uv) (hv wv jv kv : Value) (w : World) (hV : UpsV w hv hq) (wV : UpsV w wv wq) (jV : UpsV w jv ph) (kV : UpsV w kv pw) (hok : ∀ y, y ∈ hq ++ wq → UvOk w y) (jok : ∀ y, y ∈ ph ++ pw → UvOk w y) (o1 : Dg.Ok (ups hq) (ups wq)) (o2 : Dg.Ok (ups ph) (ups pw)) :
    Calls Tryz.prog 60 #[.agg #[hv, wv], .agg #[jv, kv]] w fun e w' => ∃ a1 n1 c1 a2 n2 c2, e = .returned (.tuple #[.agg #[.slice a1 n1 c1, .slice a2 n2 c2], .int .i64 (Gs.tellErr (ups hq ++ ups wq) (Gs.missing (ups ph) (Dg.heads (ups hq))))]) ∧ ReE (Dg.mores (ups hq ++ ups wq) (Gs.missing (ups ph) (Dg.heads (ups hq)))) (Gs.tellErr (ups hq ++ ups wq) (Gs.missing (ups ph) (Dg.heads (ups hq)))) w' (.slice a1 n1 c1) (.slice a2 n2 c2) ∧ Below w.heap.size w w' := by
  obtain ⟨ah, ch, rfl, q1, q2⟩ := id hV
  obtain ⟨aw, cw, rfl, q3, q4⟩ := id wV
  obtain ⟨aj, cj, rfl, q5, q6⟩ := id jV
  obtain ⟨ak, ck, rfl, q7, q8⟩ := id kV
  clear q1 q2 q3 q4 q5 q6 q7 q8
  have hf1 := o1.few
  have hf2 := o2.few
  rw [ups_length, ups_length] at hf1 hf2
  have HR : Hid (∀ z, Kn w z → UpsV z (.slice ah hq.length ch) hq ∧ UpsV z (.slice aw wq.length cw) wq ∧ (∀ y, y ∈ hq ++ wq → UvOk z y)) := fun z hz => ⟨hV.kn hz, wV.kn hz, fun y hy => (hok y hy).kn hz⟩
  have HJ : Hid (∀ z, Kn w z → UpsV z (.slice aj ph.length cj) ph ∧ UpsV z (.slice ak pw.length ck) pw ∧ (∀ y, y ∈ ph ++ pw → UvOk z y)) := fun z hz => ⟨jV.kn hz, kV.kn hz, fun y hy => (jok y hy).kn hz⟩
  have HO1 : Hid (Dg.Ok (ups hq) (ups wq)) := o1
  have HO2 : Hid (Dg.Ok (ups ph) (ups pw)) := o2
  have H7 : Hid (∀ z, Kn w z → Calls Tryz.prog 7 #[.agg #[.slice ah hq.length ch, .slice aw wq.length cw]] z fun e w' => ∃ v', e = .returned (.tuple #[v', .int .i64 0]) ∧ IdsV w' v' (Dg.heads (ups hq)) ∧ Below z.heap.size z w') := fun z hz => by
    obtain ⟨k1, k2, k3⟩ := HR.out z hz
    refine (Heads_any hq wq _ _ z k1 k2 (by omega) k3).mono ?_
    rintro e w' ⟨v', rfl, h1, h2⟩
    rw [Dg.check_ok.mpr HO1.out] at h1 ⊢
    exact ⟨v', rfl, h1, h2⟩
  have H21 : Hid (∀ z iv, Kn w z → IdsV z iv (Dg.heads (ups hq)) → Calls Tryz.prog 21 #[.agg #[.slice aj ph.length cj, .slice ak pw.length ck], iv] z fun e w' => ∃ (v : Value) (R : List Uv), e = .returned (.tuple #[v, .int .i64 0]) ∧ UpsV w' v R ∧ (∀ x, x ∈ R → UvOk w' x) ∧ ups R = Gs.missing (ups ph) (Dg.heads (ups hq)) ∧ Below z.heap.size z w') := fun z iv hz hi => by
    obtain ⟨k1, k2, k3⟩ := HJ.out z hz
    have hle := heads_le hq
    refine (Missing_any ph pw _ _ (Dg.heads (ups hq)) iv z k1 k2 (by omega) k3 hi (by omega)).mono ?_
    rintro e w' ⟨v, R, rfl, h1, h2, h3, h4⟩
    have he : Gs.missErr (ups ph) (ups pw) (Dg.heads (ups hq)) = 0 := by
      unfold Gs.missErr
      rw [if_neg (fun h => h (Dg.check_ok.mpr HO2.out)), if_neg (by omega)]
    unfold Gs.missOut at h3
    rw [if_pos he] at h3
    rw [he]
    exact ⟨v, R, rfl, h1, h2, h3, h4⟩
  have H97 : Hid (∀ z, Kn w z → Calls Tryz.prog 97 #[.agg #[.slice ah hq.length ch, .slice aw wq.length cw]] z fun e w' => ∃ v, e = .returned v ∧ CpR (ups hq) (ups wq) w' v ∧ Below z.heap.size z w') := fun z hz => by
    obtain ⟨k1, k2, k3⟩ := HR.out z hz
    exact CopyRep_any hq wq _ _ z k1 k2 (by omega) (fun y hy => ⟨k3 y hy, few_of (HO1.out.each y.u (by rw [← ups_append]; exact List.mem_map_of_mem hy))⟩)
  have HMC : Hid (∀ u, u ∈ Gs.missing (ups ph) (Dg.heads (ups hq)) → Wr.check u = 0) := fun u hu => HO2.out.each u (List.mem_append_left _ (List.mem_filter.mp hu).1)
  clear hV wV jV kV hok jok o1 o2
  have HUL : Hid ((Gs.missing (ups ph) (Dg.heads (ups hq))).length ≤ 200) := by
    show List.length _ ≤ 200
    have h2 := List.length_filter_le (fun u => !Gs.knows (ups ph) (Dg.heads (ups hq)) u) (ups ph)
    rw [ups_length] at h2
    unfold Gs.missing
    omega
  obtain ⟨us, hus⟩ : ∃ us, us = Gs.missing (ups ph) (Dg.heads (ups hq)) := ⟨_, rfl⟩
  rw [← hus] at H21 HMC HUL ⊢
  clear hus
  have hu0 := heap_alloc_new w (.cells #[.slice ah hq.length ch, .slice aw wq.length cw] 24)
  have hg0 := new_below w (.cells #[.slice ah hq.length ch, .slice aw wq.length cw] 24)
  have hz0 : (w.alloc (.cells #[.slice ah hq.length ch, .slice aw wq.length cw] 24)).heap.size = w.heap.size + 1 := by simp
  have hu1 := heap_alloc_new (w.alloc (.cells #[.slice ah hq.length ch, .slice aw wq.length cw] 24)) (.cells #[.slice aj ph.length cj, .slice ak pw.length ck] 24)
  have hg1 := new_below (w.alloc (.cells #[.slice ah hq.length ch, .slice aw wq.length cw] 24)) (.cells #[.slice aj ph.length cj, .slice ak pw.length ck] 24)
  rw [hz0] at hu1
  have hz1 : ((w.alloc (.cells #[.slice ah hq.length ch, .slice aw wq.length cw] 24)).alloc (.cells #[.slice aj ph.length cj, .slice ak pw.length ck] 24)).heap.size = w.heap.size + 2 := by simp
  have hu2 := heap_alloc_new ((w.alloc (.cells #[.slice ah hq.length ch, .slice aw wq.length cw] 24)).alloc (.cells #[.slice aj ph.length cj, .slice ak pw.length ck] 24)) (.cells #[.slice none 0 0, .slice none 0 0] 24)
  have hg2 := new_below ((w.alloc (.cells #[.slice ah hq.length ch, .slice aw wq.length cw] 24)).alloc (.cells #[.slice aj ph.length cj, .slice ak pw.length ck] 24)) (.cells #[.slice none 0 0, .slice none 0 0] 24)
  rw [hz1] at hu2
  have hu0' := (hg2.block _ (by rw [hz1]; omega)).trans ((hg1.block _ (by rw [hz0]; omega)).trans hu0)
  have hu1' := (hg2.block _ (by rw [hz1]; omega)).trans hu1
  have hgg := (hg0.trans (hg1.mono hg0.size)).trans (hg2.mono (hg0.trans (hg1.mono hg0.size)).size)
  go_enter Tryz.func60, Tryz.ntmps60
  go_upto_region 1 with fail
  clear hu0 hg0 hz0 hu1 hg1 hz1 hg2
  generalize ((w.alloc (.cells #[.slice ah hq.length ch, .slice aw wq.length cw] 24)).alloc (.cells #[.slice aj ph.length cj, .slice ak pw.length ck] 24)).alloc (.cells #[.slice none 0 0, .slice none 0 0] 24) = w1 at *
  have HBX : Hid (∀ z, Below w1.heap.size w1 z → z.heap[w.heap.size]? = some (.cells #[.slice ah hq.length ch, .slice aw wq.length cw] 24) ∧ z.heap[w.heap.size + 1]? = some (.cells #[.slice aj ph.length cj, .slice ak pw.length ck] 24) ∧ z.heap[w.heap.size + 2]? = some (.cells #[.slice none 0 0, .slice none 0 0] 24)) := fun z hz => ⟨(hz.block _ (Array.getElem?_eq_some_iff.1 hu0').1).trans hu0', (hz.block _ (Array.getElem?_eq_some_iff.1 hu1').1).trans hu1', (hz.block _ (Array.getElem?_eq_some_iff.1 hu2).1).trans hu2⟩
  have HG1 : Hid (Below w.heap.size w w1) := hgg
  clear hu0' hu1' hu2 hgg
  have c0 : w1.cell? ⟨w.heap.size, 0, none⟩ = some (.slice ah hq.length ch) := by rw [Lib.cell_of_heap (HBX.out w1 (Below.refl _ _)).1]; rfl
  have c1 : w1.cell? ⟨w.heap.size, 1, none⟩ = some (.slice aw wq.length cw) := by rw [Lib.cell_of_heap (HBX.out w1 (Below.refl _ _)).1]; rfl
  go_upto_region 4 with (go_at_call 7; refine Calls.mono (H7.out w1 (Kn.below HG1.out)) ?_; rintro _ w2 ⟨v', rfl, hI, hb2⟩; obtain ⟨i1, i2, i3, rfl, hI⟩ := ids_of hI)
  have HI : Hid (IdsV w2 (.slice i1 i2 i3) (Dg.heads (ups hq))) := hI
  have HB2 : Hid (Below w1.heap.size w1 w2) := hb2
  have HG2 : Hid (Below w.heap.size w w2) := HG1.out.trans (hb2.mono HG1.out.size)
  clear hI hb2 c0 c1 H7
  have c0 : w2.cell? ⟨w.heap.size + 1, 0, none⟩ = some (.slice aj ph.length cj) := by rw [Lib.cell_of_heap (HBX.out w2 HB2.out).2.1]; rfl
  have c1 : w2.cell? ⟨w.heap.size + 1, 1, none⟩ = some (.slice ak pw.length ck) := by rw [Lib.cell_of_heap (HBX.out w2 HB2.out).2.1]; rfl
  go_upto_region 7 with (go_at_call 21; refine Calls.mono (H21.out w2 _ (Kn.below HG2.out) HI.out) ?_; rintro _ w3 ⟨v, R, rfl, hRV, hRO, hRU, hb3⟩; obtain ⟨ar, cr, rfl, hj⟩ := id hRV; clear hj)
  have HB3 : Hid (Below w1.heap.size w1 w3) := HB2.out.trans (hb3.mono HB2.out.size)
  have HG3 : Hid (Below w.heap.size w w3) := HG1.out.trans (HB3.out.mono HG1.out.size)
  have HRV : Hid (UpsV w3 (.slice ar R.length cr) R) := hRV
  have HRO : Hid (∀ x, x ∈ R → UvOk w3 x) := hRO
  have HRU : Hid (ups R = us) := hRU
  clear hRV hRO hRU hb3 c0 c1 H21 HB2 HG2 HI
  have c0 : w3.cell? ⟨w.heap.size, 0, none⟩ = some (.slice ah hq.length ch) := by rw [Lib.cell_of_heap (HBX.out w3 HB3.out).1]; rfl
  have c1 : w3.cell? ⟨w.heap.size, 1, none⟩ = some (.slice aw wq.length cw) := by rw [Lib.cell_of_heap (HBX.out w3 HB3.out).1]; rfl
  go_wp2_with fail
  refine Calls.mono (H97.out w3 (Kn.below HG3.out)) ?_
  rintro _ w4 ⟨v, rfl, ⟨d1, d2, d3, d4, d5, d6, rfl, hc1, hc2⟩, hb4⟩
  have hB4 : Below w1.heap.size w1 w4 := HB3.out.trans (hb4.mono HB3.out.size)
  have hF := (HBX.out w4 hB4).1
  have z0 : w4.cell? ⟨w.heap.size, 0, none⟩ = some (.slice ah hq.length ch) := by rw [Lib.cell_of_heap hF]; rfl
  have y0 := Lib.frozen_of_heap hF 0
  have k1 : (w4.setCell ⟨w.heap.size, 0, none⟩ (.slice d1 d2 d3)).heap[w.heap.size]? = some (.cells #[.slice d1 d2 d3, .slice aw wq.length cw] 24) := by rw [Lib.heap_setCell_same hF]; rfl
  have z1 : (w4.setCell ⟨w.heap.size, 0, none⟩ (.slice d1 d2 d3)).cell? ⟨w.heap.size, 1, none⟩ = some (.slice aw wq.length cw) := by rw [Lib.cell_of_heap k1]; rfl
  have y1 := Lib.frozen_of_heap k1 1
  have hkn := two_kn (u := .slice d1 d2 d3) (v := .slice d4 d5 d6) hF
  have HRB4 : Hid (Rb w.heap.size w3 (two w4 w.heap.size (.slice d1 d2 d3) (.slice d4 d5 d6))) := (Rb.of hb4 HG3.out.size).trans (Rb.two hF (Nat.le_refl _))
  have HBX4 : Hid (BoxI (Dg.mores (ups hq ++ ups wq) []) (two w4 w.heap.size (.slice d1 d2 d3) (.slice d4 d5 d6)) w.heap.size) := by
    obtain ⟨R1, r1, r2, r3⟩ := hc1.kn hkn
    obtain ⟨R2, s1, s2, s3⟩ := hc2.kn hkn
    refine ⟨_, _, _, _, _, _, two_heap hF, R1, R2, r1, s1, (fun y hy => ?_), ?_⟩
    · rcases List.mem_append.mp hy with h | h
      · exact r2 y h
      · exact s2 y h
    · rw [r3, s3]
      exact HO1.out.is
  have HNN : Hid ((two w4 w.heap.size (.slice d1 d2 d3) (.slice d4 d5 d6)).heap[w.heap.size + 2]? = some (.cells #[.slice none 0 0, .slice none 0 0] 24)) := (two_other (by omega)).trans (HBX.out w4 hB4).2.2
  clear hc1 hc2 hb4 hB4 hF k1 hkn c0 c1 H97
  go_upto_region 8 with fail
  change Code.wp _ _ _ _ (two _ _ _ _)
  clear z0 y0 z1 y1
  generalize two w4 w.heap.size (.slice d1 d2 d3) (.slice d4 d5 d6) = w5 at *
  have HFR : Hid (∀ k, (Dg.mores (ups hq ++ ups wq) (ups (R.take k))).length ≤ 200 → Fair (Dg.mores (ups hq ++ ups wq) (ups (R.take k)))) := fun k hk => by
    refine ⟨Dg.mores_nodup HO1.out.nd, Dg.mores_check HO1.out.each (fun u hu => ?_), hk⟩
    obtain ⟨y, hy, rfl⟩ := List.mem_map.mp hu
    exact HMC.out y.u (by rw [← HRU.out]; exact List.mem_map_of_mem (List.mem_of_mem_take hy))
  have HCH : Hid (∀ x, x ∈ R → Wr.check x.u = 0) := fun x hx => HMC.out x.u (by rw [← HRU.out]; exact List.mem_map_of_mem hx)
  have HL0 : Hid (((ups hq ++ ups wq)).length ≤ 200) := by show List.length _ ≤ 200; rw [List.length_append, ups_length, ups_length]; exact hf1
  have hRl : R.length ≤ 200 := by
    have h1 := congrArg List.length HRU.out
    rw [ups_length] at h1
    rw [h1]
    exact HUL.out
  go_wp2_with fail
  go_loopw [34] (fun iv wr => ∃ k : Nat, k ≤ R.length ∧ iv = .int .i64 k ∧ Hid (BoxI (Dg.mores (ups hq ++ ups wq) (ups (R.take k))) wr w.heap.size) ∧ Hid ((Dg.mores (ups hq ++ ups wq) (ups (R.take k))).length ≤ 200) ∧ Hid (Rb w.heap.size w3 wr) ∧ Hid (wr.heap[w.heap.size + 2]? = some (.cells #[.slice none 0 0, .slice none 0 0] 24))) (fun iv _ => R.length - (intOf iv).toNat)
  case atStart => exact ⟨0, Nat.zero_le _, rfl, HBX4.out, HL0.out, HRB4.out, HNN.out⟩
  case round =>
    clear HBX4 HRB4 HNN HL0
    obtain ⟨k, hk, rfl, HA, HLN, HRB, HNN⟩ := hrel
    by_cases hlt : k < R.length
    · have g1 : decide (k < R.length) = true := decide_eq_true hlt
      have g1' : decide ((k : Int) < (R.length : Int)) = true := decide_eq_true (by omega)
      have HSA : Hid (Dg.mores (ups hq ++ ups wq) (ups (R.take (k + 1))) = Dg.more (Dg.mores (ups hq ++ ups wq) (ups (R.take k))) (uvD R k).u) := by show _ = _; rw [uvD_take R k hlt, ups_append]; exact Dg.mores_snoc _ _ _
      have HOV : Hid (200 < (Dg.mores (ups hq ++ ups wq) (ups (R.take (k + 1)))).length → Gs.tellErr (ups hq ++ ups wq) us = 2) := fun h => by
        have e : us = ups (R.take (k + 1)) ++ ups (R.drop (k + 1)) := by rw [← HRU.out, ← ups_append, List.take_append_drop]
        rw [e]
        exact Gs.tell_over h
      have HF1 : Hid _ := HFR.out k HLN.out
      have HC1 : Hid (Wr.check (uvD R k).u = 0) := HCH.out _ (uvD_mem R k hlt)
      obtain ⟨ar', cr', er, _, hAA⟩ := HRV.out.kn HRB.out.2.1
      cases er
      obtain ⟨b, off, eb, p0, p1, p2, p3, p4⟩ := ups_at hAA k hlt
      have hxo := (HRO.out _ (uvD_mem R k hlt)).kn HRB.out.2.1
      clear hAA
      generalize Dg.mores (ups hq ++ ups wq) (ups (R.take k)) = M at *
      generalize uvD R k = x at *
      obtain ⟨b1, m1, f1, b2, m2, f2, b3, m3, f3, e1, e2, e3⟩ := hxo.forms
      have HX : Hid (UvOk wr x) := hxo
      clear hxo
      obtain ⟨⟨⟨va, vn⟩, ps, says, ts⟩, vp, vs, vt⟩ := x
      dsimp only at *
      subst e1 e2 e3
      subst eb
      have b6 := heap_alloc_new wr (.cells #[.int .i64 va, .int .i64 vn, .slice b1 m1 f1, .slice b2 m2 f2, .slice b3 m3 f3] 30)
      have g6 := new_below wr (.cells #[.int .i64 va, .int .i64 vn, .slice b1 m1 f1, .slice b2 m2 f2, .slice b3 m3 f3] 30)
      go_upto_region 11 with fail
      clear p0 p1 p2 p3 p4
      generalize wr.alloc (.cells #[.int .i64 va, .int .i64 vn, .slice b1 m1 f1, .slice b2 m2 f2, .slice b3 m3 f3] 30) = w6 at *
      have HA6 : Hid (BoxI M w6 w.heap.size) := HA.out.below g6
      have HRB6 : Hid (Rb w.heap.size w3 w6) := HRB.out.trans (Rb.of g6 (Nat.le_trans HG3.out.size HRB.out.1.size))
      have HNN6 : Hid (w6.heap[w.heap.size + 2]? = some (.cells #[.slice none 0 0, .slice none 0 0] 24)) := (g6.block _ (Array.getElem?_eq_some_iff.1 HNN.out).1).trans HNN.out
      have HX6 : Hid (UvOk w6 ⟨⟨⟨va, vn⟩, ps, says, ts⟩, .slice b1 m1 f1, .slice b2 m2 f2, .slice b3 m3 f3⟩) := HX.out.below g6
      have t0 : w6.cell? ⟨wr.heap.size, 0, none⟩ = some (.int .i64 va) := by rw [Lib.cell_of_heap b6]; rfl
      have t1 : w6.cell? ⟨wr.heap.size, 1, none⟩ = some (.int .i64 vn) := by rw [Lib.cell_of_heap b6]; rfl
      have t2 : w6.cell? ⟨wr.heap.size, 2, none⟩ = some (.slice b1 m1 f1) := by rw [Lib.cell_of_heap b6]; rfl
      have t3 : w6.cell? ⟨wr.heap.size, 3, none⟩ = some (.slice b2 m2 f2) := by rw [Lib.cell_of_heap b6]; rfl
      have t4 : w6.cell? ⟨wr.heap.size, 4, none⟩ = some (.slice b3 m3 f3) := by rw [Lib.cell_of_heap b6]; rfl
      obtain ⟨r1, r2, r3, r4, r5, r6, hF6, hRep⟩ := HA6.out
      have c0 : w6.cell? ⟨w.heap.size, 0, none⟩ = some (.slice r1 r2 r3) := by rw [Lib.cell_of_heap hF6]; rfl
      have c1 : w6.cell? ⟨w.heap.size, 1, none⟩ = some (.slice r4 r5 r6) := by rw [Lib.cell_of_heap hF6]; rfl
      have hs6 : w.heap.size ≤ w6.heap.size := Nat.le_trans HG3.out.size HRB6.out.1.size
      clear b6 g6 HA HRB HNN HX
      by_cases hov : (Dg.more M ⟨⟨va, vn⟩, ps, says, ts⟩).length ≤ 200
      · have HAD : Hid _ := add_fit HF1.out _ _ ⟨⟨⟨va, vn⟩, ps, says, ts⟩, .slice b1 m1 f1, .slice b2 m2 f2, .slice b3 m3 f3⟩ w6 hRep HX6.out HC1.out hov
        go_wp2_with fail
        refine Calls.mono HAD.out ?_
        rintro _ w7 ⟨v, rfl, ⟨d1, d2, d3, d4, d5, d6, rfl, hrn⟩, hb7⟩
        have hF := (hb7.block _ (Array.getElem?_eq_some_iff.1 hF6).1).trans hF6
        have z0 : w7.cell? ⟨w.heap.size, 0, none⟩ = some (.slice r1 r2 r3) := by rw [Lib.cell_of_heap hF]; rfl
        have y0 := Lib.frozen_of_heap hF 0
        have k1 : (w7.setCell ⟨w.heap.size, 0, none⟩ (.slice d1 d2 d3)).heap[w.heap.size]? = some (.cells #[.slice d1 d2 d3, .slice r4 r5 r6] 24) := by rw [Lib.heap_setCell_same hF]; rfl
        have z1 : (w7.setCell ⟨w.heap.size, 0, none⟩ (.slice d1 d2 d3)).cell? ⟨w.heap.size, 1, none⟩ = some (.slice r4 r5 r6) := by rw [Lib.cell_of_heap k1]; rfl
        have y1 := Lib.frozen_of_heap k1 1
        have hkn := two_kn (u := .slice d1 d2 d3) (v := .slice d4 d5 d6) hF
        have HN1 : Hid (BoxI (Dg.more M ⟨⟨va, vn⟩, ps, says, ts⟩) (two w7 w.heap.size (.slice d1 d2 d3) (.slice d4 d5 d6)) w.heap.size) := ⟨_, _, _, _, _, _, two_heap hF, hrn.kn hkn⟩
        have HN2 : Hid (Rb w.heap.size w3 (two w7 w.heap.size (.slice d1 d2 d3) (.slice d4 d5 d6))) := (HRB6.out.trans (Rb.of hb7 hs6)).trans (Rb.two hF (Nat.le_refl _))
        have HN3 : Hid ((two w7 w.heap.size (.slice d1 d2 d3) (.slice d4 d5 d6)).heap[w.heap.size + 2]? = some (.cells #[.slice none 0 0, .slice none 0 0] 24)) := (two_other (by omega)).trans ((hb7.block _ (Array.getElem?_eq_some_iff.1 HNN6.out).1).trans HNN6.out)
        clear hkn k1 hF hF6 hRep hrn hb7 HAD t0 t1 t2 t3 t4 c0 c1 HNN6 HRB6 HA6 HX6 HOV
        rw [← HSA.out] at HN1 hov
        go_upto_region 12 with fail
        change Code.wp _ _ _ _ (two _ _ _ _)
        clear z0 y0 z1 y1
        generalize two w7 w.heap.size (.slice d1 d2 d3) (.slice d4 d5 d6) = w8 at *
        have HOL : Hid ((Dg.mores (ups hq ++ ups wq) (ups (R.take (k + 1)))).length ≤ 200) := hov
        clear hov HSA
        go_wp2_with fail
        go_roundw
        case rel => exact ⟨k + 1, hlt, by go_num, HN1.out, HOL.out, HN2.out, HN3.out⟩
        case measure => simp [intOf]; omega
      · have HAD : Hid _ := add_over HF1.out _ _ ⟨⟨⟨va, vn⟩, ps, says, ts⟩, .slice b1 m1 f1, .slice b2 m2 f2, .slice b3 m3 f3⟩ w6 hRep HX6.out HC1.out (Nat.lt_of_not_le hov)
        have HE2 : Hid (Gs.tellErr (ups hq ++ ups wq) us = 2) := HOV.out (by rw [HSA.out]; exact Nat.lt_of_not_le hov)
        go_wp2_with fail
        refine Calls.mono HAD.out ?_
        rintro _ w7 ⟨d1, d2, d3, d4, d5, d6, rfl, hb7⟩
        have hF := (hb7.block _ (Array.getElem?_eq_some_iff.1 hF6).1).trans hF6
        have z0 : w7.cell? ⟨w.heap.size, 0, none⟩ = some (.slice r1 r2 r3) := by rw [Lib.cell_of_heap hF]; rfl
        have y0 := Lib.frozen_of_heap hF 0
        have k1 : (w7.setCell ⟨w.heap.size, 0, none⟩ (.slice d1 d2 d3)).heap[w.heap.size]? = some (.cells #[.slice d1 d2 d3, .slice r4 r5 r6] 24) := by rw [Lib.heap_setCell_same hF]; rfl
        have z1 : (w7.setCell ⟨w.heap.size, 0, none⟩ (.slice d1 d2 d3)).cell? ⟨w.heap.size, 1, none⟩ = some (.slice r4 r5 r6) := by rw [Lib.cell_of_heap k1]; rfl
        have y1 := Lib.frozen_of_heap k1 1
        have HN2 : Hid (Rb w.heap.size w3 (two w7 w.heap.size (.slice d1 d2 d3) (.slice d4 d5 d6))) := (HRB6.out.trans (Rb.of hb7 hs6)).trans (Rb.two hF (Nat.le_refl _))
        have HN3 : Hid ((two w7 w.heap.size (.slice d1 d2 d3) (.slice d4 d5 d6)).heap[w.heap.size + 2]? = some (.cells #[.slice none 0 0, .slice none 0 0] 24)) := (two_other (by omega)).trans ((hb7.block _ (Array.getElem?_eq_some_iff.1 HNN6.out).1).trans HNN6.out)
        clear k1 hF hF6 hRep hb7 HAD t0 t1 t2 t3 t4 c0 c1 HNN6 HRB6 HA6 HX6 HOV hov HSA
        go_upto_region 12 with fail
        change Code.wp _ _ _ _ (two _ _ _ _)
        clear z0 y0 z1 y1
        generalize two w7 w.heap.size (.slice d1 d2 d3) (.slice d4 d5 d6) = w8 at *
        have hF := HN3.out
        have z0 : w8.cell? ⟨w.heap.size + 2, 0, none⟩ = some (.slice none 0 0) := by rw [Lib.cell_of_heap hF]; rfl
        have y0 := Lib.frozen_of_heap hF 0
        have k1 : (w8.setCell ⟨w.heap.size + 2, 0, none⟩ (.slice none 0 0)).heap[w.heap.size + 2]? = some (.cells #[.slice none 0 0, .slice none 0 0] 24) := by rw [Lib.heap_setCell_same hF]; rfl
        have z1 : (w8.setCell ⟨w.heap.size + 2, 0, none⟩ (.slice none 0 0)).cell? ⟨w.heap.size + 2, 1, none⟩ = some (.slice none 0 0) := by rw [Lib.cell_of_heap k1]; rfl
        have y1 := Lib.frozen_of_heap k1 1
        have HH9 : Hid ((two w8 (w.heap.size + 2) (.slice none 0 0) (.slice none 0 0)).heap[w.heap.size + 2]? = some (.cells #[.slice none 0 0, .slice none 0 0] 24)) := two_heap hF
        have HB9 : Hid (Below w.heap.size w (two w8 (w.heap.size + 2) (.slice none 0 0) (.slice none 0 0))) := two_below (HG3.out.trans HN2.out.1) (by omega) _ _
        clear k1 hF
        go_wp2_with fail
        clear z0 y0 z1 y1
        change bodyPost _ _ _ _ _ (two _ _ _ _)
        generalize two w8 (w.heap.size + 2) (.slice none 0 0) (.slice none 0 0) = w9 at *
        have t0 : w9.cell? ⟨w.heap.size + 2, 0, none⟩ = some (.slice none 0 0) := by rw [Lib.cell_of_heap HH9.out]; rfl
        have t1 : w9.cell? ⟨w.heap.size + 2, 1, none⟩ = some (.slice none 0 0) := by rw [Lib.cell_of_heap HH9.out]; rfl
        rw [HE2.out]
        exact bodyPost_ret (v := .tuple #[.agg #[.slice none 0 0, .slice none 0 0], .int .i64 2]) (by simp [results, Tryz.results60, go_sem, t0, t1]) rfl ⟨none, 0, 0, none, 0, 0, rfl, ⟨(fun h => absurd h (by decide)), fun _ => ⟨rfl, rfl⟩⟩, HB9.out⟩
    · have g1 : decide (k < R.length) = false := decide_eq_false hlt
      have g1' : decide ((k : Int) < (R.length : Int)) = false := decide_eq_false (by omega)
      have e1 : R.take k = R := List.take_of_length_le (by omega)
      rw [e1, HRU.out] at HA HLN
      have HE0 : Hid (Gs.tellErr (ups hq ++ ups wq) us = 0) := by show _ = _; unfold Gs.tellErr; rw [if_neg (by have := HLN.out; omega)]
      obtain ⟨d1, d2, d3, d4, d5, d6, hFA, hRep⟩ := HA.out
      have c0 : wr.cell? ⟨w.heap.size, 0, none⟩ = some (.slice d1 d2 d3) := by rw [Lib.cell_of_heap hFA]; rfl
      have c1 : wr.cell? ⟨w.heap.size, 1, none⟩ = some (.slice d4 d5 d6) := by rw [Lib.cell_of_heap hFA]; rfl
      have hF := HNN.out
      have z0 : wr.cell? ⟨w.heap.size + 2, 0, none⟩ = some (.slice none 0 0) := by rw [Lib.cell_of_heap hF]; rfl
      have y0 := Lib.frozen_of_heap hF 0
      have k1 : (wr.setCell ⟨w.heap.size + 2, 0, none⟩ (.slice d1 d2 d3)).heap[w.heap.size + 2]? = some (.cells #[.slice d1 d2 d3, .slice none 0 0] 24) := by rw [Lib.heap_setCell_same hF]; rfl
      have z1 : (wr.setCell ⟨w.heap.size + 2, 0, none⟩ (.slice d1 d2 d3)).cell? ⟨w.heap.size + 2, 1, none⟩ = some (.slice none 0 0) := by rw [Lib.cell_of_heap k1]; rfl
      have y1 := Lib.frozen_of_heap k1 1
      have HH9 : Hid ((two wr (w.heap.size + 2) (.slice d1 d2 d3) (.slice d4 d5 d6)).heap[w.heap.size + 2]? = some (.cells #[.slice d1 d2 d3, .slice d4 d5 d6] 24)) := two_heap hF
      have HR9 : Hid (RepI (Dg.mores (ups hq ++ ups wq) us) (two wr (w.heap.size + 2) (.slice d1 d2 d3) (.slice d4 d5 d6)) (.slice d1 d2 d3) (.slice d4 d5 d6)) := hRep.kn (two_kn hF)
      have HB9 : Hid (Below w.heap.size w (two wr (w.heap.size + 2) (.slice d1 d2 d3) (.slice d4 d5 d6))) := two_below (HG3.out.trans HRB.out.1) (by omega) _ _
      clear k1 hF hFA hRep e1
      go_wp2_with fail
      clear z0 y0 z1 y1 c0 c1
      change bodyPost _ _ _ _ _ (two _ _ _ _)
      generalize two wr (w.heap.size + 2) (.slice d1 d2 d3) (.slice d4 d5 d6) = w9 at *
      have t0 : w9.cell? ⟨w.heap.size + 2, 0, none⟩ = some (.slice d1 d2 d3) := by rw [Lib.cell_of_heap HH9.out]; rfl
      have t1 : w9.cell? ⟨w.heap.size + 2, 1, none⟩ = some (.slice d4 d5 d6) := by rw [Lib.cell_of_heap HH9.out]; rfl
      rw [HE0.out]
      exact bodyPost_ret (v := .tuple #[.agg #[.slice d1 d2 d3, .slice d4 d5 d6], .int .i64 0]) (by simp [results, Tryz.results60, go_sem, t0, t1]) rfl ⟨d1, d2, d3, d4, d5, d6, rfl, ⟨(fun _ => HR9.out), fun h => absurd rfl h⟩, HB9.out⟩
end Go.Proofs.YtmfaodapofamfaaGreat

/- Round: two replicas, each with what the other one answers. -/
namespace Go.Proofs.YtmfaodapofamfaaGreat
open Go.RowKit

def Two2 (a b : Int) (w : World) (v : Value) : Prop := ∃ g, v = .slice (some ⟨g, 0, none⟩) 2 2 ∧ w.cell? ⟨g, 0, none⟩ = some (.int .i64 a) ∧ w.cell? ⟨g, 1, none⟩ = some (.int .i64 b)
theorem Two2.below {a b : Int} {w w' : World} {v : Value} (h : Two2 a b w v) (hb : Below w.heap.size w w') : Two2 a b w' v := by
  obtain ⟨g, e, h1, h2⟩ := h
  exact ⟨g, e, cell_below hb h1, cell_below hb h2⟩
theorem two2_new (a b : Int) (y : World) : Two2 a b (y.alloc (.cells #[.int .i64 a, .int .i64 b] 31)) (.slice (some ⟨y.heap.size, 0, none⟩) 2 2) := by
  have hh := heap_alloc_new y (.cells #[.int .i64 a, .int .i64 b] 31)
  exact ⟨_, rfl, by rw [Lib.cell_of_heap hh]; rfl, by rw [Lib.cell_of_heap hh]; rfl⟩
noncomputable def Gs.roundErr (ha wa hb wb : List Wr.Up) : Int := if Dg.check ha wa ≠ 0 then Dg.check ha wa else if Dg.check hb wb ≠ 0 then Dg.check hb wb else if Gs.tellErr (ha ++ wa) (Gs.missing hb (Dg.heads ha)) ≠ 0 ∨ Gs.tellErr (hb ++ wb) (Gs.missing ha (Dg.heads hb)) ≠ 0 then 2 else 0
theorem Gs.tell_two (l us : List Wr.Up) : Gs.tellErr l us = 0 ∨ Gs.tellErr l us = 2 := by
  unfold Gs.tellErr
  split
  · exact .inr rfl
  · exact .inl rfl
def rdT (ah : Option Addr) (nh ch : Nat) (aw : Option Addr) (nw cw : Nat) (aj : Option Addr) (nj cj : Nat) (ak : Option Addr) (nk ck : Nat) (c1 c2 e0 : Int) (tQ : Nat) (vQ : Value) (WQ : World) : Prop :=
  match tQ with
  | 13 => vQ = .agg #[.slice ah nh ch, .slice aw nw cw]
  | 14 => vQ = .int .i64 c1
  | 15 => vQ = .agg #[.slice aj nj cj, .slice ak nk ck]
  | 16 => vQ = .int .i64 c2
  | 17 => Two2 c1 c2 WQ vQ
  | 18 => vQ = .int .i64 e0
  | 7 => vQ = .int .i64 e0
  | _ => True
theorem rdT_mono (ah : Option Addr) (nh ch : Nat) (aw : Option Addr) (nw cw : Nat) (aj : Option Addr) (nj cj : Nat) (ak : Option Addr) (nk ck : Nat) (c1 c2 e0 : Int) (tQ : Nat) (vQ : Value) (W W' : World) (hb : Below W.heap.size W W') (h : rdT ah nh ch aw nw cw aj nj cj ak nk ck c1 c2 e0 tQ vQ W) : rdT ah nh ch aw nw cw aj nj cj ak nk ck c1 c2 e0 tQ vQ W' := by
  revert h
  unfold rdT
  split <;> (intro h; first | exact h | exact Two2.below h hb)

set_option maxRecDepth 100000 in
set_option maxHeartbeats 8000000 in
theorem Round_any (hq wq ph pw : List Uv) (hv wv jv kv : Value) (w : World) (hV : UpsV w hv hq) (wV : UpsV w wv wq) (jV : UpsV w jv ph) (kV : UpsV w kv pw) (hl : hq.length ≤ 4611686018427387903 ∧ wq.length ≤ 4611686018427387903) (jl : ph.length ≤ 4611686018427387903 ∧ pw.length ≤ 4611686018427387903) (hok : ∀ y, y ∈ hq ++ wq → UvOk w y) (jok : ∀ y, y ∈ ph ++ pw → UvOk w y) :
    Calls Tryz.prog 22 #[.agg #[hv, wv], .agg #[jv, kv]] w fun e w' => ∃ a1 n1 c1 a2 n2 c2 a3 n3 c3 a4 n4 c4, e = .returned (.tuple #[.agg #[.slice a1 n1 c1, .slice a2 n2 c2], .agg #[.slice a3 n3 c3, .slice a4 n4 c4], .int .i64 (Gs.roundErr (ups hq) (ups wq) (ups ph) (ups pw))]) ∧
      ReE (Dg.mores (ups hq ++ ups wq) (Gs.missing (ups ph) (Dg.heads (ups hq)))) (Gs.roundErr (ups hq) (ups wq) (ups ph) (ups pw)) w' (.slice a1 n1 c1) (.slice a2 n2 c2) ∧ ReE (Dg.mores (ups ph ++ ups pw) (Gs.missing (ups hq) (Dg.heads (ups ph)))) (Gs.roundErr (ups hq) (ups wq) (ups ph) (ups pw)) w' (.slice a3 n3 c3) (.slice a4 n4 c4) ∧ Below w.heap.size w w' := by
  obtain ⟨ah, ch, rfl, q1, q2⟩ := id hV
  obtain ⟨aw, cw, rfl, q3, q4⟩ := id wV
  obtain ⟨aj, cj, rfl, q5, q6⟩ := id jV
  obtain ⟨ak, ck, rfl, q7, q8⟩ := id kV
  clear q1 q2 q3 q4 q5 q6 q7 q8
  obtain ⟨c1, hc1⟩ : ∃ c, c = Dg.check (ups hq) (ups wq) := ⟨_, rfl⟩
  obtain ⟨c2, hc2⟩ : ∃ c, c = Dg.check (ups ph) (ups pw) := ⟨_, rfl⟩
  have HR : Hid (∀ z, Kn w z → UpsV z (.slice ah hq.length ch) hq ∧ UpsV z (.slice aw wq.length cw) wq ∧ (∀ y, y ∈ hq ++ wq → UvOk z y)) := fun z hz => ⟨hV.kn hz, wV.kn hz, fun y hy => (hok y hy).kn hz⟩
  have HJ : Hid (∀ z, Kn w z → UpsV z (.slice aj ph.length cj) ph ∧ UpsV z (.slice ak pw.length ck) pw ∧ (∀ y, y ∈ ph ++ pw → UvOk z y)) := fun z hz => ⟨jV.kn hz, kV.kn hz, fun y hy => (jok y hy).kn hz⟩
  have H15A : Hid (∀ z, Below w.heap.size w z → Calls Tryz.prog 15 #[.agg #[.slice ah hq.length ch, .slice aw wq.length cw]] z fun e w' => e = .returned (.int .i64 c1) ∧ Below z.heap.size z w') := fun z hz => by
    obtain ⟨k1, k2, k3⟩ := HR.out z (Kn.below hz)
    rw [hc1]
    exact DCheck_any hq wq _ _ z k1 k2 hl k3
  have H15B : Hid (∀ z, Below w.heap.size w z → Calls Tryz.prog 15 #[.agg #[.slice aj ph.length cj, .slice ak pw.length ck]] z fun e w' => e = .returned (.int .i64 c2) ∧ Below z.heap.size z w') := fun z hz => by
    obtain ⟨k1, k2, k3⟩ := HJ.out z (Kn.below hz)
    rw [hc2]
    exact DCheck_any ph pw _ _ z k1 k2 jl k3
  have HC1 : Hid (c1 = Dg.check (ups hq) (ups wq)) := hc1
  have HC2 : Hid (c2 = Dg.check (ups ph) (ups pw)) := hc2
  obtain ⟨e0, HE0⟩ : ∃ e, Hid (e = if c1 = 0 then c2 else c1) := ⟨_, rfl⟩
  obtain ⟨E, HE⟩ : ∃ e, Hid (e = Gs.roundErr (ups hq) (ups wq) (ups ph) (ups pw)) := ⟨_, rfl⟩
  rw [← HE.out]
  clear hV wV jV kV hok jok hc1 hc2 hl jl
  have hu0 := heap_alloc_new w (.cells #[.slice ah hq.length ch, .slice aw wq.length cw] 24)
  have hg0 := new_below w (.cells #[.slice ah hq.length ch, .slice aw wq.length cw] 24)
  have hz0 : (w.alloc (.cells #[.slice ah hq.length ch, .slice aw wq.length cw] 24)).heap.size = w.heap.size + 1 := by simp
  have hu1 := heap_alloc_new (w.alloc (.cells #[.slice ah hq.length ch, .slice aw wq.length cw] 24)) (.cells #[.slice aj ph.length cj, .slice ak pw.length ck] 24)
  have hg1 := new_below (w.alloc (.cells #[.slice ah hq.length ch, .slice aw wq.length cw] 24)) (.cells #[.slice aj ph.length cj, .slice ak pw.length ck] 24)
  rw [hz0] at hu1
  have hz1 : ((w.alloc (.cells #[.slice ah hq.length ch, .slice aw wq.length cw] 24)).alloc (.cells #[.slice aj ph.length cj, .slice ak pw.length ck] 24)).heap.size = w.heap.size + 2 := by simp
  have hu2 := heap_alloc_new ((w.alloc (.cells #[.slice ah hq.length ch, .slice aw wq.length cw] 24)).alloc (.cells #[.slice aj ph.length cj, .slice ak pw.length ck] 24)) (.cells #[.slice none 0 0, .slice none 0 0] 24)
  have hg2 := new_below ((w.alloc (.cells #[.slice ah hq.length ch, .slice aw wq.length cw] 24)).alloc (.cells #[.slice aj ph.length cj, .slice ak pw.length ck] 24)) (.cells #[.slice none 0 0, .slice none 0 0] 24)
  rw [hz1] at hu2
  have hz2 : (((w.alloc (.cells #[.slice ah hq.length ch, .slice aw wq.length cw] 24)).alloc (.cells #[.slice aj ph.length cj, .slice ak pw.length ck] 24)).alloc (.cells #[.slice none 0 0, .slice none 0 0] 24)).heap.size = w.heap.size + 3 := by simp
  have hu3 := heap_alloc_new (((w.alloc (.cells #[.slice ah hq.length ch, .slice aw wq.length cw] 24)).alloc (.cells #[.slice aj ph.length cj, .slice ak pw.length ck] 24)).alloc (.cells #[.slice none 0 0, .slice none 0 0] 24)) (.cells #[.slice none 0 0, .slice none 0 0] 24)
  have hg3 := new_below (((w.alloc (.cells #[.slice ah hq.length ch, .slice aw wq.length cw] 24)).alloc (.cells #[.slice aj ph.length cj, .slice ak pw.length ck] 24)).alloc (.cells #[.slice none 0 0, .slice none 0 0] 24)) (.cells #[.slice none 0 0, .slice none 0 0] 24)
  rw [hz2] at hu3
  have hu0' := (hg3.block _ (by rw [hz2]; omega)).trans ((hg2.block _ (by rw [hz1]; omega)).trans ((hg1.block _ (by rw [hz0]; omega)).trans hu0))
  have hu1' := (hg3.block _ (by rw [hz2]; omega)).trans ((hg2.block _ (by rw [hz1]; omega)).trans hu1)
  have hu2' := (hg3.block _ (by rw [hz2]; omega)).trans hu2
  have ha := hg0.trans (hg1.mono hg0.size)
  have hb := ha.trans (hg2.mono ha.size)
  have hgg := hb.trans (hg3.mono hb.size)
  go_enter Tryz.func22, Tryz.ntmps22
  go_upto_region 1 with fail
  clear hu0 hg0 hz0 hu1 hg1 hz1 hg2 hu2 hz2 hg3 ha hb
  generalize (((w.alloc (.cells #[.slice ah hq.length ch, .slice aw wq.length cw] 24)).alloc (.cells #[.slice aj ph.length cj, .slice ak pw.length ck] 24)).alloc (.cells #[.slice none 0 0, .slice none 0 0] 24)).alloc (.cells #[.slice none 0 0, .slice none 0 0] 24) = w1 at *
  have HBX : Hid (∀ z, Below w1.heap.size w1 z → z.heap[w.heap.size]? = some (.cells #[.slice ah hq.length ch, .slice aw wq.length cw] 24) ∧ z.heap[w.heap.size + 1]? = some (.cells #[.slice aj ph.length cj, .slice ak pw.length ck] 24) ∧ z.heap[w.heap.size + 2]? = some (.cells #[.slice none 0 0, .slice none 0 0] 24) ∧ z.heap[w.heap.size + 3]? = some (.cells #[.slice none 0 0, .slice none 0 0] 24)) := fun z hz => ⟨(hz.block _ (Array.getElem?_eq_some_iff.1 hu0').1).trans hu0', (hz.block _ (Array.getElem?_eq_some_iff.1 hu1').1).trans hu1', (hz.block _ (Array.getElem?_eq_some_iff.1 hu2').1).trans hu2', (hz.block _ (Array.getElem?_eq_some_iff.1 hu3).1).trans hu3⟩
  have HXC : Hid (∀ z, Below w1.heap.size w1 z → z.cell? ⟨w.heap.size, 0, none⟩ = some (.slice ah hq.length ch) ∧ z.cell? ⟨w.heap.size, 1, none⟩ = some (.slice aw wq.length cw) ∧ z.cell? ⟨w.heap.size + 1, 0, none⟩ = some (.slice aj ph.length cj) ∧ z.cell? ⟨w.heap.size + 1, 1, none⟩ = some (.slice ak pw.length ck)) := fun z hz => by
    obtain ⟨k1, k2, _, _⟩ := HBX.out z hz
    exact ⟨by rw [Lib.cell_of_heap k1]; rfl, by rw [Lib.cell_of_heap k1]; rfl, by rw [Lib.cell_of_heap k2]; rfl, by rw [Lib.cell_of_heap k2]; rfl⟩
  have HG1 : Hid (Below w.heap.size w w1) := hgg
  have hs1 : w.heap.size + 3 < w1.heap.size := (Array.getElem?_eq_some_iff.1 hu3).1
  clear hu0' hu1' hu2' hu3 hgg
  refine wp_region_tabA (rdT ah hq.length ch aw wq.length cw aj ph.length cj ak pw.length ck c1 c2 e0) (by kernel_rfl) (by kernel_rfl) (rdT_mono _ _ _ _ _ _ _ _ _ _ _ _ _ _ _) ?hop1 ?hend1
  case hop1 =>
    refine AllOps.cons (fun a y h => ?_) ?_
    · have e2 : a.eval (.tmp 2) = (.pointer (some ⟨w.heap.size, 0, none⟩) : Value) := h.old 2 (by kernel_rfl)
      obtain ⟨x0, x1, x2, x3⟩ := HXC.out y h.below
      refine opOk_val (v := .agg #[.slice ah hq.length ch, .slice aw wq.length cw]) (w' := y) (wanted_none rfl) ?_ (fun t ht => by cases ht; exact rfl) (Below.refl _ _)
      have ec : ∀ v, a.eval (.const v) = v := fun _ => rfl
      generalize a.eval = ev at *
      clear h
      go_simp
    refine AllOps.cons (fun a y h => ?_) ?_
    · have e13 : a.eval (.tmp 13) = (.agg #[.slice ah hq.length ch, .slice aw wq.length cw] : Value) := h.of 13 (by kernel_rfl)
      refine opOk_call (f := 15) (args := #[.agg #[.slice ah hq.length ch, .slice aw wq.length cw]]) (wanted_none rfl) ?_ ?_
      · have ec : ∀ v, a.eval (.const v) = v := fun _ => rfl
        have ef : ∀ f, a.eval (.func f) = .func (.func f) #[] #[] := fun _ => rfl
        generalize a.eval = ev at *
        clear h
        go_simp
      · refine Calls.mono (H15A.out y (HG1.out.trans (h.below.mono HG1.out.size))) ?_
        rintro _ y2 ⟨rfl, hb2⟩
        exact ⟨_, rfl, fun t ht => by cases ht; exact rfl, hb2⟩
    refine AllOps.cons (fun a y h => ?_) ?_
    · have e3 : a.eval (.tmp 3) = (.pointer (some ⟨w.heap.size + 1, 0, none⟩) : Value) := h.old 3 (by kernel_rfl)
      obtain ⟨x0, x1, x2, x3⟩ := HXC.out y h.below
      refine opOk_val (v := .agg #[.slice aj ph.length cj, .slice ak pw.length ck]) (w' := y) (wanted_none rfl) ?_ (fun t ht => by cases ht; exact rfl) (Below.refl _ _)
      have ec : ∀ v, a.eval (.const v) = v := fun _ => rfl
      generalize a.eval = ev at *
      clear h
      go_simp
    refine AllOps.cons (fun a y h => ?_) ?_
    · have e15 : a.eval (.tmp 15) = (.agg #[.slice aj ph.length cj, .slice ak pw.length ck] : Value) := h.of 15 (by kernel_rfl)
      refine opOk_call (f := 15) (args := #[.agg #[.slice aj ph.length cj, .slice ak pw.length ck]]) (wanted_none rfl) ?_ ?_
      · have ec : ∀ v, a.eval (.const v) = v := fun _ => rfl
        have ef : ∀ f, a.eval (.func f) = .func (.func f) #[] #[] := fun _ => rfl
        generalize a.eval = ev at *
        clear h
        go_simp
      · refine Calls.mono (H15B.out y (HG1.out.trans (h.below.mono HG1.out.size))) ?_
        rintro _ y2 ⟨rfl, hb2⟩
        exact ⟨_, rfl, fun t ht => by cases ht; exact rfl, hb2⟩
    refine AllOps.cons (fun a y h => ?_) ?_
    · have e14 : a.eval (.tmp 14) = (.int .i64 c1 : Value) := h.of 14 (by kernel_rfl)
      have e16 : a.eval (.tmp 16) = (.int .i64 c2 : Value) := h.of 16 (by kernel_rfl)
      refine opOk_val (v := .slice (some ⟨y.heap.size, 0, none⟩) 2 2) (w' := y.alloc (.cells #[.int .i64 c1, .int .i64 c2] 31)) (wanted_none rfl) ?_ (fun t ht => by cases ht; exact two2_new c1 c2 y) ((Below.refl _ _).alloc (Nat.le_refl _) _)
      have ec : ∀ v, a.eval (.const v) = v := fun _ => rfl
      generalize a.eval = ev at *
      clear h
      go_simp
    refine AllOps.cons (fun a y h => ?_) ?_
    · have t17 : Two2 c1 c2 y (a.eval (.tmp 17)) := h.of 17 (by kernel_rfl)
      obtain ⟨g, e17, q0, q1⟩ := t17
      refine opOk_call (f := 27) (args := #[.slice (some ⟨g, 0, none⟩) 2 2]) (wanted_none rfl) ?_ ?_
      · have ec : ∀ v, a.eval (.const v) = v := fun _ => rfl
        have ef : ∀ f, a.eval (.func f) = .func (.func f) #[] #[] := fun _ => rfl
        generalize a.eval = ev at *
        clear h
        go_simp
      · refine Calls.mono (orE_any c1 c2 g y q0 q1) ?_
        rintro _ y2 ⟨rfl, rfl⟩
        exact ⟨_, rfl, fun t ht => by cases ht; exact congrArg (Value.int .i64) HE0.out.symm, Below.refl _ _⟩
    refine AllOps.cons (fun a y h => ?_) ?_
    · have e18 : a.eval (.tmp 18) = (.int .i64 e0 : Value) := h.of 18 (by kernel_rfl)
      refine opOk_val (v := .int .i64 e0) (w' := y) (wanted_none rfl) ?_ (fun t ht => by cases ht; exact rfl) (Below.refl _ _)
      have ec : ∀ v, a.eval (.const v) = v := fun _ => rfl
      generalize a.eval = ev at *
      clear h
      go_simp
    exact AllOps.nil
  rintro ⟨tm, df⟩ w2 hbE hdE hszE hstE hTE
  have k7 : tm.getD 7 undef = (.int .i64 e0 : Value) := ends_at (T := rdT ah hq.length ch aw wq.length cw aj ph.length cj ak pw.length ck c1 c2 e0) (w := w2) (a := ⟨tm, df⟩) (t := 7) hTE (by kernel_rfl)
  obtain rfl : df = [] := hdE
  have HBW : Hid (Below w1.heap.size w1 w2) := hbE
  have hF8 := tmps_fold [13, 14, 15, 16, 17, 18, 7] tm _ hszE hstE
  clear hszE hstE hTE hbE
  simp only [List.foldl_cons, List.foldl_nil, k7] at hF8
  clear k7
  generalize tm.getD 13 undef = x13 at hF8
  generalize tm.getD 14 undef = x14 at hF8
  generalize tm.getD 15 undef = x15 at hF8
  generalize tm.getD 16 undef = x16 at hF8
  generalize tm.getD 17 undef = x17 at hF8
  generalize tm.getD 18 undef = x18 at hF8
  simp only [List.setIfInBounds_toArray, List.set_cons_zero, List.set_cons_succ] at hF8
  subst hF8
  clear H15A H15B
  by_cases h0 : e0 = 0
  case neg =>
    have d0 : (!decide (e0 = 0)) = true := by simp [h0]
    have hEe : E = e0 := by
      rw [HE.out, HE0.out]
      unfold Gs.roundErr
      rw [← HC1.out, ← HC2.out]
      have h9 := HE0.out
      by_cases hc : c1 = 0
      · rw [if_pos hc] at h9
        rw [if_neg (fun h => h hc), if_pos hc, if_pos (by rw [← h9]; exact h0)]
      · rw [if_pos hc, if_neg hc]
    subst hEe
    have hne : E ≠ 0 := h0
    have v4 := (HBX.out w2 HBW.out).2.2.1
    have v5 := (HBX.out w2 HBW.out).2.2.2
    obtain ⟨s0, s1, s2, s3, _, _⟩ := box_store (X := w.heap.size + 3) (u := .slice none 0 0) (v := .slice none 0 0) v4 (by omega) (show w2.cell? ⟨w.heap.size + 3, 0, none⟩ = some (.slice none 0 0) by rw [Lib.cell_of_heap v5]; rfl) (show w2.cell? ⟨w.heap.size + 3, 1, none⟩ = some (.slice none 0 0) by rw [Lib.cell_of_heap v5]; rfl)
    have v6 : (two w2 (w.heap.size + 2) (.slice none 0 0) (.slice none 0 0)).heap[w.heap.size + 3]? = some (.cells #[.slice none 0 0, .slice none 0 0] 24) := (two_other (by omega)).trans v5
    obtain ⟨s4, s5, s6, s7, _, _⟩ := box_store (X := w.heap.size + 2) (u := .slice none 0 0) (v := .slice none 0 0) v6 (by omega) (show (two w2 (w.heap.size + 2) (.slice none 0 0) (.slice none 0 0)).cell? ⟨w.heap.size + 2, 0, none⟩ = some (.slice none 0 0) by rw [Lib.cell_of_heap (two_heap v4)]; rfl) (show (two w2 (w.heap.size + 2) (.slice none 0 0) (.slice none 0 0)).cell? ⟨w.heap.size + 2, 1, none⟩ = some (.slice none 0 0) by rw [Lib.cell_of_heap (two_heap v4)]; rfl)
    have HH4 : Hid ((two (two w2 (w.heap.size + 2) (.slice none 0 0) (.slice none 0 0)) (w.heap.size + 3) (.slice none 0 0) (.slice none 0 0)).heap[w.heap.size + 2]? = some (.cells #[.slice none 0 0, .slice none 0 0] 24)) := (two_other (by omega)).trans (two_heap v4)
    have HH5 : Hid ((two (two w2 (w.heap.size + 2) (.slice none 0 0) (.slice none 0 0)) (w.heap.size + 3) (.slice none 0 0) (.slice none 0 0)).heap[w.heap.size + 3]? = some (.cells #[.slice none 0 0, .slice none 0 0] 24)) := two_heap v6
    have HB9 : Hid (Below w.heap.size w (two (two w2 (w.heap.size + 2) (.slice none 0 0) (.slice none 0 0)) (w.heap.size + 3) (.slice none 0 0) (.slice none 0 0))) := two_below (two_below (HG1.out.trans (HBW.out.mono HG1.out.size)) (by omega) _ _) (by omega) _ _
    unfold two at s4 s5 s6 s7
    clear v4 v5 v6
    go_wp2_with fail
    clear s0 s1 s2 s3 s4 s5 s6 s7
    change bodyPost _ _ _ _ _ (two (two _ _ _ _) _ _ _)
    generalize two (two w2 (w.heap.size + 2) (.slice none 0 0) (.slice none 0 0)) (w.heap.size + 3) (.slice none 0 0) (.slice none 0 0) = w9 at *
    have t0 : w9.cell? ⟨w.heap.size + 2, 0, none⟩ = some (.slice none 0 0) := by rw [Lib.cell_of_heap HH4.out]; rfl
    have t1 : w9.cell? ⟨w.heap.size + 2, 1, none⟩ = some (.slice none 0 0) := by rw [Lib.cell_of_heap HH4.out]; rfl
    have t2 : w9.cell? ⟨w.heap.size + 3, 0, none⟩ = some (.slice none 0 0) := by rw [Lib.cell_of_heap HH5.out]; rfl
    have t3 : w9.cell? ⟨w.heap.size + 3, 1, none⟩ = some (.slice none 0 0) := by rw [Lib.cell_of_heap HH5.out]; rfl
    exact bodyPost_ret (v := .tuple #[.agg #[.slice none 0 0, .slice none 0 0], .agg #[.slice none 0 0, .slice none 0 0], .int .i64 E]) (by simp [results, Tryz.results22, go_sem, t0, t1, t2, t3]) rfl ⟨none, 0, 0, none, 0, 0, none, 0, 0, none, 0, 0, rfl, ⟨(fun h => absurd h hne), fun _ => ⟨rfl, rfl⟩⟩, ⟨(fun h => absurd h hne), fun _ => ⟨rfl, rfl⟩⟩, HB9.out⟩
  subst h0
  have hcc : c1 = 0 ∧ c2 = 0 := by
    have h9 := HE0.out
    by_cases hc : c1 = 0
    · rw [if_pos hc] at h9
      exact ⟨hc, h9.symm⟩
    · rw [if_neg hc] at h9
      exact absurd h9.symm hc
  obtain ⟨rfl, rfl⟩ := hcc
  have HO1 : Hid (Dg.Ok (ups hq) (ups wq)) := Dg.check_ok.mp HC1.out.symm
  have HO2 : Hid (Dg.Ok (ups ph) (ups pw)) := Dg.check_ok.mp HC2.out.symm
  obtain ⟨g1, HG1E⟩ : ∃ e, Hid (e = Gs.tellErr (ups hq ++ ups wq) (Gs.missing (ups ph) (Dg.heads (ups hq)))) := ⟨_, rfl⟩
  obtain ⟨g2, HG2E⟩ : ∃ e, Hid (e = Gs.tellErr (ups ph ++ ups pw) (Gs.missing (ups hq) (Dg.heads (ups ph)))) := ⟨_, rfl⟩
  have HEE : Hid (E = if g1 = 0 then g2 else g1) := by
    show _ = _
    rw [HE.out]
    unfold Gs.roundErr
    rw [if_neg (fun h => h HC1.out.symm), if_neg (fun h => h HC2.out.symm), ← HG1E.out, ← HG2E.out]
    have k1 : g1 = 0 ∨ g1 = 2 := by rw [HG1E.out]; exact Gs.tell_two _ _
    have k2 : g2 = 0 ∨ g2 = 2 := by rw [HG2E.out]; exact Gs.tell_two _ _
    rcases k1 with rfl | rfl <;> rcases k2 with rfl | rfl <;> simp
  have HT1 : Hid (∀ z, Kn w z → Calls Tryz.prog 60 #[.agg #[.slice ah hq.length ch, .slice aw wq.length cw], .agg #[.slice aj ph.length cj, .slice ak pw.length ck]] z fun e w' => ∃ a1 n1 c1 a2 n2 c2, e = .returned (.tuple #[.agg #[.slice a1 n1 c1, .slice a2 n2 c2], .int .i64 g1]) ∧ ReE (Dg.mores (ups hq ++ ups wq) (Gs.missing (ups ph) (Dg.heads (ups hq)))) g1 w' (.slice a1 n1 c1) (.slice a2 n2 c2) ∧ Below z.heap.size z w') := fun z hz => by
    obtain ⟨k1, k2, k3⟩ := HR.out z hz
    obtain ⟨l1, l2, l3⟩ := HJ.out z hz
    rw [HG1E.out]
    exact told_any hq wq ph pw _ _ _ _ z k1 k2 l1 l2 k3 l3 HO1.out HO2.out
  have HT2 : Hid (∀ z, Kn w z → Calls Tryz.prog 60 #[.agg #[.slice aj ph.length cj, .slice ak pw.length ck], .agg #[.slice ah hq.length ch, .slice aw wq.length cw]] z fun e w' => ∃ a1 n1 c1 a2 n2 c2, e = .returned (.tuple #[.agg #[.slice a1 n1 c1, .slice a2 n2 c2], .int .i64 g2]) ∧ ReE (Dg.mores (ups ph ++ ups pw) (Gs.missing (ups hq) (Dg.heads (ups ph)))) g2 w' (.slice a1 n1 c1) (.slice a2 n2 c2) ∧ Below z.heap.size z w') := fun z hz => by
    obtain ⟨k1, k2, k3⟩ := HR.out z hz
    obtain ⟨l1, l2, l3⟩ := HJ.out z hz
    rw [HG2E.out]
    exact told_any ph pw hq wq _ _ _ _ z l1 l2 k1 k2 l3 k3 HO2.out HO1.out
  clear HE0 HC1 HC2
  obtain ⟨x0, x1, x2, x3⟩ := HXC.out w2 HBW.out
  go_upto_region 5 with (go_at_call 60; refine Calls.mono (HT1.out w2 (Kn.below (HG1.out.trans (HBW.out.mono HG1.out.size)))) ?_; rintro _ w3 ⟨d1, d2, d3, d4, d5, d6, rfl, hD, hb3⟩)
  have b8 := heap_alloc_new w3 (.cells #[.slice d1 d2 d3, .slice d4 d5 d6] 24)
  have g8 := new_below w3 (.cells #[.slice d1 d2 d3, .slice d4 d5 d6] 24)
  generalize w3.alloc (.cells #[.slice d1 d2 d3, .slice d4 d5 d6] 24) = w4 at *
  have HB4 : Hid (Below w1.heap.size w1 w4) := (HBW.out.trans (hb3.mono HBW.out.size)).trans (g8.mono (HBW.out.trans (hb3.mono HBW.out.size)).size)
  have HD4 : Hid (ReE (Dg.mores (ups hq ++ ups wq) (Gs.missing (ups ph) (Dg.heads (ups hq)))) g1 w4 (.slice d1 d2 d3) (.slice d4 d5 d6)) := hD.kn (Kn.below g8)
  have HF8 : Hid (w4.heap[w3.heap.size]? = some (.cells #[.slice d1 d2 d3, .slice d4 d5 d6] 24) ∧ w1.heap.size ≤ w3.heap.size) := ⟨b8, (HBW.out.trans (hb3.mono HBW.out.size)).size⟩
  clear b8 g8 hD hb3 x0 x1 x2 x3 HBW
  generalize w3.heap.size = F8 at *
  obtain ⟨x0, x1, x2, x3⟩ := HXC.out w4 HB4.out
  go_upto_region 6 with (go_at_call 60; refine Calls.mono (HT2.out w4 (Kn.below (HG1.out.trans (HB4.out.mono HG1.out.size)))) ?_; rintro _ w5 ⟨f1, f2, f3, f4, f5, f6, rfl, hD, hb5⟩)
  have b10 := heap_alloc_new w5 (.cells #[.slice f1 f2 f3, .slice f4 f5 f6] 24)
  have g10 := new_below w5 (.cells #[.slice f1 f2 f3, .slice f4 f5 f6] 24)
  generalize w5.alloc (.cells #[.slice f1 f2 f3, .slice f4 f5 f6] 24) = w6 at *
  have hb56 := hb5.trans (g10.mono hb5.size)
  have HB6 : Hid (Below w1.heap.size w1 w6) := HB4.out.trans (hb56.mono HB4.out.size)
  have HD6 : Hid (ReE (Dg.mores (ups hq ++ ups wq) (Gs.missing (ups ph) (Dg.heads (ups hq)))) g1 w6 (.slice d1 d2 d3) (.slice d4 d5 d6)) := HD4.out.kn (Kn.below hb56)
  have HF6 : Hid (w6.heap[F8]? = some (.cells #[.slice d1 d2 d3, .slice d4 d5 d6] 24) ∧ w1.heap.size ≤ F8 ∧ F8 < w5.heap.size) := ⟨(hb56.block _ (Array.getElem?_eq_some_iff.1 HF8.out.1).1).trans HF8.out.1, HF8.out.2, Nat.lt_of_lt_of_le (Array.getElem?_eq_some_iff.1 HF8.out.1).1 hb5.size⟩
  have HE6 : Hid (ReE (Dg.mores (ups ph ++ ups pw) (Gs.missing (ups hq) (Dg.heads (ups ph)))) g2 w6 (.slice f1 f2 f3) (.slice f4 f5 f6)) := hD.kn (Kn.below g10)
  have HF10 : Hid (w6.heap[w5.heap.size]? = some (.cells #[.slice f1 f2 f3, .slice f4 f5 f6] 24)) := b10
  clear b10 g10 hD hb5 hb56 x0 x1 x2 x3 HB4 HD4 HF8 HT1 HT2
  generalize w5.heap.size = F10 at *
  have b11 := heap_alloc_new w6 (.cells #[.int .i64 g1, .int .i64 g2] 31)
  have g11 := new_below w6 (.cells #[.int .i64 g1, .int .i64 g2] 31)
  have HOE : Hid (Calls Tryz.prog 27 #[.slice (some ⟨w6.heap.size, 0, none⟩) 2 2] (w6.alloc (.cells #[.int .i64 g1, .int .i64 g2] 31)) fun e w' => e = .returned (.int .i64 E) ∧ w' = w6.alloc (.cells #[.int .i64 g1, .int .i64 g2] 31)) := by
    rw [HEE.out]
    exact orE_any g1 g2 w6.heap.size _ (by rw [Lib.cell_of_heap b11]; rfl) (by rw [Lib.cell_of_heap b11]; rfl)
  go_upto_region 7 with (go_at_call 27; refine Calls.mono HOE.out ?_; rintro _ _ ⟨rfl, rfl⟩)
  have HBW : Hid (Below w1.heap.size w1 (w6.alloc (.cells #[.int .i64 g1, .int .i64 g2] 31))) := HB6.out.trans (g11.mono HB6.out.size)
  have HDW : Hid _ := HD6.out.kn (Kn.below g11)
  have HEW : Hid _ := HE6.out.kn (Kn.below g11)
  have HFA : Hid ((w6.alloc (.cells #[.int .i64 g1, .int .i64 g2] 31)).heap[F8]? = some (.cells #[.slice d1 d2 d3, .slice d4 d5 d6] 24)) := (g11.block _ (Array.getElem?_eq_some_iff.1 HF6.out.1).1).trans HF6.out.1
  have HFB : Hid ((w6.alloc (.cells #[.int .i64 g1, .int .i64 g2] 31)).heap[F10]? = some (.cells #[.slice f1 f2 f3, .slice f4 f5 f6] 24)) := (g11.block _ (Array.getElem?_eq_some_iff.1 HF10.out).1).trans HF10.out
  clear b11 g11 HOE HB6 HD6 HE6 HF10
  generalize w6.alloc (.cells #[.int .i64 g1, .int .i64 g2] 31) = w7 at *
  by_cases h1 : E = 0
  case neg =>
    have d0 : (!decide (E = 0)) = true := by simp [h1]
    have hne : E ≠ 0 := h1
    clear HDW HEW HFA HFB
    have v4 := (HBX.out w7 HBW.out).2.2.1
    have v5 := (HBX.out w7 HBW.out).2.2.2
    obtain ⟨s0, s1, s2, s3, _, _⟩ := box_store (X := w.heap.size + 3) (u := .slice none 0 0) (v := .slice none 0 0) v4 (by omega) (show w7.cell? ⟨w.heap.size + 3, 0, none⟩ = some (.slice none 0 0) by rw [Lib.cell_of_heap v5]; rfl) (show w7.cell? ⟨w.heap.size + 3, 1, none⟩ = some (.slice none 0 0) by rw [Lib.cell_of_heap v5]; rfl)
    have v6 : (two w7 (w.heap.size + 2) (.slice none 0 0) (.slice none 0 0)).heap[w.heap.size + 3]? = some (.cells #[.slice none 0 0, .slice none 0 0] 24) := (two_other (by omega)).trans v5
    obtain ⟨s4, s5, s6, s7, _, _⟩ := box_store (X := w.heap.size + 2) (u := .slice none 0 0) (v := .slice none 0 0) v6 (by omega) (show (two w7 (w.heap.size + 2) (.slice none 0 0) (.slice none 0 0)).cell? ⟨w.heap.size + 2, 0, none⟩ = some (.slice none 0 0) by rw [Lib.cell_of_heap (two_heap v4)]; rfl) (show (two w7 (w.heap.size + 2) (.slice none 0 0) (.slice none 0 0)).cell? ⟨w.heap.size + 2, 1, none⟩ = some (.slice none 0 0) by rw [Lib.cell_of_heap (two_heap v4)]; rfl)
    have HH4 : Hid ((two (two w7 (w.heap.size + 2) (.slice none 0 0) (.slice none 0 0)) (w.heap.size + 3) (.slice none 0 0) (.slice none 0 0)).heap[w.heap.size + 2]? = some (.cells #[.slice none 0 0, .slice none 0 0] 24)) := (two_other (by omega)).trans (two_heap v4)
    have HH5 : Hid ((two (two w7 (w.heap.size + 2) (.slice none 0 0) (.slice none 0 0)) (w.heap.size + 3) (.slice none 0 0) (.slice none 0 0)).heap[w.heap.size + 3]? = some (.cells #[.slice none 0 0, .slice none 0 0] 24)) := two_heap v6
    have HB9 : Hid (Below w.heap.size w (two (two w7 (w.heap.size + 2) (.slice none 0 0) (.slice none 0 0)) (w.heap.size + 3) (.slice none 0 0) (.slice none 0 0))) := two_below (two_below (HG1.out.trans (HBW.out.mono HG1.out.size)) (by omega) _ _) (by omega) _ _
    unfold two at s4 s5 s6 s7
    clear v4 v5 v6
    go_wp2_with fail
    clear s0 s1 s2 s3 s4 s5 s6 s7
    change bodyPost _ _ _ _ _ (two (two _ _ _ _) _ _ _)
    generalize two (two w7 (w.heap.size + 2) (.slice none 0 0) (.slice none 0 0)) (w.heap.size + 3) (.slice none 0 0) (.slice none 0 0) = w9 at *
    have t0 : w9.cell? ⟨w.heap.size + 2, 0, none⟩ = some (.slice none 0 0) := by rw [Lib.cell_of_heap HH4.out]; rfl
    have t1 : w9.cell? ⟨w.heap.size + 2, 1, none⟩ = some (.slice none 0 0) := by rw [Lib.cell_of_heap HH4.out]; rfl
    have t2 : w9.cell? ⟨w.heap.size + 3, 0, none⟩ = some (.slice none 0 0) := by rw [Lib.cell_of_heap HH5.out]; rfl
    have t3 : w9.cell? ⟨w.heap.size + 3, 1, none⟩ = some (.slice none 0 0) := by rw [Lib.cell_of_heap HH5.out]; rfl
    exact bodyPost_ret (v := .tuple #[.agg #[.slice none 0 0, .slice none 0 0], .agg #[.slice none 0 0, .slice none 0 0], .int .i64 E]) (by simp [results, Tryz.results22, go_sem, t0, t1, t2, t3]) rfl ⟨none, 0, 0, none, 0, 0, none, 0, 0, none, 0, 0, rfl, ⟨(fun h => absurd h hne), fun _ => ⟨rfl, rfl⟩⟩, ⟨(fun h => absurd h hne), fun _ => ⟨rfl, rfl⟩⟩, HB9.out⟩
  have HZ : Hid (g1 = 0 ∧ g2 = 0) := by
    have h9 := HEE.out
    rw [h1] at h9
    by_cases hc : g1 = 0
    · rw [if_pos hc] at h9
      exact ⟨hc, h9.symm⟩
    · rw [if_neg hc] at h9
      exact absurd h9.symm hc
  subst h1
  go_upto_region 9 with fail
  obtain ⟨_, _, v4, v5⟩ := HBX.out w7 HBW.out
  have hne1 : F10 ≠ w.heap.size + 2 := by have := HF6.out.2; omega
  have hne2 : F10 ≠ w.heap.size + 3 := by have := HF6.out.2; omega
  have q0 : w7.cell? ⟨F8, 0, none⟩ = some (.slice d1 d2 d3) := by rw [Lib.cell_of_heap HFA.out]; rfl
  have q1 : w7.cell? ⟨F8, 1, none⟩ = some (.slice d4 d5 d6) := by rw [Lib.cell_of_heap HFA.out]; rfl
  have q2 : w7.cell? ⟨F10, 0, none⟩ = some (.slice f1 f2 f3) := by rw [Lib.cell_of_heap HFB.out]; rfl
  have q3 : w7.cell? ⟨F10, 1, none⟩ = some (.slice f4 f5 f6) := by rw [Lib.cell_of_heap HFB.out]; rfl
  obtain ⟨s0, s1, s2, s3, s4, s5⟩ := box_store (u := .slice d1 d2 d3) (v := .slice d4 d5 d6) v4 hne1 q2 q3
  have v6 : (two w7 (w.heap.size + 2) (.slice d1 d2 d3) (.slice d4 d5 d6)).heap[w.heap.size + 3]? = some (.cells #[.slice none 0 0, .slice none 0 0] 24) := (two_other (by omega)).trans v5
  obtain ⟨s6, s7, s8, s9, _, _⟩ := box_store (u := .slice f1 f2 f3) (v := .slice f4 f5 f6) v6 hne2 s4 s5
  have hk1 := two_kn (u := .slice d1 d2 d3) (v := .slice d4 d5 d6) v4
  have hk2 := two_kn (u := .slice f1 f2 f3) (v := .slice f4 f5 f6) v6
  have HH4 : Hid ((two (two w7 (w.heap.size + 2) (.slice d1 d2 d3) (.slice d4 d5 d6)) (w.heap.size + 3) (.slice f1 f2 f3) (.slice f4 f5 f6)).heap[w.heap.size + 2]? = some (.cells #[.slice d1 d2 d3, .slice d4 d5 d6] 24)) := (two_other (by omega)).trans (two_heap v4)
  have HH5 : Hid ((two (two w7 (w.heap.size + 2) (.slice d1 d2 d3) (.slice d4 d5 d6)) (w.heap.size + 3) (.slice f1 f2 f3) (.slice f4 f5 f6)).heap[w.heap.size + 3]? = some (.cells #[.slice f1 f2 f3, .slice f4 f5 f6] 24)) := two_heap v6
  have HB9 : Hid (Below w.heap.size w (two (two w7 (w.heap.size + 2) (.slice d1 d2 d3) (.slice d4 d5 d6)) (w.heap.size + 3) (.slice f1 f2 f3) (.slice f4 f5 f6))) := two_below (two_below (HG1.out.trans (HBW.out.mono HG1.out.size)) (by omega) _ _) (by omega) _ _
  have HR1 : Hid (RepI (Dg.mores (ups hq ++ ups wq) (Gs.missing (ups ph) (Dg.heads (ups hq)))) (two (two w7 (w.heap.size + 2) (.slice d1 d2 d3) (.slice d4 d5 d6)) (w.heap.size + 3) (.slice f1 f2 f3) (.slice f4 f5 f6)) (.slice d1 d2 d3) (.slice d4 d5 d6)) := ((HDW.out.1 HZ.out.1).kn hk1).kn hk2
  have HR2 : Hid (RepI (Dg.mores (ups ph ++ ups pw) (Gs.missing (ups hq) (Dg.heads (ups ph)))) (two (two w7 (w.heap.size + 2) (.slice d1 d2 d3) (.slice d4 d5 d6)) (w.heap.size + 3) (.slice f1 f2 f3) (.slice f4 f5 f6)) (.slice f1 f2 f3) (.slice f4 f5 f6)) := ((HEW.out.1 HZ.out.2).kn hk1).kn hk2
  unfold two at s6 s7 s8 s9
  clear v4 v5 v6 hk1 hk2 HDW HEW HFA HFB HF6
  refine wp_mid (fun a0 a w' => w' = (two (two w7 (w.heap.size + 2) (.slice d1 d2 d3) (.slice d4 d5 d6)) (w.heap.size + 3) (.slice f1 f2 f3) (.slice f4 f5 f6)).drew ∧ a = ⟨((a0.tmps.setIfInBounds 45 (.agg #[.slice d1 d2 d3, .slice d4 d5 d6])).setIfInBounds 46 (.agg #[.slice f1 f2 f3, .slice f4 f5 f6])).setIfInBounds 6 (.int .i64 0), a0.defers⟩) ?first9 ?rest9
  case first9 =>
    go_region
    refine ⟨rfl, rfl, ?_⟩
    simp only [List.setIfInBounds_toArray, List.set_cons_zero, List.set_cons_succ]
  clear s0 s1 s2 s3 s4 s5 s6 s7 s8 s9 q0 q1 q2 q3
  rintro a wN ⟨hw, ha⟩
  simp only [List.setIfInBounds_toArray, List.set_cons_zero, List.set_cons_succ] at ha
  subst ha
  generalize two (two w7 (w.heap.size + 2) (.slice d1 d2 d3) (.slice d4 d5 d6)) (w.heap.size + 3) (.slice f1 f2 f3) (.slice f4 f5 f6) = w8 at *
  have hbd : Below w8.heap.size w8 wN := by rw [hw]; exact (Below.refl _ _).drew
  have t0 : wN.cell? ⟨w.heap.size + 2, 0, none⟩ = some (.slice d1 d2 d3) := cell_below hbd (by rw [Lib.cell_of_heap HH4.out]; rfl)
  have t1 : wN.cell? ⟨w.heap.size + 2, 1, none⟩ = some (.slice d4 d5 d6) := cell_below hbd (by rw [Lib.cell_of_heap HH4.out]; rfl)
  have t2 : wN.cell? ⟨w.heap.size + 3, 0, none⟩ = some (.slice f1 f2 f3) := cell_below hbd (by rw [Lib.cell_of_heap HH5.out]; rfl)
  have t3 : wN.cell? ⟨w.heap.size + 3, 1, none⟩ = some (.slice f4 f5 f6) := cell_below hbd (by rw [Lib.cell_of_heap HH5.out]; rfl)
  have HBN : Hid (Below w.heap.size w wN) := HB9.out.trans (hbd.mono HB9.out.size)
  have HS1 : Hid (RepI (Dg.mores (ups hq ++ ups wq) (Gs.missing (ups ph) (Dg.heads (ups hq)))) wN (.slice d1 d2 d3) (.slice d4 d5 d6)) := HR1.out.kn (Kn.below hbd)
  have HS2 : Hid (RepI (Dg.mores (ups ph ++ ups pw) (Gs.missing (ups hq) (Dg.heads (ups ph)))) wN (.slice f1 f2 f3) (.slice f4 f5 f6)) := HR2.out.kn (Kn.below hbd)
  clear hw hbd HH4 HH5 HB9 HR1 HR2
  go_wp2_with fail
  exact bodyPost_ret (v := .tuple #[.agg #[.slice d1 d2 d3, .slice d4 d5 d6], .agg #[.slice f1 f2 f3, .slice f4 f5 f6], .int .i64 0]) (by simp [results, Tryz.results22, go_sem, t0, t1, t2, t3]) rfl ⟨d1, d2, d3, d4, d5, d6, f1, f2, f3, f4, f5, f6, rfl, ⟨(fun _ => HS1.out), fun h => absurd rfl h⟩, ⟨(fun _ => HS2.out), fun h => absurd rfl h⟩, HBN.out⟩
end Go.Proofs.YtmfaodapofamfaaGreat

/- gossipBegun. -/
namespace Go.Proofs.YtmfaodapofamfaaGreat
open Go.RowKit

theorem fs_ok : Dg.Ok [Wr.firstU, Wr.secondU] [] := Dg.check_ok.mp (beg_check rfl rfl)
theorem fs_fair : Fair [Wr.firstU, Wr.secondU] := ⟨by decide, (fun u hu => by rcases Dg.beg_mem.mp hu with rfl | rfl; exact Dg.beg_c1; exact Dg.beg_c2), by decide⟩
theorem Gs.no_kw {h : List Wr.Up} {x : Wr.Id} (k : Gs.Kw h [] x) : False := by
  induction k with
  | head h _ => cases h
  | under _ _ _ _ ih => exact ih
theorem Gs.miss_nil (h : List Wr.Up) : Gs.missing h [] = h := by
  unfold Gs.missing
  rw [List.filter_eq_self]
  intro u _
  cases hk : Gs.knows h [] u with
  | false => rfl
  | true => exact absurd (Gs.knows_iff.mp hk) (fun k => Gs.no_kw k)
theorem Gs.miss_beg : Gs.missing [Wr.firstU, Wr.secondU] [⟨0, 1⟩] = [Wr.secondU] := by
  have k1 : Gs.knows [Wr.firstU, Wr.secondU] [⟨0, 1⟩] Wr.firstU = true := Gs.knows_iff.mpr (.head (by decide) (by decide))
  have k2 : ∀ x, Gs.Kw [Wr.firstU, Wr.secondU] [⟨0, 1⟩] x → x = ⟨0, 1⟩ := by
    intro x k
    induction k with
    | head h _ => exact List.mem_singleton.mp h
    | under h1 _ h3 _ ih =>
      rcases Dg.beg_mem.mp h1 with rfl | rfl
      · cases h3
      · exact absurd ih (by decide)
  have k3 : Gs.knows [Wr.firstU, Wr.secondU] [⟨0, 1⟩] Wr.secondU = false := by
    cases hk : Gs.knows [Wr.firstU, Wr.secondU] [⟨0, 1⟩] Wr.secondU with
    | false => rfl
    | true => exact absurd (k2 _ (Gs.knows_iff.mp hk)) (by decide)
  unfold Gs.missing
  rw [List.filter_cons, List.filter_cons, k1, k3]
  rfl
theorem fs_more : Dg.mores [] [Wr.firstU, Wr.secondU] = [Wr.firstU, Wr.secondU] := by
  show Dg.more (Dg.more [] Wr.firstU) Wr.secondU = _
  have e1 : Dg.more [] Wr.firstU = [Wr.firstU] := rfl
  have e2 : Dg.hasU [Wr.firstU] Wr.secondU.id = false := by decide
  rw [e1]
  unfold Dg.more
  rw [e2]
  rfl
theorem fs_round : Gs.roundErr [Wr.firstU, Wr.secondU] [] [] [] = 0 := by
  unfold Gs.roundErr
  rw [if_neg (fun h => h (Dg.check_ok.mpr fs_ok)), if_neg (fun h => h (Dg.check_ok.mpr Dg.beg_ok0)), if_neg]
  rintro (h | h)
  · exact h (by show Gs.tellErr _ [] = 0; rfl)
  · refine h ?_
    show Gs.tellErr [] (Gs.missing [Wr.firstU, Wr.secondU] []) = 0
    rw [Gs.miss_nil]
    unfold Gs.tellErr
    rw [fs_more]
    rfl
theorem fs_rep {w : World} {v1 v2 : Value} {R1 R2 : Uv} (h1 : UpsV w v1 [R1, R2]) (h2 : UpsV w v2 []) (o1 : UvOk w R1) (o2 : UvOk w R2) (e1 : R1.u = Wr.firstU) (e2 : R2.u = Wr.secondU) : RepI [Wr.firstU, Wr.secondU] w v1 v2 := by
  refine ⟨[R1, R2], [], h1, h2, fun y hy => ?_, ?_⟩
  · have hy : y = R1 ∨ y = R2 := by simpa using hy
    rcases hy with rfl | rfl
    · exact o1
    · exact o2
  · have e : ups [R1, R2] = [Wr.firstU, Wr.secondU] := by show [R1.u, R2.u] = _; rw [e1, e2]
    rw [e]
    exact fs_ok.is
set_option maxRecDepth 100000 in
set_option maxHeartbeats 4000000 in
theorem gossipBegun_any (w : World) : Calls Tryz.prog 25 #[] w fun e w' => e = .returned (.bool true) ∧ Below w.heap.size w w' := by
  have HFI : Hid (∀ w, Calls Tryz.prog 53 #[] w fun e w' => ∃ vp vs vt, e = .returned (upVal Wr.firstU vp vs vt) ∧ UpV w' Wr.firstU vp vs vt ∧ Below w.heap.size w w') := first_any
  have HSE : Hid (∀ w, Calls Tryz.prog 52 #[] w fun e w' => ∃ vp vs vt, e = .returned (upVal Wr.secondU vp vs vt) ∧ UpV w' Wr.secondU vp vs vt ∧ Below w.heap.size w w') := second_any
  go_enter Tryz.func25, Tryz.ntmps25
  go_upto_region 2 with (first | (go_at_call 53; refine Calls.mono (HFI.out _) ?_; rintro _ w1 ⟨vp, vs, vt, rfl, hU, hb1⟩; obtain ⟨p1, n1, q1, p2, n2, q2, p3, n3, q3, eU, hU⟩ := up1_of hU; rw [eU]; clear eU) | (go_at_call 52; refine Calls.mono (HSE.out _) ?_; rintro _ w2 ⟨vp2, vs2, vt2, rfl, hV, hb2⟩; obtain ⟨p4, n4, q4, p5, n5, q5, p6, n6, q6, eV, hV⟩ := up1_of hV; rw [eV]; clear eV))
  have hUP : Ups2 (w2.alloc (.cells #[.int .i64 Wr.firstU.id.a, .int .i64 Wr.firstU.id.n, .slice p1 n1 q1, .slice p2 n2 q2, .slice p3 n3 q3, .int .i64 Wr.secondU.id.a, .int .i64 Wr.secondU.id.n, .slice p4 n4 q4, .slice p5 n5 q5, .slice p6 n6 q6] 30)) (.slice (some ⟨w2.heap.size, 0, none⟩) 2 2) := ups2_new (hU.below hb2) hV
  have g1 := new_below w2 (.cells #[.int .i64 Wr.firstU.id.a, .int .i64 Wr.firstU.id.n, .slice p1 n1 q1, .slice p2 n2 q2, .slice p3 n3 q3, .int .i64 Wr.secondU.id.a, .int .i64 Wr.secondU.id.n, .slice p4 n4 q4, .slice p5 n5 q5, .slice p6 n6 q6] 30)
  have hz : (w2.alloc (.cells #[.int .i64 Wr.firstU.id.a, .int .i64 Wr.firstU.id.n, .slice p1 n1 q1, .slice p2 n2 q2, .slice p3 n3 q3, .int .i64 Wr.secondU.id.a, .int .i64 Wr.secondU.id.n, .slice p4 n4 q4, .slice p5 n5 q5, .slice p6 n6 q6] 30)).heap.size = w2.heap.size + 1 := by simp
  have b2 := heap_alloc_new (w2.alloc (.cells #[.int .i64 Wr.firstU.id.a, .int .i64 Wr.firstU.id.n, .slice p1 n1 q1, .slice p2 n2 q2, .slice p3 n3 q3, .int .i64 Wr.secondU.id.a, .int .i64 Wr.secondU.id.n, .slice p4 n4 q4, .slice p5 n5 q5, .slice p6 n6 q6] 30)) (.cells #[.slice (some ⟨w2.heap.size, 0, none⟩) 2 2, .slice none 0 0] 24)
  have g2 := new_below (w2.alloc (.cells #[.int .i64 Wr.firstU.id.a, .int .i64 Wr.firstU.id.n, .slice p1 n1 q1, .slice p2 n2 q2, .slice p3 n3 q3, .int .i64 Wr.secondU.id.a, .int .i64 Wr.secondU.id.n, .slice p4 n4 q4, .slice p5 n5 q5, .slice p6 n6 q6] 30)) (.cells #[.slice (some ⟨w2.heap.size, 0, none⟩) 2 2, .slice none 0 0] 24)
  rw [hz] at b2
  have hUP2 := hUP.below g2
  have hbb := (hb1.trans (hb2.mono hb1.size))
  have hbc := hbb.trans (g1.mono hbb.size)
  have HB3 : Hid (Below w.heap.size w ((w2.alloc (.cells #[.int .i64 Wr.firstU.id.a, .int .i64 Wr.firstU.id.n, .slice p1 n1 q1, .slice p2 n2 q2, .slice p3 n3 q3, .int .i64 Wr.secondU.id.a, .int .i64 Wr.secondU.id.n, .slice p4 n4 q4, .slice p5 n5 q5, .slice p6 n6 q6] 30)).alloc (.cells #[.slice (some ⟨w2.heap.size, 0, none⟩) 2 2, .slice none 0 0] 24))) := hbc.trans (g2.mono hbc.size)
  clear hUP g1 hz g2 hbb hbc hb1 hb2 hU hV
  generalize (w2.alloc (.cells #[.int .i64 Wr.firstU.id.a, .int .i64 Wr.firstU.id.n, .slice p1 n1 q1, .slice p2 n2 q2, .slice p3 n3 q3, .int .i64 Wr.secondU.id.a, .int .i64 Wr.secondU.id.n, .slice p4 n4 q4, .slice p5 n5 q5, .slice p6 n6 q6] 30)).alloc (.cells #[.slice (some ⟨w2.heap.size, 0, none⟩) 2 2, .slice none 0 0] 24) = w3 at *
  generalize w2.heap.size = Z at *
  obtain ⟨a9, e9, R1, R2, h1, h2, h3, h4, h5⟩ := hUP2
  cases e9
  have HBX : Hid (∀ z, Below w3.heap.size w3 z → z.heap[Z + 1]? = some (.cells #[.slice (some ⟨Z, 0, none⟩) 2 2, .slice none 0 0] 24)) := fun z hz => (hz.block _ (Array.getElem?_eq_some_iff.1 b2).1).trans b2
  have HXC : Hid (∀ z, Below w3.heap.size w3 z → z.cell? ⟨Z + 1, 0, none⟩ = some (.slice (some ⟨Z, 0, none⟩) 2 2) ∧ z.cell? ⟨Z + 1, 1, none⟩ = some (.slice none 0 0)) := fun z hz => ⟨by rw [Lib.cell_of_heap (HBX.out z hz)]; rfl, by rw [Lib.cell_of_heap (HBX.out z hz)]; rfl⟩
  have hok : ∀ z, Below w3.heap.size w3 z → ∀ y, y ∈ [R1, R2] ++ [] → UvOk z y := fun z hz y hy => by
    have hy : y = R1 ∨ y = R2 := by simpa using hy
    rcases hy with rfl | rfl
    · exact h2.below hz
    · exact h3.below hz
  have hu : ups [R1, R2] = [Wr.firstU, Wr.secondU] := by show [R1.u, R2.u] = _; rw [h4, h5]
  have HMI : Hid (∀ z iv, Below w3.heap.size w3 z → IdsV z iv [⟨0, 1⟩] → Calls Tryz.prog 21 #[.agg #[.slice (some ⟨Z, 0, none⟩) 2 2, .slice none 0 0], iv] z fun e w' => ∃ (v : Value) (R : List Uv), e = .returned (.tuple #[v, .int .i64 0]) ∧ UpsV w' v R ∧ (∀ x, x ∈ R → UvOk w' x) ∧ ups R = [Wr.secondU] ∧ Below z.heap.size z w') := fun z iv hz hi => by
    refine (Missing_any [R1, R2] [] _ _ [⟨0, 1⟩] iv z (h1.kc (Kc.below hz)) (ups_nil z) ⟨(by simp), (by simp)⟩ (hok z hz) hi (by decide)).mono ?_
    rintro e w' ⟨v, R, rfl, k1, k2, k3, k4⟩
    have he : Gs.missErr (ups [R1, R2]) (ups []) [⟨0, 1⟩] = 0 := by
      rw [hu]
      unfold Gs.missErr
      rw [if_neg (fun h => h (Dg.check_ok.mpr fs_ok)), if_neg (by decide)]
    unfold Gs.missOut at k3
    rw [if_pos he, hu, Gs.miss_beg] at k3
    rw [he]
    exact ⟨v, R, rfl, k1, k2, k3, k4⟩
  have HRO : Hid (∀ z, Below w3.heap.size w3 z → Calls Tryz.prog 22 #[.agg #[.slice (some ⟨Z, 0, none⟩) 2 2, .slice none 0 0], .agg #[.slice none 0 0, .slice none 0 0]] z fun e w' => ∃ a1 n1 c1 a2 n2 c2 a3 n3 c3 a4 n4 c4, e = .returned (.tuple #[.agg #[.slice a1 n1 c1, .slice a2 n2 c2], .agg #[.slice a3 n3 c3, .slice a4 n4 c4], .int .i64 0]) ∧ RepI [Wr.firstU, Wr.secondU] w' (.slice a1 n1 c1) (.slice a2 n2 c2) ∧ RepI [Wr.firstU, Wr.secondU] w' (.slice a3 n3 c3) (.slice a4 n4 c4) ∧ Below z.heap.size z w') := fun z hz => by
    refine (Round_any [R1, R2] [] [] [] _ _ _ _ z (h1.kc (Kc.below hz)) (ups_nil z) (ups_nil z) (ups_nil z) ⟨(by simp), (by simp)⟩ ⟨(by simp), (by simp)⟩ (hok z hz) (fun y hy => by cases hy)).mono ?_
    rintro e w' ⟨a1, n1, c1, a2, n2, c2, a3, n3, c3, a4, n4, c4, rfl, k1, k2, k3⟩
    have he : Gs.roundErr (ups [R1, R2]) (ups []) (ups []) (ups []) = 0 := by rw [hu]; exact fs_round
    rw [he] at k1 k2 ⊢
    refine ⟨a1, n1, c1, a2, n2, c2, a3, n3, c3, a4, n4, c4, rfl, ?_, ?_, k3⟩
    · have h9 := k1.1 rfl
      rw [hu] at h9
      exact h9
    · have h9 := k2.1 rfl
      rw [hu] at h9
      have e : Dg.mores (ups [] ++ ups []) (Gs.missing [Wr.firstU, Wr.secondU] (Dg.heads (ups []))) = [Wr.firstU, Wr.secondU] := by
        show Dg.mores [] (Gs.missing [Wr.firstU, Wr.secondU] []) = _
        rw [Gs.miss_nil]
        exact fs_more
      rw [e] at h9
      exact h9
  have HRA : Hid (∀ z, Below w3.heap.size w3 z → RepI [Wr.firstU, Wr.secondU] z (.slice (some ⟨Z, 0, none⟩) 2 2) (.slice none 0 0)) := fun z hz => fs_rep (h1.kc (Kc.below hz)) (ups_nil z) (h2.below hz) (h3.below hz) h4 h5
  clear h1 h2 h3 h4 h5 hok hu b2
  obtain ⟨x0, x1⟩ := HXC.out w3 (Below.refl _ _)
  have b4 := heap_alloc_new w3 (.cells #[.int .i64 0, .int .i64 1] 26)
  have g4 := new_below w3 (.cells #[.int .i64 0, .int .i64 1] 26)
  have hI4 : IdsV (w3.alloc (.cells #[.int .i64 0, .int .i64 1] 26)) (.slice (some ⟨w3.heap.size, 0, none⟩) 1 1) [⟨0, 1⟩] := by
    refine ⟨_, _, rfl, ⟨Nat.le_refl _, (fun h => by cases h)⟩, .inr ⟨_, 0, rfl, fun i hi => ?_⟩⟩
    match i, hi with
    | 0, _ => exact ⟨by rw [Lib.cell_of_heap b4]; rfl, by rw [Lib.cell_of_heap b4]; rfl⟩
  have HM4 : Hid _ := HMI.out _ _ g4 hI4
  have HG4 : Hid (Below w3.heap.size w3 (w3.alloc (.cells #[.int .i64 0, .int .i64 1] 26))) := g4
  clear b4 g4 hI4 HMI
  go_upto_region 3 with (go_at_call 21; refine Calls.mono HM4.out ?_; rintro _ w5 ⟨v5, R, rfl, hRV, hRO, hRU, hb5⟩; obtain ⟨a5, c5, rfl, hj⟩ := id hRV; clear hj)
  have HB5 : Hid (Below w3.heap.size w3 w5) := HG4.out.trans (hb5.mono HG4.out.size)
  have HRV : Hid (UpsV w5 (.slice a5 R.length c5) R) := hRV
  have HRO5 : Hid (∀ x, x ∈ R → UvOk w5 x) := hRO
  have HRU : Hid (ups R = [Wr.secondU]) := hRU
  clear hRV hRO hRU hb5 HM4 HG4 x0 x1
  obtain ⟨x0, x1⟩ := HXC.out w5 HB5.out
  go_upto_region 4 with (go_at_call 22; refine Calls.mono (HRO.out w5 HB5.out) ?_; rintro _ w6 ⟨a1, n1, c1, a2, n2, c2, a3, n3, c3, a4, n4, c4, rfl, hRX, hRY, hb6⟩)
  have b7 := heap_alloc_new w6 (.cells #[.slice a1 n1 c1, .slice a2 n2 c2] 24)
  have g7 := new_below w6 (.cells #[.slice a1 n1 c1, .slice a2 n2 c2] 24)
  have b8 := heap_alloc_new (w6.alloc (.cells #[.slice a1 n1 c1, .slice a2 n2 c2] 24)) (.cells #[.slice a3 n3 c3, .slice a4 n4 c4] 24)
  have g8 := new_below (w6.alloc (.cells #[.slice a1 n1 c1, .slice a2 n2 c2] 24)) (.cells #[.slice a3 n3 c3, .slice a4 n4 c4] 24)
  have hz : (w6.alloc (.cells #[.slice a1 n1 c1, .slice a2 n2 c2] 24)).heap.size = w6.heap.size + 1 := by simp
  rw [hz] at b8
  have b7' := (g8.block _ (by rw [hz]; exact Nat.lt_succ_self _)).trans b7
  have g78 := g7.trans (g8.mono g7.size)
  generalize (w6.alloc (.cells #[.slice a1 n1 c1, .slice a2 n2 c2] 24)).alloc (.cells #[.slice a3 n3 c3, .slice a4 n4 c4] 24) = w8 at *
  have hb68 := hb6.trans (g78.mono hb6.size)
  have HB8 : Hid (Below w3.heap.size w3 w8) := HB5.out.trans (hb68.mono HB5.out.size)
  have HX8 : Hid (RepI [Wr.firstU, Wr.secondU] w8 (.slice a1 n1 c1) (.slice a2 n2 c2)) := RepI.kn hRX (Kn.below g78)
  have HY8 : Hid (RepI [Wr.firstU, Wr.secondU] w8 (.slice a3 n3 c3) (.slice a4 n4 c4)) := RepI.kn hRY (Kn.below g78)
  have HRV8 : Hid (UpsV w8 (.slice a5 R.length c5) R) := HRV.out.kc (Kc.below hb68)
  have HRO8 : Hid (∀ x, x ∈ R → UvOk w8 x) := fun x hx => (HRO5.out x hx).below hb68
  have HCC : Hid (∀ z, Below w8.heap.size w8 z → (z.cell? ⟨w6.heap.size, 0, none⟩ = some (.slice a1 n1 c1) ∧ z.cell? ⟨w6.heap.size, 1, none⟩ = some (.slice a2 n2 c2)) ∧ (z.cell? ⟨w6.heap.size + 1, 0, none⟩ = some (.slice a3 n3 c3) ∧ z.cell? ⟨w6.heap.size + 1, 1, none⟩ = some (.slice a4 n4 c4)) ∧ z.cell? ⟨Z + 1, 0, none⟩ = some (.slice (some ⟨Z, 0, none⟩) 2 2) ∧ z.cell? ⟨Z + 1, 1, none⟩ = some (.slice none 0 0)) := fun z hz =>
    ⟨⟨cell_below hz (by rw [Lib.cell_of_heap b7']; rfl), cell_below hz (by rw [Lib.cell_of_heap b7']; rfl)⟩, ⟨cell_below hz (by rw [Lib.cell_of_heap b8]; rfl), cell_below hz (by rw [Lib.cell_of_heap b8]; rfl)⟩, HXC.out z (HB8.out.trans (hz.mono HB8.out.size))⟩
  clear b7 g7 b8 g8 hz b7' g78 hb68 hb6 hRX hRY x0 x1 HRV HRO5 HRO HB5
  go_wp2_with fail
  refine Calls.mono (HSE.out w8) ?_
  rintro _ w9 ⟨vp9, vs9, vt9, rfl, hW, hb9⟩
  obtain ⟨s1, t1, u1, s2, t2, u2, s3, t3, u3, eW, hW⟩ := up1_of hW
  rw [eW]
  clear eW
  have bA := heap_alloc_new w9 (.cells #[.int .i64 Wr.secondU.id.a, .int .i64 Wr.secondU.id.n, .slice s1 t1 u1, .slice s2 t2 u2, .slice s3 t3 u3] 30)
  have gA := new_below w9 (.cells #[.int .i64 Wr.secondU.id.a, .int .i64 Wr.secondU.id.n, .slice s1 t1 u1, .slice s2 t2 u2, .slice s3 t3 u3] 30)
  have hb9A := hb9.trans (gA.mono hb9.size)
  have hUA : UpsV (w9.alloc (.cells #[.int .i64 Wr.secondU.id.a, .int .i64 Wr.secondU.id.n, .slice s1 t1 u1, .slice s2 t2 u2, .slice s3 t3 u3] 30)) (.slice (some ⟨w9.heap.size, 0, none⟩) 1 1) [⟨Wr.secondU, .slice s1 t1 u1, .slice s2 t2 u2, .slice s3 t3 u3⟩] :=
    ⟨_, _, rfl, ⟨Nat.le_refl _, (fun h => by cases h)⟩, ups_one w9 ⟨Wr.secondU, .slice s1 t1 u1, .slice s2 t2 u2, .slice s3 t3 u3⟩⟩
  have hRl : R.length = 1 := by
    have := congrArg List.length HRU.out
    rw [ups_length] at this
    exact this
  have HSU : Hid _ := SameUpdates_same R [⟨Wr.secondU, .slice s1 t1 u1, .slice s2 t2 u2, .slice s3 t3 u3⟩] _ _ (w9.alloc (.cells #[.int .i64 Wr.secondU.id.a, .int .i64 Wr.secondU.id.n, .slice s1 t1 u1, .slice s2 t2 u2, .slice s3 t3 u3] 30)) (HRV8.out.kc (Kc.below hb9A)) hUA HRU.out (by omega) (fun x hx => (HRO8.out x hx).below hb9A) (fun x hx => by rw [List.mem_singleton.mp hx]; exact (hW.below gA).ok)
  have HBA : Hid (Below w8.heap.size w8 (w9.alloc (.cells #[.int .i64 Wr.secondU.id.a, .int .i64 Wr.secondU.id.n, .slice s1 t1 u1, .slice s2 t2 u2, .slice s3 t3 u3] 30))) := hb9A
  clear hRl bA gA hb9A hUA hW hb9
  go_wp2_with fail
  refine Calls.mono HSU.out ?_
  rintro _ wB ⟨rfl, hbB⟩
  have HBB : Hid (Below w8.heap.size w8 wB) := HBA.out.trans (hbB.mono HBA.out.size)
  have HS1 : Hid _ := same_rep fs_fair _ _ _ _ wB (HX8.out.kn (Kn.below HBB.out)) (HRA.out wB (HB8.out.trans (HBB.out.mono HB8.out.size)))
  clear HSU HBA hbB
  obtain ⟨⟨x0, x1⟩, ⟨x2, x3⟩, x4, x5⟩ := HCC.out wB HBB.out
  go_wp2_with fail
  refine Calls.mono HS1.out ?_
  rintro _ wC ⟨rfl, hbC⟩
  have HBC : Hid (Below w8.heap.size w8 wC) := HBB.out.trans (hbC.mono HBB.out.size)
  have HS2 : Hid _ := same_rep fs_fair _ _ _ _ wC (HY8.out.kn (Kn.below HBC.out)) (HRA.out wC (HB8.out.trans (HBC.out.mono HB8.out.size)))
  clear HS1 HBB hbC x0 x1 x2 x3 x4 x5
  obtain ⟨⟨x0, x1⟩, ⟨x2, x3⟩, x4, x5⟩ := HCC.out wC HBC.out
  go_wp2_with fail
  refine Calls.mono HS2.out ?_
  rintro _ wD ⟨rfl, hbD⟩
  have HBD : Hid (Below w8.heap.size w8 wD) := HBC.out.trans (hbD.mono HBC.out.size)
  have HBE : Hid (Below w.heap.size w wD) := HB3.out.trans ((HB8.out.trans (HBD.out.mono HB8.out.size)).mono HB3.out.size)
  clear HS2 hbD
  go_wp2_with fail
  go_ret
  exact ⟨rfl, HBE.out⟩
end Go.Proofs.YtmfaodapofamfaaGreat

/- What the document does to find what is behind some ids, plain. -/
namespace Go.Proofs.YtmfaodapofamfaaGreat
namespace Gs

structure BhI (q : List Uv) (ids : List Wr.Id) (f : List Bool) : Prop where
  len : f.length = q.length
  sound : ∀ i, i < q.length → at_ f i = true → Kw (ups q) ids (uvD q i).u.id
structure BhH (q : List Uv) (ids : List Wr.Id) (k : Nat) (f : List Bool) : Prop where
  st : BhI q ids f
  heads : ∀ i, i < q.length → (uvD q i).u.id ∈ ids.take k → at_ f i = true
theorem no_at (n i : Nat) : ¬ at_ (List.replicate n false) i = true := fun hi => by
  unfold at_ at hi
  rw [List.getD_eq_getElem?_getD, List.getElem?_replicate] at hi
  split at hi <;> cases hi
theorem BhH.start (q : List Uv) (ids : List Wr.Id) : BhH q ids 0 (List.replicate q.length false) := ⟨⟨List.length_replicate, (fun i _ h => absurd h (no_at _ _))⟩, (fun i _ h => by cases h)⟩
theorem take_id {ids : List Wr.Id} {k : Nat} (hk : k < ids.length) : ids.take (k + 1) = ids.take k ++ [idD ids k] := by
  rw [List.take_add_one, List.getElem?_eq_getElem hk]
  unfold idD
  rw [List.getD_eq_getElem?_getD, List.getElem?_eq_getElem hk]
  rfl
theorem mem_idD {ids : List Wr.Id} {k : Nat} (hk : k < ids.length) : idD ids k ∈ ids := by
  unfold idD
  rw [List.getD_eq_getElem?_getD, List.getElem?_eq_getElem hk]
  exact List.getElem_mem hk
theorem BhH.skip {q : List Uv} {ids : List Wr.Id} {k : Nat} {f : List Bool} (h : BhH q ids k f) (hk : k < ids.length) (hn : Dg.hasU (ups q) (idD ids k) = false) : BhH q ids (k + 1) f := by
  refine ⟨h.st, fun i hi hm => ?_⟩
  rw [take_id hk] at hm
  rcases List.mem_append.mp hm with h1 | h1
  · exact h.heads i hi h1
  · have h2 := has_uvD hi
    rw [List.mem_singleton.mp h1, hn] at h2
    cases h2
theorem BhI.set {q : List Uv} {ids : List Wr.Id} {f : List Bool} (h : BhI q ids f) {a : Nat} (hk : Kw (ups q) ids (uvD q a).u.id) : BhI q ids (f.set a true) := by
  refine ⟨(set_len _ _).trans h.len, fun i hi hg => ?_⟩
  rcases at_set.mp hg with h1 | ⟨rfl, _⟩
  · exact h.sound i hi h1
  · exact hk
theorem BhH.mark {q : List Uv} {ids : List Wr.Id} {k a : Nat} {f : List Bool} (h : BhH q ids k f) (hk : k < ids.length) (ha : a < q.length) (he : (uvD q a).u.id = idD ids k) (hq : Dg.Inj q) : BhH q ids (k + 1) (f.set a true) := by
  refine ⟨h.st.set (.head (by rw [he]; exact mem_idD hk) (has_uvD ha)), fun i hi hm => ?_⟩
  rw [take_id hk] at hm
  refine at_set.mpr ?_
  rcases List.mem_append.mp hm with h1 | h1
  · exact .inl (h.heads i hi h1)
  · exact .inr ⟨hq i a hi ha (by rw [List.mem_singleton.mp h1, he]), by rw [h.st.len]; exact ha⟩
/-- One pass, from behind: those at k or behind are done. -/
structure BhP (q : List Uv) (ids : List Wr.Id) (f0 : List Bool) (k : Nat) (f : List Bool) (ch : Bool) : Prop where
  st : BhI q ids f
  hd : ∀ i, i < q.length → (uvD q i).u.id ∈ ids → at_ f i = true
  le : left f ≤ left f0
  yes : ch = true → left f < left f0
  no : ch = false → f = f0 ∧ ∀ i, k ≤ i → i < q.length → at_ f i = true → ∀ j, j < q.length → (uvD q j).u.id ∈ Dg.under (uvD q i).u → at_ f j = true
structure BhQ (q : List Uv) (ids : List Wr.Id) (f0 : List Bool) (i m : Nat) (f : List Bool) (ch : Bool) : Prop where
  st : BhI q ids f
  hd : ∀ i, i < q.length → (uvD q i).u.id ∈ ids → at_ f i = true
  le : left f ≤ left f0
  yes : ch = true → left f < left f0
  no : ch = false → f = f0 ∧ (∀ t, i < t → t < q.length → at_ f t = true → ∀ j, j < q.length → (uvD q j).u.id ∈ Dg.under (uvD q t).u → at_ f j = true) ∧ ∀ j, j < q.length → (uvD q j).u.id ∈ (Dg.under (uvD q i).u).take m → at_ f j = true
theorem BhP.start {q : List Uv} {ids : List Wr.Id} {f : List Bool} (h : BhI q ids f) (hd : ∀ i, i < q.length → (uvD q i).u.id ∈ ids → at_ f i = true) : BhP q ids f q.length f false :=
  ⟨h, hd, Nat.le_refl _, (fun e => by cases e), fun _ => ⟨rfl, fun i h1 h2 => absurd h2 (by omega)⟩⟩
theorem BhQ.start {q : List Uv} {ids : List Wr.Id} {f0 f : List Bool} {i : Nat} {ch : Bool} (h : BhP q ids f0 (i + 1) f ch) : BhQ q ids f0 i 0 f ch :=
  ⟨h.st, h.hd, h.le, h.yes, fun e => ⟨(h.no e).1, (fun t ht => (h.no e).2 t ht), (fun j _ hm => by cases hm)⟩⟩
theorem BhQ.skip {q : List Uv} {ids : List Wr.Id} {f0 f : List Bool} {i m : Nat} {ch : Bool} (h : BhQ q ids f0 i m f ch) (hm : m < (Dg.under (uvD q i).u).length) (hx : ∀ j, j < q.length → (uvD q j).u.id = idD (Dg.under (uvD q i).u) m → at_ f j = true) : BhQ q ids f0 i (m + 1) f ch := by
  refine ⟨h.st, h.hd, h.le, h.yes, fun e => ⟨(h.no e).1, (h.no e).2.1, fun j hj hu => ?_⟩⟩
  rw [take_id hm] at hu
  rcases List.mem_append.mp hu with h1 | h1
  · exact (h.no e).2.2 j hj h1
  · exact hx j hj (List.mem_singleton.mp h1)
theorem BhQ.mark {q : List Uv} {ids : List Wr.Id} {f0 f : List Bool} {i m a : Nat} {ch : Bool} (h : BhQ q ids f0 i m f ch) (hi : i < q.length) (hf : at_ f i = true) (hm : m < (Dg.under (uvD q i).u).length) (ha : a < q.length) (he : (uvD q a).u.id = idD (Dg.under (uvD q i).u) m) (hn : at_ f a = false) : BhQ q ids f0 i (m + 1) (f.set a true) true := by
  have hll := left_set (by rw [h.st.len]; exact ha) hn
  have hle := h.le
  refine ⟨h.st.set (.under (mem_uvD hi) (h.st.sound i hi hf) (by rw [he]; exact mem_idD hm) (has_uvD ha)), fun t ht hd => at_set.mpr (.inl (h.hd t ht hd)), by omega, (fun _ => by omega), (fun e => by cases e)⟩
theorem BhQ.fin {q : List Uv} {ids : List Wr.Id} {f0 f : List Bool} {i m : Nat} {ch : Bool} (h : BhQ q ids f0 i m f ch) (he : (Dg.under (uvD q i).u).length ≤ m ∨ at_ f i = false) : BhP q ids f0 i f ch := by
  refine ⟨h.st, h.hd, h.le, h.yes, fun e => ⟨(h.no e).1, fun t ht hl ha j hj hu => ?_⟩⟩
  by_cases e2 : t = i
  · subst e2
    rcases he with h1 | h1
    · exact (h.no e).2.2 j hj (by rw [List.take_of_length_le h1]; exact hu)
    · rw [ha] at h1; cases h1
  · exact (h.no e).2.1 t (by omega) hl ha j hj hu
theorem BhP.known {q : List Uv} {ids : List Wr.Id} {f0 f : List Bool} (h : BhP q ids f0 0 f false) : f = known (ups q) ids :=
  known_of h.st.len h.st.sound h.hd (fun i hi ha => (h.no rfl).2 i (Nat.zero_le _) hi ha)
end Gs
end Go.Proofs.YtmfaodapofamfaaGreat

/- BehindOf: of each update whether it is one of some ids, or behind one. -/
namespace Go.Proofs.YtmfaodapofamfaaGreat
open Go.RowKit

def notB : Value → Bool
  | .bool b => !b
  | _ => false
def rowLeft (LB : Nat) (w : World) : Nat := match w.heap[LB]? with
  | some (.cells c _ _) => c.toList.countP notB
  | _ => 0
theorem rowLeft_eq {w1 W : World} {LB : Nat} {f : List Bool} (h : BRow w1 LB W f) : rowLeft LB W = Gs.left f := by
  unfold rowLeft
  rw [h.row]
  show (boolRow f).toList.countP notB = _
  unfold boolRow Gs.left
  rw [List.countP_map]
  rfl

set_option maxRecDepth 100000 in
set_option maxHeartbeats 4000000 in
theorem BehindOf_any (q : List Uv) (ids : List Wr.Id) (lv iv : Value) (w : World) (hV : UpsV w lv q) (hl : q.length ≤ 1000) (hok : ∀ y, y ∈ q → UvOk w y ∧ y.u.ps.length ≤ 6 ∧ y.u.ts.length ≤ 6) (hI : IdsV w iv ids) (hil : ids.length ≤ 9223372036854775806) (hnd : ((ups q).map Wr.Up.id).Nodup) :
    Calls Tryz.prog 61 #[lv, iv] w fun e w' => ∃ K, e = .returned (.slice (some ⟨K, 0, none⟩) q.length q.length) ∧ w'.heap[K]? = some (.cells (boolRow (Gs.known (ups q) ids)) 4) ∧ w.heap.size ≤ K ∧ Below w.heap.size w w' := by
  have HV : Hid (UpsV w lv q) := hV
  have HOK : Hid (∀ y, y ∈ q → UvOk w y ∧ y.u.ps.length ≤ 6 ∧ y.u.ts.length ≤ 6) := hok
  have HJ : Hid (Dg.Inj q) := Dg.inj_of_nodup hnd
  obtain ⟨ao, cap, rfl, _, hA⟩ := hV
  obtain ⟨ai, ci, rfl, _, hAi⟩ := hI
  have HA : Hid (UpsAt w ao q) := hA
  have HAI : Hid (IdsAt w ai ids) := hAi
  have hmk := run_make_row' (P := Tryz.prog) 92 4 (.bool false) 1 Tryz.underlying92 (by kernel_rfl) rfl .i64 .i64 q.length (by omega) (by omega)
  simp only [made_boolRow] at hmk
  have HB1 : Hid (Below w.heap.size w (w.alloc (.cells (boolRow (List.replicate q.length false)) 4))) := (Below.refl _ _).alloc (Nat.le_refl _) _
  have HW1 : Hid ((w.alloc (.cells (boolRow (List.replicate q.length false)) 4)).heap[w.heap.size]? = some (.cells (boolRow (List.replicate q.length false)) 4)) := rl_new w _
  clear hok hnd hA hAi
  go_enter Tryz.func61, Tryz.ntmps61
  go_wp2_with fail
  generalize w.alloc (.cells (boolRow (List.replicate q.length false)) 4) = w1 at *
  clear hmk
  have HST : Hid (BRow w1 w.heap.size w1 (List.replicate q.length false)) := ⟨HW1.out, grown_refl _ _⟩
  have HTO : Hid (∀ z f, BRow w1 w.heap.size z f → Below w.heap.size w z) := fun z f hz => below_row HB1.out hz.gr (Nat.le_refl _)
  clear HW1
  go_loopw [6] (fun iv wr => ∃ (k : Nat) (f : List Bool), k ≤ ids.length ∧ iv = .int .i64 k ∧ Hid (Gs.BhH q ids k f) ∧ Hid (BRow w1 w.heap.size wr f)) (fun iv _ => ids.length - (intOf iv).toNat)
  case atStart => exact ⟨0, _, Nat.zero_le _, rfl, Gs.BhH.start q ids, HST.out⟩
  case round =>
    clear HST
    obtain ⟨k, f, hk, rfl, HH, HR⟩ := hrel
    by_cases hlt : k < ids.length
    · have g1 : decide (k < ids.length) = true := decide_eq_true hlt
      have HSK : Hid (Dg.hasU (ups q) (idD ids k) = false → Gs.BhH q ids (k + 1) f) := fun h => HH.out.skip hlt h
      have HMK : Hid (∀ a, a < q.length → (uvD q a).u.id = idD ids k → Gs.BhH q ids (k + 1) (f.set a true)) := fun a ha he => HH.out.mark hlt ha he HJ.out
      have hfl : f.length = q.length := HH.out.st.len
      have hbw := HTO.out wr f HR.out
      obtain ⟨bi, oi, ei, i0, i1⟩ := ids_at HAI.out k hlt
      have j0 := cell_below hbw i0
      have j1 := cell_below hbw i1
      clear i0 i1
      generalize idD ids k = x at *
      obtain ⟨xa, xn⟩ := x
      dsimp only at j0 j1
      subst ei
      have HPL : Hid _ := PlaceOf_any q ⟨xa, xn⟩ (.slice ao q.length cap) wr (HV.out.kc (Kc.below hbw)) (by omega)
      clear hbw HH
      go_wp2_with fail
      refine Calls.mono HPL.out ?_
      rintro _ w2 ⟨r, rfl, hr, hb2⟩
      have HR2 : Hid (BRow w1 w.heap.size w2 f) := HR.out.below hb2
      clear HPL hb2 HR j0 j1
      rcases hr with ⟨rfl, hn⟩ | ⟨m, rfl, hm, hme⟩
      · have HN : Hid _ := HSK.out hn
        clear HSK HMK hn
        go_wp2_with fail
        go_roundw
        case rel => exact ⟨k + 1, f, hlt, by go_num, HN.out, HR2.out⟩
        case measure => simp [intOf]; omega
      · have d0 : decide ((m : Int) ≥ 0) = true := decide_eq_true (by omega)
        have d0' : decide (0 ≤ (m : Int)) = true := decide_eq_true (by omega)
        have HN : Hid _ := HMK.out m hm hme
        have kc := boolRow_cell HR2.out.row (i := m) (by omega)
        have kf := Lib.frozen_of_heap HR2.out.row m
        have HR3 : Hid (BRow w1 w.heap.size (w2.setCell ⟨w.heap.size, m, none⟩ (.bool true)) (f.set m true)) := HR2.out.set m true
        clear HSK HMK hme HR2
        go_wp2_with fail
        go_roundw
        case rel => exact ⟨k + 1, _, hlt, by go_num, HN.out, HR3.out⟩
        case measure => simp [intOf]; omega
    · have g1 : decide (k < ids.length) = false := decide_eq_false hlt
      have HBI : Hid (Gs.BhI q ids f) := HH.out.st
      have HHD : Hid (∀ i, i < q.length → (uvD q i).u.id ∈ ids → Gs.at_ f i = true) := fun i hi hm => HH.out.heads i hi (by rw [List.take_of_length_le (by omega)]; exact hm)
      clear HH hk hlt HAI
      generalize wr = wL at *
      go_wp2_with fail
      go_loopw [8] (fun cv wr => ∃ (f : List Bool) (ch : Bool), cv = .bool ch ∧ Hid (Gs.BhI q ids f) ∧ Hid (∀ i, i < q.length → (uvD q i).u.id ∈ ids → Gs.at_ f i = true) ∧ Hid (ch = false → ∃ f0, Gs.BhP q ids f0 0 f false) ∧ Hid (BRow w1 w.heap.size wr f)) (fun cv wr => 2 * rowLeft w.heap.size wr + bit cv)
      case atStart => exact ⟨f, true, rfl, HBI.out, HHD.out, (fun e => by cases e), HR.out⟩
      case round =>
        clear HBI HHD HR
        obtain ⟨f, ch, rfl, HBI, HHD, HFN, HR⟩ := hrel
        generalize wr = wO at *
        cases ch
        · obtain ⟨f0, hP⟩ := HFN.out rfl
          have hrow := HR.out.row
          rw [hP.known] at hrow
          have HBW : Hid (Below w.heap.size w wO) := HTO.out _ _ HR.out
          clear HFN HBI HHD HR hP
          go_wp2_with fail
          go_ret
          exact ⟨w.heap.size, rfl, hrow, Nat.le_refl _, HBW.out⟩
        · clear HFN
          have HLF : Hid (rowLeft w.heap.size wO = Gs.left f) := rowLeft_eq HR.out
          go_wp2_with fail
          go_loopw [8, 9] (fun cv iv wr => ∃ (f' : List Bool) (ch : Bool) (k : Nat), k ≤ q.length ∧ cv = .bool ch ∧ iv = .int .i64 ((k : Int) - 1) ∧ Hid (Gs.BhP q ids f k f' ch) ∧ Hid (BRow w1 w.heap.size wr f')) (fun _ iv _ => (intOf iv + 1).toNat)
          case atStart => exact ⟨f, false, q.length, Nat.le_refl _, rfl, by go_num, Gs.BhP.start HBI.out HHD.out, HR.out⟩
          case round =>
            clear HBI HHD HR
            obtain ⟨f', ch, k, hk, rfl, rfl, HP, HR⟩ := hrel
            cases k with
            | zero =>
              have em : ((0 : Nat) : Int) - 1 = -1 := by omega
              rw [em]
              clear em
              have HBI2 : Hid (Gs.BhI q ids f') := HP.out.st
              have HHD2 : Hid (∀ i, i < q.length → (uvD q i).u.id ∈ ids → Gs.at_ f' i = true) := HP.out.hd
              have HFN2 : Hid (ch = false → ∃ f0, Gs.BhP q ids f0 0 f' false) := fun e => ⟨f, by rw [← e]; exact HP.out⟩
              have HMS : Hid (2 * rowLeft w.heap.size wr + bit (.bool ch) < 2 * rowLeft w.heap.size wO + bit (.bool true)) := by
                show _ < _
                rw [rowLeft_eq HR.out, HLF.out]
                have h1 := HP.out.le
                cases ch with
                | true => have h2 := HP.out.yes rfl; simp [bit]; omega
                | false => simp [bit]; omega
              clear HP HLF
              go_wp2_with fail
              go_roundw
              case rel => exact ⟨f', ch, rfl, HBI2.out, HHD2.out, HFN2.out, HR.out⟩
              case measure => exact HMS.out
            | succ i =>
              have em : ((i + 1 : Nat) : Int) - 1 = (i : Int) := by omega
              rw [em]
              clear em
              have d0 : decide ((i : Int) ≥ 0) = true := decide_eq_true (by omega)
              have d0' : decide (0 ≤ (i : Int)) = true := decide_eq_true (by omega)
              have hlt : i < q.length := hk
              have HBM : Hid (Below w.heap.size w wr) := HTO.out _ _ HR.out
              have HQ0 : Hid (Gs.BhQ q ids f i 0 f' ch) := Gs.BhQ.start HP.out
              obtain ⟨b, off, eb, p0, p1, p2, p3, p4⟩ := ups_at HA.out i hlt
              have c0 := cell_below HBM.out p0
              have c1 := cell_below HBM.out p1
              have c2 := cell_below HBM.out p2
              have c3 := cell_below HBM.out p3
              have c4 := cell_below HBM.out p4
              clear p0 p1 p2 p3 p4 HP
              have hx := HOK.out _ (uvD_mem q i hlt)
              have hun : (Dg.under (uvD q i).u).length ≤ 12 := by unfold Dg.under; rw [List.length_append]; omega
              have HUC : Hid (Calls Tryz.prog 84 #[uvVal (uvD q i)] wr fun e w' => ∃ v, e = .returned v ∧ IdsV w' v (Dg.under (uvD q i).u) ∧ Below wr.heap.size wr w') := Under_any _ _ (hx.1.below HBM.out) hx.2
              have HFI : Hid (∀ m f2 c, Gs.BhQ q ids f i m f2 c → (Dg.under (uvD q i).u).length ≤ m ∨ Gs.at_ f2 i = false → Gs.BhP q ids f i f2 c) := fun m f2 c h1 h2 => h1.fin h2
              have HSK : Hid (∀ m f2 c, m < (Dg.under (uvD q i).u).length → Gs.BhQ q ids f i m f2 c → (∀ j, j < q.length → (uvD q j).u.id = idD (Dg.under (uvD q i).u) m → Gs.at_ f2 j = true) → Gs.BhQ q ids f i (m + 1) f2 c) := fun m f2 c h0 h1 h2 => h1.skip h0 h2
              have HMA : Hid (∀ m f2 c a, m < (Dg.under (uvD q i).u).length → Gs.BhQ q ids f i m f2 c → Gs.at_ f2 i = true → a < q.length → (uvD q a).u.id = idD (Dg.under (uvD q i).u) m → Gs.at_ f2 a = false → Gs.BhQ q ids f i (m + 1) (f2.set a true) true) := fun m f2 c a h0 h1 h2 h3 h4 h5 => h1.mark hlt h2 h0 h3 h4 h5
              obtain ⟨a1, n1, d1, a2, n2, d2, a3, n3, d3, e1, e2, e3⟩ := hx.1.forms
              clear hx
              generalize Dg.under (uvD q i).u = l at *
              generalize uvD q i = x at *
              obtain ⟨⟨⟨ua, un⟩, ps, says, ts⟩, vp, vs, vt⟩ := x
              dsimp only at *
              subst e1 e2 e3
              subst eb
              go_wp2_with fail
              refine Calls.mono HUC.out ?_
              rintro _ wU ⟨v, rfl, hI, hbU⟩
              obtain ⟨a9, c9, rfl, _, hL⟩ := hI
              have HL : Hid (IdsAt wU a9 l) := hL
              have HRU : Hid (BRow w1 w.heap.size wU f') := HR.out.below hbU
              clear c0 c1 c2 c3 c4 HUC hL hbU HBM
              go_wp2_with fail
              go_loopw [8, 11] (fun cv mv wr => ∃ (m : Nat) (f2 : List Bool) (c : Bool), m ≤ l.length ∧ cv = .bool c ∧ mv = .int .i64 m ∧ Hid (Gs.BhQ q ids f i m f2 c) ∧ Hid (BRow w1 w.heap.size wr f2) ∧ Hid (wU.grownBy wr (some w.heap.size))) (fun _ mv _ => l.length - (intOf mv).toNat)
              case atStart => exact ⟨0, f', ch, Nat.zero_le _, rfl, rfl, HQ0.out, HRU.out, grown_refl _ _⟩
              case round =>
                clear HQ0 HR
                obtain ⟨m, f2, c, hm, rfl, rfl, HQ, HR2, HG2⟩ := hrel
                generalize wr = wI at *
                have hfl : f2.length = q.length := HQ.out.st.len
                have kc := boolRow_cell HR2.out.row (i := i) (by omega)
                by_cases hml : m < l.length
                case neg =>
                  have g2 : decide (m < l.length) = false := decide_eq_false hml
                  have HN : Hid _ := HFI.out m f2 c HQ.out (.inl (by omega))
                  clear HFI HSK HMA HQ kc
                  go_wp2_with fail
                  go_roundw
                  case rel => exact ⟨f2, c, i, by omega, rfl, by go_num, HN.out, HR2.out⟩
                  case measure => simp [intOf]
                have g2 : decide (m < l.length) = true := decide_eq_true hml
                cases hfi : f2.getD i false with
                | false =>
                  rw [hfi] at kc
                  have HN : Hid _ := HFI.out m f2 c HQ.out (.inr hfi)
                  clear HFI HSK HMA HQ hfi
                  go_wp2_with fail
                  go_roundw
                  case rel => exact ⟨f2, c, i, by omega, rfl, by go_num, HN.out, HR2.out⟩
                  case measure => simp [intOf]
                | true =>
                  rw [hfi] at kc
                  have HS2 : Hid ((∀ j, j < q.length → (uvD q j).u.id = idD l m → Gs.at_ f2 j = true) → Gs.BhQ q ids f i (m + 1) f2 c) := fun h => HSK.out m f2 c hml HQ.out h
                  have HM2 : Hid (∀ a, a < q.length → (uvD q a).u.id = idD l m → Gs.at_ f2 a = false → Gs.BhQ q ids f i (m + 1) (f2.set a true) true) := fun a h3 h4 h5 => HMA.out m f2 c a hml HQ.out hfi h3 h4 h5
                  have hkn := kn_row HRU.out.row HG2.out
                  obtain ⟨bi, oi, ei, i0, i1⟩ := ids_at HL.out m hml
                  have j0 := hkn _ ⟨_, _, i0⟩ _ _ i0
                  have j1 := hkn _ ⟨_, _, i0⟩ _ _ i1
                  clear i0 i1 hkn HQ hfi
                  generalize idD l m = x at *
                  obtain ⟨xa, xn⟩ := x
                  dsimp only at j0 j1
                  subst ei
                  have HPL : Hid _ := PlaceOf_any q ⟨xa, xn⟩ _ wI (HV.out.kc (Kc.below (HTO.out _ _ HR2.out))) (by omega)
                  go_wp2_with fail
                  refine Calls.mono HPL.out ?_
                  rintro _ w2 ⟨r, rfl, hr, hb2⟩
                  have HR3 : Hid (BRow w1 w.heap.size w2 f2) := HR2.out.below hb2
                  have HG3 : Hid (wU.grownBy w2 (some w.heap.size)) := grown_below HG2.out hb2
                  clear HPL hb2 HR2 HG2 j0 j1 kc
                  rcases hr with ⟨rfl, hn⟩ | ⟨a, rfl, ha, hae⟩
                  · have HN : Hid (Gs.BhQ q ids f i (m + 1) f2 c) := HS2.out (fun j hj e => by
                      have h2 := Gs.has_uvD hj
                      rw [e, hn] at h2
                      cases h2)
                    clear HS2 HM2 hn
                    go_wp2_with fail
                    go_roundw
                    case rel => exact ⟨m + 1, f2, c, hml, rfl, by go_num, HN.out, HR3.out, HG3.out⟩
                    case measure => simp [intOf]; omega
                  · have d1 : decide ((a : Int) ≥ 0) = true := decide_eq_true (by omega)
                    have d1' : decide (0 ≤ (a : Int)) = true := decide_eq_true (by omega)
                    have ka := boolRow_cell HR3.out.row (i := a) (by omega)
                    cases hfa : f2.getD a false with
                    | true =>
                      rw [hfa] at ka
                      have HN : Hid (Gs.BhQ q ids f i (m + 1) f2 c) := HS2.out (fun j hj e => by
                        rw [HJ.out j a hj ha (e.trans hae.symm)]
                        exact hfa)
                      clear HS2 HM2 hae hfa
                      go_wp2_with fail
                      go_roundw
                      case rel => exact ⟨m + 1, f2, c, hml, rfl, by go_num, HN.out, HR3.out, HG3.out⟩
                      case measure => simp [intOf]; omega
                    | false =>
                      rw [hfa] at ka
                      have HN : Hid _ := HM2.out a ha hae hfa
                      have kf := Lib.frozen_of_heap HR3.out.row a
                      have HR4 : Hid (BRow w1 w.heap.size (w2.setCell ⟨w.heap.size, a, none⟩ (.bool true)) (f2.set a true)) := HR3.out.set a true
                      have HG4 : Hid (wU.grownBy (w2.setCell ⟨w.heap.size, a, none⟩ (.bool true)) (some w.heap.size)) := grown_trans HG3.out ⟨rfl, rfl, rfl, by simp, fun j _ hn => heap_set_other (fun e => hn (by rw [e]))⟩
                      clear HS2 HM2 hae hfa HR3 HG3
                      go_wp2_with fail
                      go_roundw
                      case rel => exact ⟨m + 1, _, true, hml, rfl, by go_num, HN.out, HR4.out, HG4.out⟩
                      case measure => simp [intOf]; omega
end Go.Proofs.YtmfaodapofamfaaGreat

/- MissingOf: the document's. -/
namespace Go.Proofs.YtmfaodapofamfaaGreat
open Go.RowKit

set_option maxRecDepth 100000 in
set_option maxHeartbeats 4000000 in
theorem MissingOf_any (hq wq : List Uv) (hv wv : Value) (ids : List Wr.Id) (iv : Value) (w : World) (hV : UpsV w hv hq) (wV : UpsV w wv wq) (hl : hq.length ≤ 200) (hok : ∀ y, y ∈ hq → UvOk w y ∧ Wr.check y.u = 0) (hI : IdsV w iv ids) (hil : ids.length ≤ 9223372036854775806) (hnd : ((ups hq).map Wr.Up.id).Nodup) :
    Calls Tryz.prog 23 #[.agg #[hv, wv], iv] w fun e w' => ∃ (v : Value) (R : List Uv), e = .returned v ∧ UpsV w' v R ∧ (∀ x, x ∈ R → UvOk w' x) ∧ ups R = Gs.missing (ups hq) ids ∧ Below w.heap.size w w' := by
  obtain ⟨ah, ch, rfl, hch, hAt⟩ := id hV
  obtain ⟨aw, cw, rfl, hcw, wAt⟩ := id wV
  obtain ⟨ai, ci, rfl, hci, hAi⟩ := id hI
  clear hch hcw wAt hci hAi wV
  have HR : Hid (∀ z, Below w.heap.size w z → UpsV z (.slice ah hq.length ch) hq ∧ (∀ y, y ∈ hq → UvOk z y) ∧ IdsV z (.slice ai ids.length ci) ids) := fun z hz => ⟨hV.kc (Kc.below hz), (fun y hy => (hok y hy).1.below hz), idsV_below hI hz⟩
  have HEA : Hid (∀ y, y ∈ hq → Wr.check y.u = 0) := fun y hy => (hok y hy).2
  clear hV hI hok hAt
  have b0 := heap_alloc_new w (.cells #[.slice ah hq.length ch, .slice aw wq.length cw] 24)
  have g0 := new_below w (.cells #[.slice ah hq.length ch, .slice aw wq.length cw] 24)
  go_enter Tryz.func23, Tryz.ntmps23
  go_upto_region 1 with fail
  generalize w.alloc (.cells #[.slice ah hq.length ch, .slice aw wq.length cw] 24) = w1 at *
  have HX1 : Hid (∀ z, Below w1.heap.size w1 z → z.cell? ⟨w.heap.size, 0, none⟩ = some (.slice ah hq.length ch)) := fun z hz => cell_below hz (by rw [Lib.cell_of_heap b0]; rfl)
  have HG1 : Hid (Below w.heap.size w w1) := g0
  clear b0 g0
  have HKB : Hid _ := BehindOf_any hq ids (.slice ah hq.length ch) (.slice ai ids.length ci) w1 (HR.out w1 HG1.out).1 (by omega) (fun y hy => ⟨(HR.out w1 HG1.out).2.1 y hy, (Wr.right_of (HEA.out y hy)).ps, (Wr.right_of (HEA.out y hy)).ts⟩) (HR.out w1 HG1.out).2.2 hil hnd
  have x0 := HX1.out w1 (Below.refl _ _)
  go_wp2_with fail
  refine Calls.mono HKB.out ?_
  rintro _ wO ⟨K, rfl, hrow, hKl, hb3⟩
  have HXO : Hid (∀ z, Below wO.heap.size wO z → z.cell? ⟨w.heap.size, 0, none⟩ = some (.slice ah hq.length ch)) := fun z hz => HX1.out z (hb3.trans (hz.mono hb3.size))
  have HGO : Hid (Below w.heap.size w wO) := HG1.out.trans (hb3.mono HG1.out.size)
  have HROW : Hid (wO.heap[K]? = some (.cells (boolRow (Gs.known (ups hq) ids)) 4)) := hrow
  clear x0 hb3 HX1 HG1 HKB hrow hKl
  go_wp2_with fail
  go_loopw [6, 7] (fun mv iv wr => ∃ (k : Nat) (R : List Uv), k ≤ hq.length ∧ iv = .int .i64 k ∧ Hid (ups R = (ups (hq.take k)).filter (fun u => !Gs.knows (ups hq) ids u)) ∧ URow wr wO.heap.size mv R ∧ Hid (R.length ≤ k ∧ ∀ x, x ∈ R → x ∈ hq) ∧ Hid (Below wO.heap.size wO wr)) (fun _ iv _ => hq.length - (intOf iv).toNat)
  case atStart => exact ⟨0, [], Nat.zero_le _, rfl, rfl, World.ownsRow_nil _ _ _ _, ⟨Nat.le_refl _, (fun x hx => by cases hx)⟩, Below.refl _ _⟩
  case round =>
    obtain ⟨k, R, hk, rfl, HU, hrw, HP, HB⟩ := hrel
    obtain ⟨aR, cR, rfl⟩ := own_slice hrw
    have hRk := HP.out.1
    have x0 := HXO.out wr HB.out
    by_cases hlt : k < hq.length
    · have g1 : decide (k < hq.length) = true := decide_eq_true hlt
      have g1' : decide ((k : Int) < (hq.length : Int)) = true := decide_eq_true (by omega)
      have HBw : Hid (Below w.heap.size w wr) := HGO.out.trans (HB.out.mono HGO.out.size)
      have hst := Gs.miss_step (ids := ids) hlt
      have kc := boolRow_cell (i := k) ((HB.out.block _ (Array.getElem?_eq_some_iff.1 HROW.out).1).trans HROW.out) (by unfold Gs.known; rw [List.length_map, ups_length]; exact hlt)
      rw [Gs.known_at hlt] at kc
      cases hkn : Gs.knows (ups hq) ids (uvD hq k).u with
      | true =>
        rw [hkn] at kc hst
        have HU2 : Hid (ups R = (ups (hq.take (k + 1))).filter (fun u => !Gs.knows (ups hq) ids u)) := by
          show _ = _
          rw [hst, HU.out]
          simp
        have HRW : Hid (URow wr wO.heap.size (.slice aR R.length cR) R) := hrw
        clear hst hkn HU hrw
        go_wp2_with fail
        go_roundw
        case rel => exact ⟨k + 1, R, hlt, by go_num, HU2.out, HRW.out, ⟨by omega, HP.out.2⟩, HB.out⟩
        case measure => simp [intOf]; omega
      | false =>
        rw [hkn] at kc hst
        have HM3 : Hid (ups (R ++ [uvD hq k]) = (ups (hq.take (k + 1))).filter (fun u => !Gs.knows (ups hq) ids u)) := by
          show _ = _
          rw [hst, ups_append, HU.out]
          simp [ups]
        have HP9 : Hid ((R ++ [uvD hq k]).length ≤ k + 1 ∧ ∀ x, x ∈ R ++ [uvD hq k] → x ∈ hq) := ⟨by rw [List.length_append, List.length_singleton]; omega, fun x hx => by
          rcases List.mem_append.mp hx with h9 | h9
          · exact HP.out.2 x h9
          · rw [List.mem_singleton.mp h9]
            exact uvD_mem hq k hlt⟩
        clear hst hkn HU HP
        have hxo := (HR.out wr HBw.out).2.1 _ (uvD_mem hq k hlt)
        obtain ⟨ah', ch', eh, _, hAA⟩ := (HR.out wr HBw.out).1
        cases eh
        obtain ⟨b, off, eb, p0, p1, p2, p3, p4⟩ := ups_at hAA k hlt
        clear hAA
        generalize uvD hq k = x at *
        obtain ⟨b1, m1, f1, b2, m2, f2, b3, m3, f3, e1, e2, e3⟩ := hxo.forms
        have HX : Hid (UvOk wr x) := hxo
        clear hxo
        obtain ⟨⟨⟨va, vn⟩, ps, says, ts⟩, vp, vs, vt⟩ := x
        dsimp only at *
        subst e1 e2 e3
        subst eb
        go_wp2_with (at_builtin; refine wp_append_ups (W := wr) rfl _ _ rfl wO.heap.size (HB.out.alloc HB.out.size _).size _ R rfl (hrw.alloc _) (some ⟨wr.heap.size, 0, none⟩) 1 [(⟨⟨⟨va, vn⟩, ps, says, ts⟩, .slice b1 m1 f1, .slice b2 m2 f2, .slice b3 m3 f3⟩ : Uv)] rfl (fun h => by cases h) (ups_one _ ⟨⟨⟨va, vn⟩, ps, says, ts⟩, .slice b1 m1 f1, .slice b2 m2 f2, .slice b3 m3 f3⟩) (one_ok HX.out) (by rw [List.length_singleton]; omega) ?_; intro vs9 z9 hown9 hgrow9)
        have hB9 : Below wO.heap.size wO z9 := (HB.out.alloc HB.out.size _).grown hgrow9 (HB.out.alloc HB.out.size _).size (fun j e => (hrw.lt j e).1)
        obtain ⟨ao9, cap9, rfl⟩ := own_slice hown9
        have RF : Hid (URow z9 wO.heap.size (.slice ao9 (R ++ [(⟨⟨⟨va, vn⟩, ps, says, ts⟩, .slice b1 m1 f1, .slice b2 m2 f2, .slice b3 m3 f3⟩ : Uv)]).length cap9) (R ++ [(⟨⟨⟨va, vn⟩, ps, says, ts⟩, .slice b1 m1 f1, .slice b2 m2 f2, .slice b3 m3 f3⟩ : Uv)])) := hown9
        have B9 : Hid (Below wO.heap.size wO z9) := hB9
        clear hB9 hown9 hgrow9 hrw HB p0 p1 p2 p3 p4 kc x0
        go_wp2_with fail
        go_roundw
        case rel => exact ⟨k + 1, _, hlt, by go_num, HM3.out, RF.out, HP9.out, B9.out⟩
        case measure => simp [intOf]; omega
    · have g1 : decide (k < hq.length) = false := decide_eq_false hlt
      have g1' : decide ((k : Int) < (hq.length : Int)) = false := decide_eq_false (by omega)
      have HF : Hid (ups R = Gs.missing (ups hq) ids) := by
        show _ = _
        rw [HU.out, List.take_of_length_le (by omega)]
        rfl
      have HUV : Hid (UpsV wr (.slice aR R.length cR) R) := own_ups hrw
      have HBw : Hid (Below w.heap.size w wr) := HGO.out.trans (HB.out.mono HGO.out.size)
      clear hrw HU
      go_wp2_with fail
      go_ret
      exact ⟨_, R, rfl, HUV.out, (fun x hx => (HR.out wr HBw.out).2.1 x (HP.out.2 x hx)), HF.out, HBw.out⟩
end Go.Proofs.YtmfaodapofamfaaGreat

