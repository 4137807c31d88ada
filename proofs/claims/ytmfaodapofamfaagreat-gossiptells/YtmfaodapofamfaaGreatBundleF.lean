/- Own texts, one behind the other (part 6). -/
import Derived.Test.YtmfaodapofamfaaGreatBundleE
import Derived.Test.YtmfaodapofamfaaGreatRows
import Derived.Deep.RegionWith
import Derived.Deep.Cut
import Derived.Laws.IdiomStrings
import Derived.Laws.BitsAllLaws
import Derived.Laws.Strings2
import Derived.Lib.BufferMore
import Derived.Laws.EntriesVeiled
/- Package dag: Add. -/
namespace Go.Proofs.YtmfaodapofamfaaGreat
open Go.RowKit Go.Maps
def addT (ah : Option Addr) (nh ch : Nat) (aw : Option Addr) (nw cw : Nat) (ua un : Int) (a1 : Option Addr) (n1 d1 : Nat) (a2 : Option Addr) (n2 d2 : Nat) (a3 : Option Addr) (n3 d3 : Nat) (cr cu co : Int) (tQ : Nat) (vQ : Value) (WQ : World) : Prop :=
  match tQ with
  | 10 => vQ = .agg #[.slice ah nh ch, .slice aw nw cw]
  | 11 => vQ = .int .i64 cr
  | 12 => vQ = .agg #[.int .i64 ua, .int .i64 un, .slice a1 n1 d1, .slice a2 n2 d2, .slice a3 n3 d3]
  | 13 => vQ = .int .i64 cu
  | 14 => ∃ g, vQ = .slice (some ⟨g, 0, none⟩) 2 2 ∧ WQ.cell? ⟨g, 0, none⟩ = some (.int .i64 cr) ∧ WQ.cell? ⟨g, 1, none⟩ = some (.int .i64 cu)
  | 15 => vQ = .int .i64 co
  | 6 => vQ = .int .i64 co
  | _ => True
theorem addT_mono (ah : Option Addr) (nh ch : Nat) (aw : Option Addr) (nw cw : Nat) (ua un : Int) (a1 : Option Addr) (n1 d1 : Nat) (a2 : Option Addr) (n2 d2 : Nat) (a3 : Option Addr) (n3 d3 : Nat) (cr cu co : Int) (tQ : Nat) (vQ : Value) (W W' : World) (hb : Below W.heap.size W W') (h : addT ah nh ch aw nw cw ua un a1 n1 d1 a2 n2 d2 a3 n3 d3 cr cu co tQ vQ W) : addT ah nh ch aw nw cw ua un a1 n1 d1 a2 n2 d2 a3 n3 d3 cr cu co tQ vQ W' := by
  revert h
  unfold addT
  split <;> (intro h; first | exact h | exact (h.elim fun g h => ⟨g, h.1, cell_below hb h.2.1, cell_below hb h.2.2⟩))
def addT5 (al : Option Addr) (nl cl X : Nat) (ua un : Int) (q : List Uv) (hb9 : Bool) (tQ : Nat) (vQ : Value) (WQ : World) : Prop :=
  match tQ with
  | 26 => vQ = .slice al nl cl
  | 27 => ∃ b, vQ = .map (some b) ∧ CmAt WQ b q
  | 28 => vQ = .pointer (some ⟨X, 0, none⟩)
  | 29 => vQ = .agg #[.int .i64 ua, .int .i64 un]
  | 30 => ∃ g, vQ = .slice (some ⟨g, 0, none⟩) 1 1 ∧ WQ.cell? ⟨g, 0, none⟩ = some (.int .i64 ua) ∧ WQ.cell? ⟨g, 1, none⟩ = some (.int .i64 un)
  | 31 => vQ = .bool hb9
  | 32 => vQ = .bool (!hb9)
  | _ => True
theorem addT5_mono (al : Option Addr) (nl cl X : Nat) (ua un : Int) (q : List Uv) (hb9 : Bool) (tQ : Nat) (vQ : Value) (W W' : World) (hb : Below W.heap.size W W') (h : addT5 al nl cl X ua un q hb9 tQ vQ W) : addT5 al nl cl X ua un q hb9 tQ vQ W' := by
  revert h
  unfold addT5
  split <;> (intro h; first | exact h | exact (h.elim fun b h => ⟨b, h.1, h.2.below hb⟩) | exact (h.elim fun g h => ⟨g, h.1, cell_below hb h.2.1, cell_below hb h.2.2⟩))

theorem ups_nil (w : World) : UpsV w (.slice none 0 0) [] := ⟨none, 0, rfl, ⟨Nat.le_refl _, fun _ => rfl⟩, .inl rfl⟩
set_option maxRecDepth 100000 in
set_option maxHeartbeats 1000000 in
theorem orE_any (a b : Int) (g : Nat) (w : World) (h0 : w.cell? ⟨g, 0, none⟩ = some (.int .i64 a)) (h1 : w.cell? ⟨g, 1, none⟩ = some (.int .i64 b)) :
    Calls Tryz.prog 27 #[.slice (some ⟨g, 0, none⟩) 2 2] w fun e w' => e = .returned (.int .i64 (if a = 0 then b else a)) ∧ w' = w := by
  go_enter Tryz.func27, Tryz.ntmps27
  go_wp2_with fail
  by_cases ha : a = 0
  · subst ha
    refine wp_loop_rounds 3 ?_
    by_cases hb : b = 0
    · subst hb
      rw [rounds_succ]
      go_wp2_with fail
      rw [rounds_succ]
      go_wp2_with fail
      rw [rounds_succ]
      go_wp2_with fail
      go_ret
      exact ⟨rfl, rfl⟩
    · have hne : (b != 0) = true := by simpa using hb
      rw [rounds_succ]
      go_wp2_with fail
      rw [rounds_succ]
      go_wp2_with fail
      go_ret
      exact ⟨rfl, rfl⟩
  · have hne : (a != 0) = true := by simpa using ha
    refine wp_loop_rounds 1 ?_
    rw [rounds_succ]
    go_wp2_with fail
    go_ret
    exact ⟨by first | rfl | (rw [if_neg ha]; rfl), rfl⟩
theorem hold1_any (B : Nat) (c : List Uv) (x : Wr.Id) (g : Nat) (w : World) (hM : CmAt w B c) (h0 : w.cell? ⟨g, 0, none⟩ = some (.int .i64 x.a)) (h1 : w.cell? ⟨g, 1, none⟩ = some (.int .i64 x.n)) (hi : Wr.isId x = true) :
    Calls Tryz.prog 31 #[.map (some B), .slice (some ⟨g, 0, none⟩) 1 1] w fun e w' => e = .returned (.bool (Dg.hasU (ups c) x)) ∧ Below w.heap.size w w' := by
  refine (hold_any B c [x] _ w hM (one_id g h0 h1 rfl) (by simp) (fun y hy => by rw [List.mem_singleton.mp hy]; exact hi)).mono ?_
  rintro e w' ⟨rfl, h2⟩
  refine ⟨?_, h2⟩
  rw [List.all_cons, List.all_nil, Bool.and_true]

def Dg.addErr (h w : List Wr.Up) (u : Wr.Up) : Int :=
  if Dg.check h w ≠ 0 then Dg.check h w else if Wr.check u ≠ 0 then Wr.check u else if 200 < (Dg.more (h ++ w) u).length then 2 else 0
set_option maxRecDepth 100000 in
set_option maxHeartbeats 8000000 in
theorem Add_any (hq wq : List Uv) (hv wv : Value) (x : Uv) (w : World) (hV : UpsV w hv hq) (wV : UpsV w wv wq) (hl : hq.length ≤ 4611686018427387903 ∧ wq.length ≤ 4611686018427387903) (hok : ∀ x, x ∈ hq ++ wq → UvOk w x) (hx : UvOk w x) :
    Calls Tryz.prog 6 #[repVal hv wv, uvVal x] w fun e w' => ∃ (v1 v2 : Value) (R1 R2 : List Uv), e = .returned (.tuple #[repVal v1 v2, .int .i64 (Dg.addErr (ups hq) (ups wq) x.u)]) ∧ UpsV w' v1 R1 ∧ UpsV w' v2 R2 ∧ (∀ x, x ∈ R1 ++ R2 → UvOk w' x) ∧ (Dg.addErr (ups hq) (ups wq) x.u = 0 → Dg.Is (Dg.more (ups hq ++ ups wq) x.u) (ups R1) (ups R2)) ∧ (Dg.addErr (ups hq) (ups wq) x.u ≠ 0 → R1 = [] ∧ R2 = []) ∧ Below w.heap.size w w' := by
  have HO : Hid (∀ x, x ∈ hq ++ wq → UvOk w x) := hok
  have HHV : Hid (UpsV w hv hq) := hV
  have HWV : Hid (UpsV w wv wq) := wV
  have HXX : Hid (UvOk w x) := hx
  obtain ⟨ah, ch, rfl, hch, _⟩ := hV
  obtain ⟨aw, cw, rfl, hcw, _⟩ := wV
  have HCH : Hid (ah = none → ch = 0) := hch.2
  have HCW : Hid (aw = none → cw = 0) := hcw.2
  obtain ⟨a1, n1, d1, a2, n2, d2, a3, n3, d3, e1, e2, e3⟩ := hx.forms
  obtain ⟨⟨⟨ua, un⟩, ps, says, ts⟩, vp, vs, vt⟩ := x
  dsimp only at *
  subst e1 e2 e3
  clear hok hx hch hcw
  have HB1 : Hid (Below w.heap.size w (((w.alloc (.cells #[.slice ah hq.length ch, .slice aw wq.length cw] 24)).alloc (.cells #[.int .i64 ua, .int .i64 un, .slice a1 n1 d1, .slice a2 n2 d2, .slice a3 n3 d3] 30)).alloc (.cells #[.slice none 0 0, .slice none 0 0] 24))) := (((Below.refl _ _).alloc (Nat.le_refl _) _).alloc (by simp) _).alloc (by simp; omega) _
  have HSZ : Hid ((((w.alloc (.cells #[.slice ah hq.length ch, .slice aw wq.length cw] 24)).alloc (.cells #[.int .i64 ua, .int .i64 un, .slice a1 n1 d1, .slice a2 n2 d2, .slice a3 n3 d3] 30)).alloc (.cells #[.slice none 0 0, .slice none 0 0] 24)).heap.size = w.heap.size + 3) := by show _ = _; simp
  have HX1 : Hid ((((w.alloc (.cells #[.slice ah hq.length ch, .slice aw wq.length cw] 24)).alloc (.cells #[.int .i64 ua, .int .i64 un, .slice a1 n1 d1, .slice a2 n2 d2, .slice a3 n3 d3] 30)).alloc (.cells #[.slice none 0 0, .slice none 0 0] 24)).heap[w.heap.size]? = some (.cells #[.slice ah hq.length ch, .slice aw wq.length cw] 24)) := by
    show _ = _
    rw [Lib.alloc_old _ _ _ (by simp; omega), Lib.alloc_old _ _ _ (by simp)]
    exact rl_new w _
  have HX2 : Hid ((((w.alloc (.cells #[.slice ah hq.length ch, .slice aw wq.length cw] 24)).alloc (.cells #[.int .i64 ua, .int .i64 un, .slice a1 n1 d1, .slice a2 n2 d2, .slice a3 n3 d3] 30)).alloc (.cells #[.slice none 0 0, .slice none 0 0] 24)).heap[w.heap.size + 1]? = some (.cells #[.int .i64 ua, .int .i64 un, .slice a1 n1 d1, .slice a2 n2 d2, .slice a3 n3 d3] 30)) := by
    show _ = _
    rw [Lib.alloc_old _ _ _ (by simp)]
    have := rl_new (w.alloc (.cells #[.slice ah hq.length ch, .slice aw wq.length cw] 24)) (.cells #[.int .i64 ua, .int .i64 un, .slice a1 n1 d1, .slice a2 n2 d2, .slice a3 n3 d3] 30)
    rw [World.size_alloc] at this
    exact this
  have HX3 : Hid ((((w.alloc (.cells #[.slice ah hq.length ch, .slice aw wq.length cw] 24)).alloc (.cells #[.int .i64 ua, .int .i64 un, .slice a1 n1 d1, .slice a2 n2 d2, .slice a3 n3 d3] 30)).alloc (.cells #[.slice none 0 0, .slice none 0 0] 24)).heap[w.heap.size + 2]? = some (.cells #[.slice none 0 0, .slice none 0 0] 24)) := by
    have := rl_new ((w.alloc (.cells #[.slice ah hq.length ch, .slice aw wq.length cw] 24)).alloc (.cells #[.int .i64 ua, .int .i64 un, .slice a1 n1 d1, .slice a2 n2 d2, .slice a3 n3 d3] 30)) (.cells #[.slice none 0 0, .slice none 0 0] 24)
    rw [World.size_alloc, World.size_alloc] at this
    exact this
  go_enter Tryz.func6, Tryz.ntmps6
  go_upto_region 1 with fail
  generalize (((w.alloc (.cells #[.slice ah hq.length ch, .slice aw wq.length cw] 24)).alloc (.cells #[.int .i64 ua, .int .i64 un, .slice a1 n1 d1, .slice a2 n2 d2, .slice a3 n3 d3] 30)).alloc (.cells #[.slice none 0 0, .slice none 0 0] 24)) = w1 at *
  have HF : Hid (∀ z, Below w1.heap.size w1 z → (z.cell? ⟨w.heap.size, 0, none⟩ = some (.slice ah hq.length ch) ∧ z.cell? ⟨w.heap.size, 1, none⟩ = some (.slice aw wq.length cw)) ∧ (z.cell? ⟨w.heap.size + 1, 0, none⟩ = some (.int .i64 ua) ∧ z.cell? ⟨w.heap.size + 1, 1, none⟩ = some (.int .i64 un) ∧ z.cell? ⟨w.heap.size + 1, 2, none⟩ = some (.slice a1 n1 d1) ∧ z.cell? ⟨w.heap.size + 1, 3, none⟩ = some (.slice a2 n2 d2) ∧ z.cell? ⟨w.heap.size + 1, 4, none⟩ = some (.slice a3 n3 d3))) := fun z hz => by
    have h1 := (hz.block _ (Array.getElem?_eq_some_iff.1 HX1.out).1).trans HX1.out
    have h2 := (hz.block _ (Array.getElem?_eq_some_iff.1 HX2.out).1).trans HX2.out
    exact ⟨⟨by rw [Lib.cell_of_heap h1]; rfl, by rw [Lib.cell_of_heap h1]; rfl⟩, by rw [Lib.cell_of_heap h2]; rfl, by rw [Lib.cell_of_heap h2]; rfl, by rw [Lib.cell_of_heap h2]; rfl, by rw [Lib.cell_of_heap h2]; rfl, by rw [Lib.cell_of_heap h2]; rfl⟩
  have HZ : Hid (∀ z, Below w1.heap.size w1 z → z.heap[w.heap.size + 2]? = some (.cells #[.slice none 0 0, .slice none 0 0] 24)) := fun z hz => (hz.block _ (Array.getElem?_eq_some_iff.1 HX3.out).1).trans HX3.out
  have HT : Hid (∀ z, Below w1.heap.size w1 z → Below w.heap.size w z) := fun z hz => HB1.out.trans (hz.mono HB1.out.size)
  have HC1 : Hid (∀ z, Below w1.heap.size w1 z → Calls Tryz.prog 15 #[.agg #[.slice ah hq.length ch, .slice aw wq.length cw]] z fun e w' => e = .returned (.int .i64 (Dg.check (ups hq) (ups wq))) ∧ Below z.heap.size z w') := fun z hz => DCheck_any hq wq _ _ z (HHV.out.kc (Kc.below (HT.out z hz))) (HWV.out.kc (Kc.below (HT.out z hz))) hl (fun x hx => (HO.out x hx).below (HT.out z hz))
  have HC2 : Hid (∀ z, Below w1.heap.size w1 z → Calls Tryz.prog 28 #[.agg #[.int .i64 ua, .int .i64 un, .slice a1 n1 d1, .slice a2 n2 d2, .slice a3 n3 d3]] z fun e w' => e = .returned (.int .i64 (Wr.check ⟨⟨ua, un⟩, ps, says, ts⟩)) ∧ Below z.heap.size z w') := fun z hz => by
    have hx := HXX.out.below (HT.out z hz)
    exact Check_any ⟨⟨ua, un⟩, ps, says, ts⟩ _ _ _ z hx.p hx.s hx.t hx.f hx.l
  obtain ⟨cO, HCO⟩ : ∃ cO, Hid (cO = if Dg.check (ups hq) (ups wq) = 0 then Wr.check ⟨⟨ua, un⟩, ps, says, ts⟩ else Dg.check (ups hq) (ups wq)) := ⟨_, rfl⟩
  refine wp_region_tabA (addT ah hq.length ch aw wq.length cw ua un a1 n1 d1 a2 n2 d2 a3 n3 d3 (Dg.check (ups hq) (ups wq)) (Wr.check ⟨⟨ua, un⟩, ps, says, ts⟩) cO) (by kernel_rfl) (by kernel_rfl) (addT_mono _ _ _ _ _ _ _ _ _ _ _ _ _ _ _ _ _ _ _ _) ?hop1 ?hend1
  case hop1 =>
    refine AllOps.cons (fun a y h => ?_) ?_
    · have e2 : a.eval (.tmp 2) = (.pointer (some ⟨w.heap.size, 0, none⟩) : Value) := h.old 2 (by kernel_rfl)
      obtain ⟨⟨r0, r1⟩, _⟩ := HF.out y h.below
      refine opOk_val (v := .agg #[.slice ah hq.length ch, .slice aw wq.length cw]) (w' := y) (wanted_none rfl) ?_ (fun t ht => by cases ht; exact rfl) (Below.refl _ _)
      have ec : ∀ v, a.eval (.const v) = v := fun _ => rfl
      generalize a.eval = ev at *
      clear h
      go_simp
    refine AllOps.cons (fun a y h => ?_) ?_
    · have e10 : a.eval (.tmp 10) = (.agg #[.slice ah hq.length ch, .slice aw wq.length cw] : Value) := h.of 10 (by kernel_rfl)
      refine opOk_call (f := 15) (args := #[.agg #[.slice ah hq.length ch, .slice aw wq.length cw]]) (wanted_none rfl) ?_ ?_
      · have ec : ∀ v, a.eval (.const v) = v := fun _ => rfl
        have ef : ∀ f, a.eval (.func f) = .func (.func f) #[] #[] := fun _ => rfl
        generalize a.eval = ev at *
        clear h
        go_simp
      · refine (HC1.out y h.below).mono ?_
        rintro e w' ⟨rfl, hb⟩
        exact ⟨_, rfl, fun t ht => by cases ht; exact rfl, hb⟩
    refine AllOps.cons (fun a y h => ?_) ?_
    · have e3 : a.eval (.tmp 3) = (.pointer (some ⟨w.heap.size + 1, 0, none⟩) : Value) := h.old 3 (by kernel_rfl)
      obtain ⟨_, ⟨u0, u1, u2, u3, u4⟩⟩ := HF.out y h.below
      refine opOk_val (v := .agg #[.int .i64 ua, .int .i64 un, .slice a1 n1 d1, .slice a2 n2 d2, .slice a3 n3 d3]) (w' := y) (wanted_none rfl) ?_ (fun t ht => by cases ht; exact rfl) (Below.refl _ _)
      have ec : ∀ v, a.eval (.const v) = v := fun _ => rfl
      generalize a.eval = ev at *
      clear h
      go_simp
    refine AllOps.cons (fun a y h => ?_) ?_
    · have e12 : a.eval (.tmp 12) = (.agg #[.int .i64 ua, .int .i64 un, .slice a1 n1 d1, .slice a2 n2 d2, .slice a3 n3 d3] : Value) := h.of 12 (by kernel_rfl)
      refine opOk_call (f := 28) (args := #[.agg #[.int .i64 ua, .int .i64 un, .slice a1 n1 d1, .slice a2 n2 d2, .slice a3 n3 d3]]) (wanted_none rfl) ?_ ?_
      · have ec : ∀ v, a.eval (.const v) = v := fun _ => rfl
        have ef : ∀ f, a.eval (.func f) = .func (.func f) #[] #[] := fun _ => rfl
        generalize a.eval = ev at *
        clear h
        go_simp
      · refine (HC2.out y h.below).mono ?_
        rintro e w' ⟨rfl, hb⟩
        exact ⟨_, rfl, fun t ht => by cases ht; exact rfl, hb⟩
    refine AllOps.cons (fun a y h => ?_) ?_
    · have e11 : a.eval (.tmp 11) = (.int .i64 (Dg.check (ups hq) (ups wq)) : Value) := h.of 11 (by kernel_rfl)
      have e13 : a.eval (.tmp 13) = (.int .i64 (Wr.check ⟨⟨ua, un⟩, ps, says, ts⟩) : Value) := h.of 13 (by kernel_rfl)
      refine opOk_val (v := .slice (some ⟨y.heap.size, 0, none⟩) 2 2) (w' := y.alloc (.cells #[.int .i64 (Dg.check (ups hq) (ups wq)), .int .i64 (Wr.check ⟨⟨ua, un⟩, ps, says, ts⟩)] 31)) (wanted_none rfl) ?_ (fun t ht => by cases ht; exact ⟨y.heap.size, rfl, (cat_cell _ _ _ 0).trans rfl, (cat_cell _ _ _ 1).trans rfl⟩) ((Below.refl _ _).alloc (Nat.le_refl _) _)
      have ec : ∀ v, a.eval (.const v) = v := fun _ => rfl
      generalize a.eval = ev at *
      clear h
      go_simp
    refine AllOps.cons (fun a y h => ?_) ?_
    · have t14 : ∃ g, (a.eval (.tmp 14)) = .slice (some ⟨g, 0, none⟩) 2 2 ∧ y.cell? ⟨g, 0, none⟩ = some (.int .i64 (Dg.check (ups hq) (ups wq))) ∧ y.cell? ⟨g, 1, none⟩ = some (.int .i64 (Wr.check ⟨⟨ua, un⟩, ps, says, ts⟩)) := h.of 14 (by kernel_rfl)
      obtain ⟨g, e14, g0, g1⟩ := t14
      refine opOk_call (f := 27) (args := #[.slice (some ⟨g, 0, none⟩) 2 2]) (wanted_none rfl) ?_ ?_
      · have ec : ∀ v, a.eval (.const v) = v := fun _ => rfl
        have ef : ∀ f, a.eval (.func f) = .func (.func f) #[] #[] := fun _ => rfl
        generalize a.eval = ev at *
        clear h
        go_simp
      · refine (orE_any _ _ g y g0 g1).mono ?_
        rintro e w' ⟨rfl, rfl⟩
        exact ⟨_, rfl, fun t ht => by cases ht; show Value.int .i64 _ = Value.int .i64 cO; rw [HCO.out], Below.refl _ _⟩
    refine AllOps.cons (fun a y h => ?_) ?_
    · have e15 : a.eval (.tmp 15) = (.int .i64 cO : Value) := h.of 15 (by kernel_rfl)
      refine opOk_val (v := .int .i64 cO) (w' := y) (wanted_none rfl) ?_ (fun t ht => by cases ht; exact rfl) (Below.refl _ _)
      have ec : ∀ v, a.eval (.const v) = v := fun _ => rfl
      generalize a.eval = ev at *
      clear h
      go_simp
    exact AllOps.nil
  case hend1 =>
  rintro ⟨tm, df⟩ w3 hbE hdE hszE hstE hTE
  have k6 : tm.getD 6 undef = .int .i64 cO := ends_at (T := addT ah hq.length ch aw wq.length cw ua un a1 n1 d1 a2 n2 d2 a3 n3 d3 (Dg.check (ups hq) (ups wq)) (Wr.check ⟨⟨ua, un⟩, ps, says, ts⟩) cO) (w := w3) (a := ⟨tm, df⟩) (t := 6) hTE (by kernel_rfl)
  obtain rfl : df = [] := hdE
  clear hTE
  have hF8 := tmps_fold [10, 11, 12, 13, 14, 15, 6] tm _ hszE hstE
  clear hszE hstE
  simp only [List.foldl_cons, List.foldl_nil, k6] at hF8
  clear k6
  generalize tm.getD 10 undef = x10 at hF8
  generalize tm.getD 11 undef = x11 at hF8
  generalize tm.getD 12 undef = x12 at hF8
  generalize tm.getD 13 undef = x13 at hF8
  generalize tm.getD 14 undef = x14 at hF8
  generalize tm.getD 15 undef = x15 at hF8
  simp only [List.setIfInBounds_toArray, List.set_cons_zero, List.set_cons_succ] at hF8
  subst hF8
  have HG3 : Hid (Below w1.heap.size w1 w3) := hbE
  clear hbE HC1 HC2 HX1 HX2 HX3
  by_cases hco : cO = 0
  rotate_left
  · have hne : (cO != 0) = true := by simpa using hco
    have HER : Hid (Dg.addErr (ups hq) (ups wq) ⟨⟨ua, un⟩, ps, says, ts⟩ = cO) := by
      show _ = _
      unfold Dg.addErr
      have h9 := HCO.out
      by_cases h0 : Dg.check (ups hq) (ups wq) = 0
      · rw [if_pos h0] at h9
        rw [if_neg (fun e => e h0), if_pos (by rw [← h9]; exact hco), h9]
      · rw [if_neg h0] at h9
        rw [if_pos h0, h9]
    have tk0 := HZ.out w3 (HG3.out)
    have tz0 : (w3).cell? ⟨w.heap.size + 2, 0, none⟩ = some (.slice none 0 0) := by rw [Lib.cell_of_heap tk0]; rfl
    have ty0 := Lib.frozen_of_heap tk0 0
    have tk1 : ((w3).setCell ⟨w.heap.size + 2, 0, none⟩ (.slice none 0 0)).heap[w.heap.size + 2]? = some (.cells #[.slice none 0 0, .slice none 0 0] 24) := by rw [Lib.heap_setCell_same tk0]; rfl
    have tz1 : ((w3).setCell ⟨w.heap.size + 2, 0, none⟩ (.slice none 0 0)).cell? ⟨w.heap.size + 2, 1, none⟩ = some (.slice none 0 0) := by rw [Lib.cell_of_heap tk1]; rfl
    have ty1 := Lib.frozen_of_heap tk1 1
    have tk2 : (((w3).setCell ⟨w.heap.size + 2, 0, none⟩ (.slice none 0 0)).setCell ⟨w.heap.size + 2, 1, none⟩ (.slice none 0 0)).heap[w.heap.size + 2]? = some (.cells #[.slice none 0 0, .slice none 0 0] 24) := by rw [Lib.heap_setCell_same tk1]; rfl
    have td0 : (((w3).setCell ⟨w.heap.size + 2, 0, none⟩ (.slice none 0 0)).setCell ⟨w.heap.size + 2, 1, none⟩ (.slice none 0 0)).cell? ⟨w.heap.size + 2, 0, none⟩ = some (.slice none 0 0) := by rw [Lib.cell_of_heap tk2]; rfl
    have td1 : (((w3).setCell ⟨w.heap.size + 2, 0, none⟩ (.slice none 0 0)).setCell ⟨w.heap.size + 2, 1, none⟩ (.slice none 0 0)).cell? ⟨w.heap.size + 2, 1, none⟩ = some (.slice none 0 0) := by rw [Lib.cell_of_heap tk2]; rfl
    have tg : (w3).grownBy (((w3).setCell ⟨w.heap.size + 2, 0, none⟩ (.slice none 0 0)).setCell ⟨w.heap.size + 2, 1, none⟩ (.slice none 0 0)) (some (w.heap.size + 2)) := (grown_set _ _ _ _).trans_row (grown_set _ _ _ _)
    have tB : Hid (Below w.heap.size w (((w3).setCell ⟨w.heap.size + 2, 0, none⟩ (.slice none 0 0)).setCell ⟨w.heap.size + 2, 1, none⟩ (.slice none 0 0))) := (HT.out w3 (HG3.out)).grown tg (HT.out w3 (HG3.out)).size (fun j e => by cases e; omega)
    clear tk0 tk1 tk2 tg
    go_wp2_with fail
    refine bodyPost_ret (v := .tuple #[.agg #[.slice none 0 0, .slice none 0 0], .int .i64 cO]) (by simp [results, Tryz.results6, go_sem, td0, td1]) rfl ?_
    exact ⟨.slice none 0 0, .slice none 0 0, [], [], by rw [HER.out], ups_nil _, ups_nil _, fun x hx => absurd hx (by simp), fun e0 => absurd (HER.out.symm.trans e0) (by first | decide | assumption), fun _ => ⟨rfl, rfl⟩, tB.out⟩
  have hcks : Dg.check (ups hq) (ups wq) = 0 ∧ Wr.check ⟨⟨ua, un⟩, ps, says, ts⟩ = 0 := by
    have h9 := HCO.out
    by_cases h0 : Dg.check (ups hq) (ups wq) = 0
    · rw [if_pos h0] at h9
      exact ⟨h0, by rw [← h9]; exact hco⟩
    · rw [if_neg h0] at h9
      exact absurd (h9.symm.trans hco) h0
  have HCK : Hid (Dg.check (ups hq) (ups wq) = 0) := hcks.1
  have HCU : Hid (Wr.check ⟨⟨ua, un⟩, ps, says, ts⟩ = 0) := hcks.2
  clear hcks HCO
  subst hco
  have HOKR : Hid (Dg.Ok (ups hq) (ups wq)) := Dg.check_ok.mp HCK.out
  have hfew : hq.length + wq.length ≤ 200 := by have := HOKR.out.few; rw [ups_length, ups_length] at this; exact this
  obtain ⟨⟨r0, r1⟩, _⟩ := HF.out w3 HG3.out
  obtain ⟨q, HQE⟩ : ∃ q, Hid (q = hq ++ wq) := ⟨_, rfl⟩
  have hql : q.length ≤ 200 := by rw [HQE.out, List.length_append]; exact hfew
  have HBA : Hid (Below w3.heap.size w3 (w3.alloc (.cells #[.slice ah hq.length ch, .slice aw wq.length cw] 22))) := (Below.refl _ _).alloc (Nat.le_refl _) _
  have HCC : Hid (Calls Tryz.prog 29 #[.slice (some ⟨w3.heap.size, 0, none⟩) 2 2] (w3.alloc (.cells #[.slice ah hq.length ch, .slice aw wq.length cw] 22)) fun e w' => ∃ v', e = .returned v' ∧ URow w' w3.heap.size v' q ∧ Below w3.heap.size w3 w') := by
    have hb := (HT.out w3 HG3.out).trans (HBA.out.mono (HT.out w3 HG3.out).size)
    obtain ⟨_, _, e1, _, k1⟩ := HHV.out.kc (Kc.below hb)
    obtain ⟨_, _, e2, _, k2⟩ := HWV.out.kc (Kc.below hb)
    cases e1
    cases e2
    refine (concatU_any hq wq w3.heap.size ah aw ch cw _ ⟨k1, HCH.out⟩ ⟨k2, HCW.out⟩ (cat_cell _ _ _ 0) (cat_cell _ _ _ 1) (by omega) (fun x hx => (HO.out x hx).below hb)).mono ?_
    rintro e w' ⟨v', h1, h2, h3⟩
    exact ⟨v', h1, by rw [HQE.out]; exact rl_own_le h2 HBA.out.size, HBA.out.trans (h3.mono HBA.out.size)⟩
  go_upto_region 5 with (go_at_call 29; refine Calls.mono HCC.out ?_; rintro e w4 ⟨v4, rfl, hr4, hb4⟩; obtain ⟨al, cl, rfl⟩ := own_slice hr4)
  have HG4 : Hid (Below w1.heap.size w1 w4) := HG3.out.trans (hb4.mono HG3.out.size)
  have HR4 : Hid (URow w4 w3.heap.size (.slice al q.length cl) q) := hr4
  have HS34 : Hid (w3.heap.size ≤ w4.heap.size) := hb4.size
  have HB34 : Hid (Below w3.heap.size w3 w4) := hb4
  clear hr4 hb4 HCC r0 r1 HBA
  have HG34 : Hid (Below w3.heap.size w3 w4) := HB34.out
  have HQ3 : Hid (∀ x, x ∈ q → UvOk w3 x ∧ Wr.check x.u = 0) := fun x hx => by
    have hx' : x ∈ hq ++ wq := HQE.out ▸ hx
    refine ⟨(HO.out x hx').below (HT.out w3 HG3.out), HOKR.out.each x.u ?_⟩
    rw [← ups_append]
    exact List.mem_map.mpr ⟨x, hx', rfl⟩
  have HQOK : Hid (∀ x, x ∈ q → UvOk w4 x ∧ Wr.check x.u = 0) := fun x hx => by
    have hx' : x ∈ hq ++ wq := HQE.out ▸ hx
    refine ⟨(HO.out x hx').below (HT.out w4 HG4.out), HOKR.out.each x.u ?_⟩
    rw [← ups_append]
    exact List.mem_map.mpr ⟨x, hx', rfl⟩
  have HQND : Hid (((ups q).map Wr.Up.id).Nodup) := by
    have h9 := HOKR.out.nd
    rw [← ups_append, ← HQE.out] at h9
    exact h9
  have HF4 : Hid (∀ z, Below w4.heap.size w4 z → (z.cell? ⟨w.heap.size, 0, none⟩ = some (.slice ah hq.length ch) ∧ z.cell? ⟨w.heap.size, 1, none⟩ = some (.slice aw wq.length cw)) ∧ (z.cell? ⟨w.heap.size + 1, 0, none⟩ = some (.int .i64 ua) ∧ z.cell? ⟨w.heap.size + 1, 1, none⟩ = some (.int .i64 un) ∧ z.cell? ⟨w.heap.size + 1, 2, none⟩ = some (.slice a1 n1 d1) ∧ z.cell? ⟨w.heap.size + 1, 3, none⟩ = some (.slice a2 n2 d2) ∧ z.cell? ⟨w.heap.size + 1, 4, none⟩ = some (.slice a3 n3 d3))) := fun z hz => HF.out z (HG4.out.trans (hz.mono HG4.out.size))
  have HBY : Hid (∀ z, Below w4.heap.size w4 z → Calls Tryz.prog 30 #[.slice al q.length cl] z fun e w' => ∃ b, e = .returned (.map (some b)) ∧ CmAt w' b q ∧ Below z.heap.size z w') := fun z hz =>
    (byIds_any q _ z (own_ups (ownsRow_below HR4.out hz)) (by omega) (fun x hx => (HQOK.out x hx).1.below hz) (fun x hx => (idsOk_of (HQOK.out x hx).2).id)).mono fun e w' h => ⟨_, h.1, h.2.1.at_ HQND.out, h.2.2⟩
  have HID : Hid (Wr.isId ⟨ua, un⟩ = true) := (idsOk_of HCU.out).id
  obtain ⟨hb9, HB9⟩ : ∃ b, Hid (Dg.hasU (ups q) ⟨ua, un⟩ = b) := ⟨_, rfl⟩
  refine wp_region_tabA (addT5 al q.length cl (w.heap.size + 1) ua un q hb9) (by kernel_rfl) (by kernel_rfl) (addT5_mono _ _ _ _ _ _ _ _) ?hop5 ?hend5
  case hop5 =>
    refine AllOps.cons (fun a y h => ?_) ?_
    · have e7 : a.eval (.tmp 7) = (.slice al q.length cl : Value) := h.old 7 (by kernel_rfl)
      refine opOk_val (v := .slice al q.length cl) (w' := y) (wanted_none rfl) ?_ (fun t ht => by cases ht; exact rfl) (Below.refl _ _)
      have ec : ∀ v, a.eval (.const v) = v := fun _ => rfl
      generalize a.eval = ev at *
      clear h
      go_simp
    refine AllOps.cons (fun a y h => ?_) ?_
    · have e26 : a.eval (.tmp 26) = (.slice al q.length cl : Value) := h.of 26 (by kernel_rfl)
      refine opOk_call (f := 30) (args := #[.slice al q.length cl]) (wanted_none rfl) ?_ ?_
      · have ec : ∀ v, a.eval (.const v) = v := fun _ => rfl
        have ef : ∀ f, a.eval (.func f) = .func (.func f) #[] #[] := fun _ => rfl
        generalize a.eval = ev at *
        clear h
        go_simp
      · refine (HBY.out y h.below).mono ?_
        rintro e w' ⟨b, rfl, hm, hb⟩
        exact ⟨_, rfl, fun t ht => by cases ht; exact ⟨b, rfl, hm⟩, hb⟩
    refine AllOps.cons (fun a y h => ?_) ?_
    · have e3 : a.eval (.tmp 3) = (.pointer (some ⟨w.heap.size + 1, 0, none⟩) : Value) := h.old 3 (by kernel_rfl)
      refine opOk_val (v := .pointer (some ⟨w.heap.size + 1, 0, none⟩)) (w' := y) (wanted_none rfl) ?_ (fun t ht => by cases ht; exact rfl) (Below.refl _ _)
      have ec : ∀ v, a.eval (.const v) = v := fun _ => rfl
      generalize a.eval = ev at *
      clear h
      go_simp
    refine AllOps.cons (fun a y h => ?_) ?_
    · have e28 : a.eval (.tmp 28) = (.pointer (some ⟨w.heap.size + 1, 0, none⟩) : Value) := h.of 28 (by kernel_rfl)
      obtain ⟨_, ⟨u0, u1, u2, u3, u4⟩⟩ := HF4.out y h.below
      refine opOk_val (v := .agg #[.int .i64 ua, .int .i64 un]) (w' := y) (wanted_none rfl) ?_ (fun t ht => by cases ht; exact rfl) (Below.refl _ _)
      have ec : ∀ v, a.eval (.const v) = v := fun _ => rfl
      generalize a.eval = ev at *
      clear h
      go_simp
    refine AllOps.cons (fun a y h => ?_) ?_
    · have e29 : a.eval (.tmp 29) = (.agg #[.int .i64 ua, .int .i64 un] : Value) := h.of 29 (by kernel_rfl)
      refine opOk_val (v := .slice (some ⟨y.heap.size, 0, none⟩) 1 1) (w' := y.alloc (.cells #[.int .i64 ua, .int .i64 un] 26)) (wanted_none rfl) ?_ (fun t ht => by cases ht; exact ⟨y.heap.size, rfl, (cat_cell _ _ _ 0).trans rfl, (cat_cell _ _ _ 1).trans rfl⟩) ((Below.refl _ _).alloc (Nat.le_refl _) _)
      have ec : ∀ v, a.eval (.const v) = v := fun _ => rfl
      generalize a.eval = ev at *
      clear h
      go_simp
    refine AllOps.cons (fun a y h => ?_) ?_
    · have t27 : ∃ b, (a.eval (.tmp 27)) = .map (some b) ∧ CmAt y b q := h.of 27 (by kernel_rfl)
      have t30 : ∃ g, (a.eval (.tmp 30)) = .slice (some ⟨g, 0, none⟩) 1 1 ∧ y.cell? ⟨g, 0, none⟩ = some (.int .i64 ua) ∧ y.cell? ⟨g, 1, none⟩ = some (.int .i64 un) := h.of 30 (by kernel_rfl)
      obtain ⟨b, e27, hm⟩ := t27
      obtain ⟨g, e30, g0, g1⟩ := t30
      refine opOk_call (f := 31) (args := #[.map (some b), .slice (some ⟨g, 0, none⟩) 1 1]) (wanted_none rfl) ?_ ?_
      · have ec : ∀ v, a.eval (.const v) = v := fun _ => rfl
        have ef : ∀ f, a.eval (.func f) = .func (.func f) #[] #[] := fun _ => rfl
        generalize a.eval = ev at *
        clear h
        go_simp
      · refine (hold1_any b q ⟨ua, un⟩ g y hm g0 g1 HID.out).mono ?_
        rintro e w' ⟨rfl, hb⟩
        exact ⟨_, rfl, fun t ht => by cases ht; show Value.bool _ = Value.bool hb9; rw [HB9.out], hb⟩
    refine AllOps.cons (fun a y h => ?_) ?_
    · have e31 : a.eval (.tmp 31) = (.bool hb9 : Value) := h.of 31 (by kernel_rfl)
      refine opOk_val (v := .bool (!hb9)) (w' := y) (wanted_none rfl) ?_ (fun t ht => by cases ht; exact rfl) (Below.refl _ _)
      have ec : ∀ v, a.eval (.const v) = v := fun _ => rfl
      generalize a.eval = ev at *
      clear h
      go_simp
    exact AllOps.nil
  case hend5 =>
  rintro ⟨tm, df⟩ w5 hbE hdE hszE hstE hTE
  have k32 : tm.getD 32 undef = .bool (!hb9) := ends_at (T := addT5 al q.length cl (w.heap.size + 1) ua un q hb9) (w := w5) (a := ⟨tm, df⟩) (t := 32) hTE (by kernel_rfl)
  obtain rfl : df = [] := hdE
  clear hTE
  have hF8 := tmps_fold [26, 27, 28, 29, 30, 31, 32] tm _ hszE hstE
  clear hszE hstE
  simp only [List.foldl_cons, List.foldl_nil, k32] at hF8
  clear k32
  generalize tm.getD 26 undef = x26 at hF8
  generalize tm.getD 27 undef = x27 at hF8
  generalize tm.getD 28 undef = x28 at hF8
  generalize tm.getD 29 undef = x29 at hF8
  generalize tm.getD 30 undef = x30 at hF8
  generalize tm.getD 31 undef = x31 at hF8
  simp only [List.setIfInBounds_toArray, List.set_cons_zero, List.set_cons_succ] at hF8
  subst hF8
  have HG5 : Hid (Below w4.heap.size w4 w5) := hbE
  clear hbE HBY
  have HGW5 : Hid (Below w1.heap.size w1 w5) := HG4.out.trans (HG5.out.mono HG4.out.size)
  have HG35 : Hid (Below w3.heap.size w3 w5) := HG34.out.trans (HG5.out.mono HG34.out.size)
  have HUQ : Hid (ups hq ++ ups wq = ups q) := by show _ = _; rw [HQE.out, ups_append]
  have hrq := ownsRow_below HR4.out HG5.out
  have HZB : Hid (w.heap.size + 2 < w3.heap.size) := by have h1 := HG3.out.size; have h2 := HSZ.out; show _ < _; omega
  cases hb9
  · -- it is new
    obtain ⟨_, ⟨u0, u1, u2, u3, u4⟩⟩ := HF4.out w5 HG5.out
    obtain ⟨i0, hi, hz0, hz1, hz2⟩ := info_parts up_info
    have hs5 := HGW5.out.size
    have hs45 := HG5.out.size
    have hs34 := HS34.out
    go_upto_region 7 with (at_builtin; refine wpList_append_own _ rfl _ _ 22 rfl w3.heap.size 30 i0 _ 5 88 Tryz.underlying22 hi hz0 hz1 hz2 rfl (by decide) _ _ _ rfl (hrq.alloc _) ⟨w5.heap.size, 0, none⟩ 1 1 ([(⟨⟨⟨ua, un⟩, ps, says, ts⟩, .slice a1 n1 d1, .slice a2 n2 d2, .slice a3 n3 d3⟩ : Uv)].map uvCells).flatten rfl rfl (news5 w5 _ _ _ _ _ 30) (by intro u hu; simp at hu; rcases hu with rfl | rfl | rfl | rfl | rfl <;> rfl) (by unfold maxLen; omega) (by omega) (by simp; omega) ?_; intro v6 w6 hown6 hgrow6 _; obtain ⟨aL, cL, rfl⟩ := own_slice hown6)
    obtain ⟨L, HLE⟩ : ∃ L, Hid (L = q ++ [(⟨⟨⟨ua, un⟩, ps, says, ts⟩, .slice a1 n1 d1, .slice a2 n2 d2, .slice a3 n3 d3⟩ : Uv)]) := ⟨_, rfl⟩
    have hLl : L.length = q.length + 1 := by rw [HLE.out, List.length_append]; rfl
    have hrL : URow w6 w3.heap.size (.slice aL L.length cL) L := by
      show World.ownsRow _ _ _ _ _ _ _
      rw [hLl, HLE.out, List.map_append, List.flatten_append]
      exact hown6
    have HG36 : Hid (Below w3.heap.size w3 w6) := ((HG35.out.alloc HG35.out.size _)).grown hgrow6 (by simp; omega) (fun k hk => (hrq.lt k hk).1)
    have HGL : Hid (Below w1.heap.size w1 w6) := HG3.out.trans (HG36.out.mono HG3.out.size)
    have HNW : Hid (Dg.hasU (ups q) ⟨ua, un⟩ = false) := HB9.out
    have HLL : Hid (Dg.more (ups hq ++ ups wq) ⟨⟨ua, un⟩, ps, says, ts⟩ = ups L) := by
      show _ = _
      rw [HUQ.out, HLE.out, ups_append]
      unfold Dg.more
      rw [if_neg (by rw [HNW.out]; simp)]
      rfl
    have HLnd : Hid (((ups L).map Wr.Up.id).Nodup) := by
      show List.Nodup _
      rw [← HLL.out, HUQ.out]
      exact Dg.more_nodup HQND.out
    have HLok : Hid (∀ x, x ∈ L → UvOk w6 x ∧ Wr.check x.u = 0) := fun x hx => by
      rw [HLE.out] at hx
      rcases List.mem_append.mp hx with hx | hx
      · exact ⟨(HQ3.out x hx).1.below HG36.out, (HQ3.out x hx).2⟩
      · rw [List.mem_singleton.mp hx]
        exact ⟨HXX.out.below (HT.out w6 HGL.out), HCU.out⟩
    have HLLE : Hid (L.length = q.length + 1) := hLl
    have hL201 : L.length ≤ 201 := by omega
    rw [← hLl]
    clear hown6 hgrow6 hrq u0 u1 u2 u3 u4 hLl HR4 HQND HQ3 HB9
    by_cases hmany : 200 < L.length
    · have g0 : decide ((200 : Int) < (L.length : Int)) = true := decide_eq_true (by omega)
      have g1 : decide (200 < L.length) = true := decide_eq_true hmany
      have HER : Hid (Dg.addErr (ups hq) (ups wq) ⟨⟨ua, un⟩, ps, says, ts⟩ = 2) := by
        show _ = _
        unfold Dg.addErr
        rw [if_neg (fun e => e HCK.out), if_neg (fun e => e HCU.out), HLL.out, ups_length, if_pos hmany]
      have tk0 := HZ.out w6 (HGL.out)
      have tz0 : (w6).cell? ⟨w.heap.size + 2, 0, none⟩ = some (.slice none 0 0) := by rw [Lib.cell_of_heap tk0]; rfl
      have ty0 := Lib.frozen_of_heap tk0 0
      have tk1 : ((w6).setCell ⟨w.heap.size + 2, 0, none⟩ (.slice none 0 0)).heap[w.heap.size + 2]? = some (.cells #[.slice none 0 0, .slice none 0 0] 24) := by rw [Lib.heap_setCell_same tk0]; rfl
      have tz1 : ((w6).setCell ⟨w.heap.size + 2, 0, none⟩ (.slice none 0 0)).cell? ⟨w.heap.size + 2, 1, none⟩ = some (.slice none 0 0) := by rw [Lib.cell_of_heap tk1]; rfl
      have ty1 := Lib.frozen_of_heap tk1 1
      have tk2 : (((w6).setCell ⟨w.heap.size + 2, 0, none⟩ (.slice none 0 0)).setCell ⟨w.heap.size + 2, 1, none⟩ (.slice none 0 0)).heap[w.heap.size + 2]? = some (.cells #[.slice none 0 0, .slice none 0 0] 24) := by rw [Lib.heap_setCell_same tk1]; rfl
      have td0 : (((w6).setCell ⟨w.heap.size + 2, 0, none⟩ (.slice none 0 0)).setCell ⟨w.heap.size + 2, 1, none⟩ (.slice none 0 0)).cell? ⟨w.heap.size + 2, 0, none⟩ = some (.slice none 0 0) := by rw [Lib.cell_of_heap tk2]; rfl
      have td1 : (((w6).setCell ⟨w.heap.size + 2, 0, none⟩ (.slice none 0 0)).setCell ⟨w.heap.size + 2, 1, none⟩ (.slice none 0 0)).cell? ⟨w.heap.size + 2, 1, none⟩ = some (.slice none 0 0) := by rw [Lib.cell_of_heap tk2]; rfl
      have tg : (w6).grownBy (((w6).setCell ⟨w.heap.size + 2, 0, none⟩ (.slice none 0 0)).setCell ⟨w.heap.size + 2, 1, none⟩ (.slice none 0 0)) (some (w.heap.size + 2)) := (grown_set _ _ _ _).trans_row (grown_set _ _ _ _)
      have tB : Hid (Below w.heap.size w (((w6).setCell ⟨w.heap.size + 2, 0, none⟩ (.slice none 0 0)).setCell ⟨w.heap.size + 2, 1, none⟩ (.slice none 0 0))) := (HT.out w6 (HGL.out)).grown tg (HT.out w6 (HGL.out)).size (fun j e => by cases e; omega)
      clear tk0 tk1 tk2 tg
      go_wp2_with fail
      refine bodyPost_ret (v := .tuple #[.agg #[.slice none 0 0, .slice none 0 0], .int .i64 2]) (by simp [results, Tryz.results6, go_sem, td0, td1]) rfl ?_
      exact ⟨.slice none 0 0, .slice none 0 0, [], [], by rw [HER.out], ups_nil _, ups_nil _, fun x hx => absurd hx (by simp), fun e0 => absurd (HER.out.symm.trans e0) (by first | decide | assumption), fun _ => ⟨rfl, rfl⟩, tB.out⟩
    have g0 : decide ((200 : Int) < (L.length : Int)) = false := decide_eq_false (by omega)
    have g1 : decide (200 < L.length) = false := decide_eq_false hmany
    have HER : Hid (Dg.addErr (ups hq) (ups wq) ⟨⟨ua, un⟩, ps, says, ts⟩ = 0) := by
      show _ = _
      unfold Dg.addErr
      rw [if_neg (fun e => e HCK.out), if_neg (fun e => e HCU.out), HLL.out, ups_length, if_neg hmany]
    have HST : Hid (Calls Tryz.prog 32 #[.slice aL L.length cL] w6 fun e w' => ∃ (c l : List Uv) (v : Value), e = .returned (.tuple #[.map (some w6.heap.size), v]) ∧ Dg.settle Dg.snoc [] (ups L) = (ups c, ups l) ∧ (c ++ l).Perm L ∧ CmAt w' w6.heap.size c ∧ URow w' w6.heap.size v l ∧ Below w6.heap.size w6 w') := settle_any L _ w6 (own_ups hrL) (by omega) (fun x hx => (HLok.out x hx).1) (fun x hx => idsOk_of (HLok.out x hx).2) HLnd.out
    go_upto_region 10 with (go_at_call 32; refine Calls.mono HST.out ?_; rintro e w7 ⟨c, l, v7, rfl, hse, hpm, hcm, hr7, hb7⟩; obtain ⟨a7, c7, rfl⟩ := own_slice hr7)
    have HSE : Hid (Dg.settle Dg.snoc [] (ups L) = (ups c, ups l)) := hse
    have HPM : Hid ((c ++ l).Perm L) := hpm
    have hcl : c.length ≤ 1000 ∧ l.length ≤ 1000 := by have := hpm.length_eq; rw [List.length_append] at this; omega
    have HG7 : Hid (Below w1.heap.size w1 w7) := HGL.out.trans (hb7.mono HGL.out.size)
    have HB7 : Hid (Below w6.heap.size w6 w7) := hb7
    have HOC : Hid (∀ x, x ∈ c → UvOk w7 x ∧ Few x.u) := fun x hx => ⟨(HLok.out x (hpm.mem_iff.mp (List.mem_append_left _ hx))).1.below hb7, few_of (HLok.out x (hpm.mem_iff.mp (List.mem_append_left _ hx))).2⟩
    have HOL : Hid (∀ x, x ∈ l → UvOk w7 x ∧ Few x.u) := fun x hx => ⟨(HLok.out x (hpm.mem_iff.mp (List.mem_append_right _ hx))).1.below hb7, few_of (HLok.out x (hpm.mem_iff.mp (List.mem_append_right _ hx))).2⟩
    have HNC : Hid (((ups c).map Wr.Up.id).Nodup ∧ ((ups l).map Wr.Up.id).Nodup) := by
      have h9 := nodup_perm hpm HLnd.out
      rw [ups_append, List.map_append, List.nodup_append] at h9
      exact ⟨h9.1, h9.2.1⟩
    have HCM : Hid (CmAt w7 w6.heap.size c) := hcm
    have HRW : Hid (URow w7 w6.heap.size (.slice a7 l.length c7) l) := hr7
    clear hse hpm hcm hr7 hb7 HST
    have HV1 : Hid (Calls Tryz.prog 34 #[.map (some w6.heap.size)] w7 fun e w' => ∃ lb, e = .returned (.func (.func 77) #[] lb) ∧ SeqU 77 lb c w' ∧ Below w7.heap.size w7 w') := mvals_any _ c w7 HCM.out
    go_wp2_with fail
    refine Calls.mono HV1.out ?_
    rintro e w8 ⟨lb8, rfl, hs8, hb8⟩
    have HC8 : Hid (Calls Tryz.prog 33 #[.func (.func 77) #[] lb8] w8 fun e w' => ∃ (v : Value) (R : List Uv), e = .returned v ∧ (ups R).Perm (ups c) ∧ Wr.rise Dg.uOrd (ups R) = true ∧ URow w' w8.heap.size v R ∧ (∀ x, x ∈ R → UvP w8.heap.size w' x) ∧ Below w8.heap.size w8 w') := copies_any 77 lb8 c hcl.1 w8 (fun x hx => (HOC.out x hx).1.below hb8) (fun x hx => (HOC.out x hx).2) HNC.out.1 hs8
    have HB8 : Hid (Below w7.heap.size w7 w8) := hb8
    clear hs8 hb8 HV1
    go_wp2_with fail
    refine Calls.mono HC8.out ?_
    rintro e wa ⟨va, R1, rfl, hp1, hi1, hrw1, hup1, hba⟩
    obtain ⟨ax, cx, rfl⟩ := own_slice hrw1
    have HBA : Hid (Below w7.heap.size w7 wa) := HB8.out.trans (hba.mono HB8.out.size)
    have HR1 : Hid (URow wa w7.heap.size (.slice ax R1.length cx) R1 ∧ ∀ x, x ∈ R1 → UvP w7.heap.size wa x) := ⟨rl_own_le hrw1 HB8.out.size, fun x hx => (hup1 x hx).le HB8.out.size⟩
    have HI1 : Hid ((ups R1).Perm (ups c) ∧ Wr.rise Dg.uOrd (ups R1) = true) := ⟨hp1, hi1⟩
    clear hp1 hi1 hrw1 hup1 hba HC8
    have HV2 : Hid (Calls Tryz.prog 35 #[.slice a7 l.length c7] wa fun e w' => ∃ lb, e = .returned (.func (.func 78) #[] lb) ∧ SeqU 78 lb l w' ∧ Below wa.heap.size wa w') := svals_any l _ wa (own_ups (ownsRow_below HRW.out HBA.out)) hcl.2 (fun x hx => (HOL.out x hx).1.below HBA.out)
    go_wp2_with fail
    refine Calls.mono HV2.out ?_
    rintro e wb ⟨lbb, rfl, hsb, hbb⟩
    have HBB : Hid (Below w7.heap.size w7 wb) := HBA.out.trans (hbb.mono HBA.out.size)
    have HC9 : Hid (Calls Tryz.prog 33 #[.func (.func 78) #[] lbb] wb fun e w' => ∃ (v : Value) (R : List Uv), e = .returned v ∧ (ups R).Perm (ups l) ∧ Wr.rise Dg.uOrd (ups R) = true ∧ URow w' wb.heap.size v R ∧ (∀ x, x ∈ R → UvP wb.heap.size w' x) ∧ Below wb.heap.size wb w') := copies_any 78 lbb l hcl.2 wb (fun x hx => (HOL.out x hx).1.below HBB.out) (fun x hx => (HOL.out x hx).2) HNC.out.2 hsb
    have HBW : Hid (Below wa.heap.size wa wb) := hbb
    clear hsb hbb HV2
    go_wp2_with fail
    refine Calls.mono HC9.out ?_
    rintro e w9 ⟨v9, R2, rfl, hp2, hi2, hrw2, hup2, hb9'⟩
    obtain ⟨ay, cy, rfl⟩ := own_slice hrw2
    have hba9 := HBW.out.trans (hb9'.mono HBW.out.size)
    have h79 := HBB.out.trans (hb9'.mono HBB.out.size)
    have HR1b : Hid (URow w9 w7.heap.size (.slice ax R1.length cx) R1 ∧ ∀ x, x ∈ R1 → UvP w7.heap.size w9 x) := ⟨ownsRow_below HR1.out.1 hba9, fun x hx => (HR1.out.2 x hx).below hba9⟩
    have HR2b : Hid (URow w9 w7.heap.size (.slice ay R2.length cy) R2 ∧ ∀ x, x ∈ R2 → UvP w7.heap.size w9 x) := ⟨rl_own_le hrw2 HBB.out.size, fun x hx => (hup2 x hx).le HBB.out.size⟩
    have HI2 : Hid ((ups R2).Perm (ups l) ∧ Wr.rise Dg.uOrd (ups R2) = true) := ⟨hp2, hi2⟩
    have HG9 : Hid (Below w1.heap.size w1 w9) := HG7.out.trans (h79.mono HG7.out.size)
    have hz7 : w.heap.size + 2 < w7.heap.size := by have h1 := HG7.out.size; have h2 := HSZ.out; omega
    clear hp2 hi2 hrw2 hup2 hb9' hba9 h79 HR1 HC9
    have sk0 := HZ.out w9 HG9.out
    have sz0 : (w9).cell? ⟨w.heap.size + 2, 0, none⟩ = some (.slice none 0 0) := by rw [Lib.cell_of_heap sk0]; rfl
    have sy0 := Lib.frozen_of_heap sk0 0
    have sk1 : ((w9).setCell ⟨w.heap.size + 2, 0, none⟩ (.slice ax R1.length cx)).heap[w.heap.size + 2]? = some (.cells #[.slice ax R1.length cx, .slice none 0 0] 24) := by rw [Lib.heap_setCell_same sk0]; rfl
    have sz1 : ((w9).setCell ⟨w.heap.size + 2, 0, none⟩ (.slice ax R1.length cx)).cell? ⟨w.heap.size + 2, 1, none⟩ = some (.slice none 0 0) := by rw [Lib.cell_of_heap sk1]; rfl
    have sy1 := Lib.frozen_of_heap sk1 1
    have sk2 : (((w9).setCell ⟨w.heap.size + 2, 0, none⟩ (.slice ax R1.length cx)).setCell ⟨w.heap.size + 2, 1, none⟩ (.slice ay R2.length cy)).heap[w.heap.size + 2]? = some (.cells #[.slice ax R1.length cx, .slice ay R2.length cy] 24) := by rw [Lib.heap_setCell_same sk1]; rfl
    have sd0 : (((w9).setCell ⟨w.heap.size + 2, 0, none⟩ (.slice ax R1.length cx)).setCell ⟨w.heap.size + 2, 1, none⟩ (.slice ay R2.length cy)).cell? ⟨w.heap.size + 2, 0, none⟩ = some (.slice ax R1.length cx) := by rw [Lib.cell_of_heap sk2]; rfl
    have sd1 : (((w9).setCell ⟨w.heap.size + 2, 0, none⟩ (.slice ax R1.length cx)).setCell ⟨w.heap.size + 2, 1, none⟩ (.slice ay R2.length cy)).cell? ⟨w.heap.size + 2, 1, none⟩ = some (.slice ay R2.length cy) := by rw [Lib.cell_of_heap sk2]; rfl
    have sg : (w9).grownBy (((w9).setCell ⟨w.heap.size + 2, 0, none⟩ (.slice ax R1.length cx)).setCell ⟨w.heap.size + 2, 1, none⟩ (.slice ay R2.length cy)) (some (w.heap.size + 2)) := (grown_set _ _ _ _).trans_row (grown_set _ _ _ _)
    have HFB : Hid (Below w.heap.size w (((w9).setCell ⟨w.heap.size + 2, 0, none⟩ (.slice ax R1.length cx)).setCell ⟨w.heap.size + 2, 1, none⟩ (.slice ay R2.length cy))) := (HT.out w9 HG9.out).grown sg (HT.out w9 HG9.out).size (fun j e => by cases e; omega)
    have HF1 : Hid (UpsV (((w9).setCell ⟨w.heap.size + 2, 0, none⟩ (.slice ax R1.length cx)).setCell ⟨w.heap.size + 2, 1, none⟩ (.slice ay R2.length cy)) (.slice ax R1.length cx) R1) := own_ups (HR1b.out.1.kept sg (.inr (fun e => by have := (HR1b.out.1.lt _ e).1; omega)))
    have HF2 : Hid (UpsV (((w9).setCell ⟨w.heap.size + 2, 0, none⟩ (.slice ax R1.length cx)).setCell ⟨w.heap.size + 2, 1, none⟩ (.slice ay R2.length cy)) (.slice ay R2.length cy) R2) := own_ups (HR2b.out.1.kept sg (.inr (fun e => by have := (HR2b.out.1.lt _ e).1; omega)))
    have HF3 : Hid (∀ x, x ∈ R1 ++ R2 → UvOk (((w9).setCell ⟨w.heap.size + 2, 0, none⟩ (.slice ax R1.length cx)).setCell ⟨w.heap.size + 2, 1, none⟩ (.slice ay R2.length cy)) x) := fun x hx => by
      rcases List.mem_append.mp hx with hx | hx
      · exact ((HR1b.out.2 x hx).grown sg hz7).ok
      · exact ((HR2b.out.2 x hx).grown sg hz7).ok
    have HIS : Hid (Dg.Is (Dg.more (ups hq ++ ups wq) ⟨⟨ua, un⟩, ps, says, ts⟩) (ups R1) (ups R2)) := by
      show Dg.Is _ _ _
      rw [HLL.out]
      exact Dg.is_settle HLnd.out (fun u => by rw [HSE.out]; exact HI1.out.1.mem_iff) (fun u => by rw [HSE.out]; exact HI2.out.1.mem_iff) HI1.out.2 HI2.out.2
    clear HR1b HR2b sk0 sk1 sk2 sg
    go_wp2_with fail
    refine bodyPost_ret (v := .tuple #[.agg #[.slice ax R1.length cx, .slice ay R2.length cy], .int .i64 0]) (by simp [results, Tryz.results6, go_sem, sd0, sd1]) rfl ?_
    refine ⟨_, _, R1, R2, by rw [HER.out], HF1.out, HF2.out, HF3.out, fun _ => HIS.out, fun h => absurd HER.out h, HFB.out⟩
  · -- it is there
    obtain ⟨L, HLE⟩ : ∃ L, Hid (L = q) := ⟨_, rfl⟩
    have HGL : Hid (Below w1.heap.size w1 w5) := HGW5.out
    have HNW : Hid (Dg.hasU (ups q) ⟨ua, un⟩ = true) := HB9.out
    have HLL : Hid (Dg.more (ups hq ++ ups wq) ⟨⟨ua, un⟩, ps, says, ts⟩ = ups q) := by
      show _ = _
      rw [HUQ.out]
      unfold Dg.more
      rw [if_pos HNW.out]
    have HLnd : Hid (((ups q).map Wr.Up.id).Nodup) := HQND.out
    have HLok : Hid (∀ x, x ∈ q → UvOk w5 x ∧ Wr.check x.u = 0) := fun x hx => ⟨(HQ3.out x hx).1.below HG35.out, (HQ3.out x hx).2⟩
    have hrL := hrq
    have hL201 : q.length ≤ 201 := by omega
    clear hrq HR4 HQ3 HB9
    go_upto_region 7 with fail
    by_cases hmany : 200 < q.length
    · omega
    have g0 : decide ((200 : Int) < (q.length : Int)) = false := decide_eq_false (by omega)
    have g1 : decide (200 < q.length) = false := decide_eq_false hmany
    have HER : Hid (Dg.addErr (ups hq) (ups wq) ⟨⟨ua, un⟩, ps, says, ts⟩ = 0) := by
      show _ = _
      unfold Dg.addErr
      rw [if_neg (fun e => e HCK.out), if_neg (fun e => e HCU.out), HLL.out, ups_length, if_neg hmany]
    have HST : Hid (Calls Tryz.prog 32 #[.slice al q.length cl] w5 fun e w' => ∃ (c l : List Uv) (v : Value), e = .returned (.tuple #[.map (some w5.heap.size), v]) ∧ Dg.settle Dg.snoc [] (ups q) = (ups c, ups l) ∧ (c ++ l).Perm q ∧ CmAt w' w5.heap.size c ∧ URow w' w5.heap.size v l ∧ Below w5.heap.size w5 w') := settle_any q _ w5 (own_ups hrL) (by omega) (fun x hx => (HLok.out x hx).1) (fun x hx => idsOk_of (HLok.out x hx).2) HLnd.out
    go_upto_region 10 with (go_at_call 32; refine Calls.mono HST.out ?_; rintro e w7 ⟨c, l, v7, rfl, hse, hpm, hcm, hr7, hb7⟩; obtain ⟨a7, c7, rfl⟩ := own_slice hr7)
    have HSE : Hid (Dg.settle Dg.snoc [] (ups q) = (ups c, ups l)) := hse
    have HPM : Hid ((c ++ l).Perm q) := hpm
    have hcl : c.length ≤ 1000 ∧ l.length ≤ 1000 := by have := hpm.length_eq; rw [List.length_append] at this; omega
    have HG7 : Hid (Below w1.heap.size w1 w7) := HGL.out.trans (hb7.mono HGL.out.size)
    have HB7 : Hid (Below w5.heap.size w5 w7) := hb7
    have HOC : Hid (∀ x, x ∈ c → UvOk w7 x ∧ Few x.u) := fun x hx => ⟨(HLok.out x (hpm.mem_iff.mp (List.mem_append_left _ hx))).1.below hb7, few_of (HLok.out x (hpm.mem_iff.mp (List.mem_append_left _ hx))).2⟩
    have HOL : Hid (∀ x, x ∈ l → UvOk w7 x ∧ Few x.u) := fun x hx => ⟨(HLok.out x (hpm.mem_iff.mp (List.mem_append_right _ hx))).1.below hb7, few_of (HLok.out x (hpm.mem_iff.mp (List.mem_append_right _ hx))).2⟩
    have HNC : Hid (((ups c).map Wr.Up.id).Nodup ∧ ((ups l).map Wr.Up.id).Nodup) := by
      have h9 := nodup_perm hpm HLnd.out
      rw [ups_append, List.map_append, List.nodup_append] at h9
      exact ⟨h9.1, h9.2.1⟩
    have HCM : Hid (CmAt w7 w5.heap.size c) := hcm
    have HRW : Hid (URow w7 w5.heap.size (.slice a7 l.length c7) l) := hr7
    clear hse hpm hcm hr7 hb7 HST
    have HV1 : Hid (Calls Tryz.prog 34 #[.map (some w5.heap.size)] w7 fun e w' => ∃ lb, e = .returned (.func (.func 77) #[] lb) ∧ SeqU 77 lb c w' ∧ Below w7.heap.size w7 w') := mvals_any _ c w7 HCM.out
    go_wp2_with fail
    refine Calls.mono HV1.out ?_
    rintro e w8 ⟨lb8, rfl, hs8, hb8⟩
    have HC8 : Hid (Calls Tryz.prog 33 #[.func (.func 77) #[] lb8] w8 fun e w' => ∃ (v : Value) (R : List Uv), e = .returned v ∧ (ups R).Perm (ups c) ∧ Wr.rise Dg.uOrd (ups R) = true ∧ URow w' w8.heap.size v R ∧ (∀ x, x ∈ R → UvP w8.heap.size w' x) ∧ Below w8.heap.size w8 w') := copies_any 77 lb8 c hcl.1 w8 (fun x hx => (HOC.out x hx).1.below hb8) (fun x hx => (HOC.out x hx).2) HNC.out.1 hs8
    have HB8 : Hid (Below w7.heap.size w7 w8) := hb8
    clear hs8 hb8 HV1
    go_wp2_with fail
    refine Calls.mono HC8.out ?_
    rintro e wa ⟨va, R1, rfl, hp1, hi1, hrw1, hup1, hba⟩
    obtain ⟨ax, cx, rfl⟩ := own_slice hrw1
    have HBA : Hid (Below w7.heap.size w7 wa) := HB8.out.trans (hba.mono HB8.out.size)
    have HR1 : Hid (URow wa w7.heap.size (.slice ax R1.length cx) R1 ∧ ∀ x, x ∈ R1 → UvP w7.heap.size wa x) := ⟨rl_own_le hrw1 HB8.out.size, fun x hx => (hup1 x hx).le HB8.out.size⟩
    have HI1 : Hid ((ups R1).Perm (ups c) ∧ Wr.rise Dg.uOrd (ups R1) = true) := ⟨hp1, hi1⟩
    clear hp1 hi1 hrw1 hup1 hba HC8
    have HV2 : Hid (Calls Tryz.prog 35 #[.slice a7 l.length c7] wa fun e w' => ∃ lb, e = .returned (.func (.func 78) #[] lb) ∧ SeqU 78 lb l w' ∧ Below wa.heap.size wa w') := svals_any l _ wa (own_ups (ownsRow_below HRW.out HBA.out)) hcl.2 (fun x hx => (HOL.out x hx).1.below HBA.out)
    go_wp2_with fail
    refine Calls.mono HV2.out ?_
    rintro e wb ⟨lbb, rfl, hsb, hbb⟩
    have HBB : Hid (Below w7.heap.size w7 wb) := HBA.out.trans (hbb.mono HBA.out.size)
    have HC9 : Hid (Calls Tryz.prog 33 #[.func (.func 78) #[] lbb] wb fun e w' => ∃ (v : Value) (R : List Uv), e = .returned v ∧ (ups R).Perm (ups l) ∧ Wr.rise Dg.uOrd (ups R) = true ∧ URow w' wb.heap.size v R ∧ (∀ x, x ∈ R → UvP wb.heap.size w' x) ∧ Below wb.heap.size wb w') := copies_any 78 lbb l hcl.2 wb (fun x hx => (HOL.out x hx).1.below HBB.out) (fun x hx => (HOL.out x hx).2) HNC.out.2 hsb
    have HBW : Hid (Below wa.heap.size wa wb) := hbb
    clear hsb hbb HV2
    go_wp2_with fail
    refine Calls.mono HC9.out ?_
    rintro e w9 ⟨v9, R2, rfl, hp2, hi2, hrw2, hup2, hb9'⟩
    obtain ⟨ay, cy, rfl⟩ := own_slice hrw2
    have hba9 := HBW.out.trans (hb9'.mono HBW.out.size)
    have h79 := HBB.out.trans (hb9'.mono HBB.out.size)
    have HR1b : Hid (URow w9 w7.heap.size (.slice ax R1.length cx) R1 ∧ ∀ x, x ∈ R1 → UvP w7.heap.size w9 x) := ⟨ownsRow_below HR1.out.1 hba9, fun x hx => (HR1.out.2 x hx).below hba9⟩
    have HR2b : Hid (URow w9 w7.heap.size (.slice ay R2.length cy) R2 ∧ ∀ x, x ∈ R2 → UvP w7.heap.size w9 x) := ⟨rl_own_le hrw2 HBB.out.size, fun x hx => (hup2 x hx).le HBB.out.size⟩
    have HI2 : Hid ((ups R2).Perm (ups l) ∧ Wr.rise Dg.uOrd (ups R2) = true) := ⟨hp2, hi2⟩
    have HG9 : Hid (Below w1.heap.size w1 w9) := HG7.out.trans (h79.mono HG7.out.size)
    have hz7 : w.heap.size + 2 < w7.heap.size := by have h1 := HG7.out.size; have h2 := HSZ.out; omega
    clear hp2 hi2 hrw2 hup2 hb9' hba9 h79 HR1 HC9
    have sk0 := HZ.out w9 HG9.out
    have sz0 : (w9).cell? ⟨w.heap.size + 2, 0, none⟩ = some (.slice none 0 0) := by rw [Lib.cell_of_heap sk0]; rfl
    have sy0 := Lib.frozen_of_heap sk0 0
    have sk1 : ((w9).setCell ⟨w.heap.size + 2, 0, none⟩ (.slice ax R1.length cx)).heap[w.heap.size + 2]? = some (.cells #[.slice ax R1.length cx, .slice none 0 0] 24) := by rw [Lib.heap_setCell_same sk0]; rfl
    have sz1 : ((w9).setCell ⟨w.heap.size + 2, 0, none⟩ (.slice ax R1.length cx)).cell? ⟨w.heap.size + 2, 1, none⟩ = some (.slice none 0 0) := by rw [Lib.cell_of_heap sk1]; rfl
    have sy1 := Lib.frozen_of_heap sk1 1
    have sk2 : (((w9).setCell ⟨w.heap.size + 2, 0, none⟩ (.slice ax R1.length cx)).setCell ⟨w.heap.size + 2, 1, none⟩ (.slice ay R2.length cy)).heap[w.heap.size + 2]? = some (.cells #[.slice ax R1.length cx, .slice ay R2.length cy] 24) := by rw [Lib.heap_setCell_same sk1]; rfl
    have sd0 : (((w9).setCell ⟨w.heap.size + 2, 0, none⟩ (.slice ax R1.length cx)).setCell ⟨w.heap.size + 2, 1, none⟩ (.slice ay R2.length cy)).cell? ⟨w.heap.size + 2, 0, none⟩ = some (.slice ax R1.length cx) := by rw [Lib.cell_of_heap sk2]; rfl
    have sd1 : (((w9).setCell ⟨w.heap.size + 2, 0, none⟩ (.slice ax R1.length cx)).setCell ⟨w.heap.size + 2, 1, none⟩ (.slice ay R2.length cy)).cell? ⟨w.heap.size + 2, 1, none⟩ = some (.slice ay R2.length cy) := by rw [Lib.cell_of_heap sk2]; rfl
    have sg : (w9).grownBy (((w9).setCell ⟨w.heap.size + 2, 0, none⟩ (.slice ax R1.length cx)).setCell ⟨w.heap.size + 2, 1, none⟩ (.slice ay R2.length cy)) (some (w.heap.size + 2)) := (grown_set _ _ _ _).trans_row (grown_set _ _ _ _)
    have HFB : Hid (Below w.heap.size w (((w9).setCell ⟨w.heap.size + 2, 0, none⟩ (.slice ax R1.length cx)).setCell ⟨w.heap.size + 2, 1, none⟩ (.slice ay R2.length cy))) := (HT.out w9 HG9.out).grown sg (HT.out w9 HG9.out).size (fun j e => by cases e; omega)
    have HF1 : Hid (UpsV (((w9).setCell ⟨w.heap.size + 2, 0, none⟩ (.slice ax R1.length cx)).setCell ⟨w.heap.size + 2, 1, none⟩ (.slice ay R2.length cy)) (.slice ax R1.length cx) R1) := own_ups (HR1b.out.1.kept sg (.inr (fun e => by have := (HR1b.out.1.lt _ e).1; omega)))
    have HF2 : Hid (UpsV (((w9).setCell ⟨w.heap.size + 2, 0, none⟩ (.slice ax R1.length cx)).setCell ⟨w.heap.size + 2, 1, none⟩ (.slice ay R2.length cy)) (.slice ay R2.length cy) R2) := own_ups (HR2b.out.1.kept sg (.inr (fun e => by have := (HR2b.out.1.lt _ e).1; omega)))
    have HF3 : Hid (∀ x, x ∈ R1 ++ R2 → UvOk (((w9).setCell ⟨w.heap.size + 2, 0, none⟩ (.slice ax R1.length cx)).setCell ⟨w.heap.size + 2, 1, none⟩ (.slice ay R2.length cy)) x) := fun x hx => by
      rcases List.mem_append.mp hx with hx | hx
      · exact ((HR1b.out.2 x hx).grown sg hz7).ok
      · exact ((HR2b.out.2 x hx).grown sg hz7).ok
    have HIS : Hid (Dg.Is (Dg.more (ups hq ++ ups wq) ⟨⟨ua, un⟩, ps, says, ts⟩) (ups R1) (ups R2)) := by
      show Dg.Is _ _ _
      rw [HLL.out]
      exact Dg.is_settle HLnd.out (fun u => by rw [HSE.out]; exact HI1.out.1.mem_iff) (fun u => by rw [HSE.out]; exact HI2.out.1.mem_iff) HI1.out.2 HI2.out.2
    clear HR1b HR2b sk0 sk1 sk2 sg
    go_wp2_with fail
    refine bodyPost_ret (v := .tuple #[.agg #[.slice ax R1.length cx, .slice ay R2.length cy], .int .i64 0]) (by simp [results, Tryz.results6, go_sem, sd0, sd1]) rfl ?_
    refine ⟨_, _, R1, R2, by rw [HER.out], HF1.out, HF2.out, HF3.out, fun _ => HIS.out, fun h => absurd HER.out h, HFB.out⟩
end Go.Proofs.YtmfaodapofamfaaGreat

/- What the document's CheckReplica answers, plain. -/
namespace Go.Proofs.YtmfaodapofamfaaGreat
open Go.RowKit

theorem uvD_left (h w : List Uv) {j : Nat} (hj : j < h.length) : uvD (h ++ w) j = uvD h j := by simp [uvD, List.getD, List.getElem?_append_left hj]
theorem uvD_right (h w : List Uv) (j : Nat) : uvD (h ++ w) (h.length + j) = uvD w j := by
  simp [uvD, List.getD, List.getElem?_append_right (Nat.le_add_right h.length j)]
namespace Dg
open Wr
theorem rise_at : ∀ (q : List Uv), Wr.rise uOrd (ups q) = true ↔ ∀ j, j + 1 < q.length → uOrd (uvD q j).u (uvD q (j + 1)).u < 0
  | [] => ⟨fun _ j h => by simp at h, fun _ => rfl⟩
  | [a] => ⟨fun _ j h => by simp at h, fun _ => rfl⟩
  | a :: b :: r => by
    show (decide (uOrd a.u b.u < 0) && Wr.rise uOrd (ups (b :: r))) = true ↔ _
    rw [Bool.and_eq_true, decide_eq_true_eq, rise_at (b :: r)]
    constructor
    · rintro ⟨h1, h2⟩ j hj
      cases j with
      | zero => exact h1
      | succ j => exact h2 j (by simpa using hj)
    · intro h
      exact ⟨h 0 (by simp), fun j hj => h (j + 1) (by simpa using hj)⟩
/-- In order so far. -/
def Ord (q : List Uv) (n i : Nat) : Prop := ∀ j, j + 1 < i → j + 1 ≠ n → uOrd (uvD q j).u (uvD q (j + 1)).u < 0
theorem Ord.one (q : List Uv) (n : Nat) : Ord q n 1 := fun j h => by omega
theorem Ord.skip {q : List Uv} {n i : Nat} (h : Ord q n i) (hi : i = n) : Ord q n (i + 1) := fun j h1 h2 => h j (by omega) h2
theorem Ord.step {q : List Uv} {n i j : Nat} (h : Ord q n i) (hj : i = j + 1) (hu : uOrd (uvD q j).u (uvD q i).u < 0) : Ord q n (i + 1) := fun k h1 h2 => by
  by_cases e : k + 1 < i
  · exact h k e h2
  · have : k = j := by omega
    subst this
    subst hj
    exact hu
theorem Ord.fin {h w : List Uv} {i : Nat} (ho : Ord (h ++ w) h.length i) (hi : ¬ i < (h ++ w).length) : Wr.rise uOrd (ups h) = true ∧ Wr.rise uOrd (ups w) = true := by
  rw [List.length_append] at hi
  refine ⟨(rise_at h).mpr fun j hj => ?_, (rise_at w).mpr fun j hj => ?_⟩
  · have := ho j (by omega) (by omega)
    rwa [uvD_left h w (by omega), uvD_left h w hj] at this
  · have := ho (h.length + j) (by omega) (by omega)
    rwa [uvD_right, Nat.add_assoc, uvD_right] at this
theorem ord_no {h w : List Uv} {i j : Nat} (hj : i = j + 1) (hi : i < (h ++ w).length) (hn : i ≠ h.length) (hu : ¬ uOrd (uvD (h ++ w) j).u (uvD (h ++ w) i).u < 0) : together (ups h) (ups w) = 4 := by
  rw [List.length_append] at hi
  unfold together
  rw [if_pos]
  have : (Wr.rise uOrd (ups h) && Wr.rise uOrd (ups w)) = false := by
    subst hj
    by_cases hlt : j + 1 < h.length
    · cases hr : Wr.rise uOrd (ups h) with
      | false => rfl
      | true =>
        have := (rise_at h).mp hr j hlt
        rw [uvD_left h w (by omega), uvD_left h w hlt] at hu
        exact absurd this hu
    · cases hr : Wr.rise uOrd (ups w) with
      | false => rw [Bool.and_false]
      | true =>
        obtain ⟨m, rfl⟩ : ∃ m, j = h.length + m := ⟨j - h.length, by omega⟩
        have := (rise_at w).mp hr m (by omega)
        rw [uvD_right, Nat.add_assoc, uvD_right] at hu
        exact absurd this hu
  rw [this]
  rfl
theorem tog_both {h w : List Up} (hb : ∃ u, u ∈ w ∧ hasU h u.id = true) : together h w = 4 := by
  obtain ⟨u, hu, e⟩ := hb
  unfold together
  rw [if_pos]
  have : (w.any fun u => hasU h u.id) = true := List.any_eq_true.mpr ⟨u, hu, e⟩
  rw [this]
  simp
theorem tog_in {h w : List Up} (r : Wr.rise uOrd h = true ∧ Wr.rise uOrd w = true) (hb : ∀ u, u ∈ w → hasU h u.id = false) : together h w = if (h.any fun u => !carry h u) = true then 5
  else if ((settle snoc [] h).2.length != 0 || w.any (carry h)) = true then 4 else 0 := by
  have h1 : (w.any fun u => hasU h u.id) = false := by
    rw [List.any_eq_false]
    intro u hu
    rw [hb u hu]
    simp
  unfold together
  rw [if_neg]
  rw [r.1, r.2, h1]
  simp
theorem tog_none {h w : List Up} (r : Wr.rise uOrd h = true ∧ Wr.rise uOrd w = true) (hb : ∀ u, u ∈ w → hasU h u.id = false) (hn : ∃ u, u ∈ h ∧ carry h u = false) : together h w = 5 := by
  obtain ⟨u, hu, e⟩ := hn
  rw [tog_in r hb, if_pos]
  exact List.any_eq_true.mpr ⟨u, hu, by rw [e]; rfl⟩
theorem tog_then {h w : List Up} (r : Wr.rise uOrd h = true ∧ Wr.rise uOrd w = true) (hb : ∀ u, u ∈ w → hasU h u.id = false) (hn : ∀ u, u ∈ h → carry h u = true) : together h w = if ((settle snoc [] h).2.length != 0 || w.any (carry h)) = true then 4 else 0 := by
  rw [tog_in r hb, if_neg]
  intro e
  obtain ⟨u, hu, e⟩ := List.any_eq_true.mp e
  rw [hn u hu] at e
  cases e
theorem any_yes {w : List Up} {p : Up → Bool} (h : ∃ u, u ∈ w ∧ p u = true) : w.any p = true := List.any_eq_true.mpr h
theorem any_not {w : List Up} {p : Up → Bool} (h : ∀ u, u ∈ w → p u = false) : w.any p = false := by
  rw [List.any_eq_false]
  intro u hu
  rw [h u hu]
  simp
end Dg
theorem take_mem {q : List Uv} {k : Nat} {p : Wr.Up → Prop} (hk : k < q.length) (h : ∀ u, u ∈ ups (q.take k) → p u) (hx : p (uvD q k).u) : ∀ u, u ∈ ups (q.take (k + 1)) → p u := by
  intro u hu
  rw [uvD_take q k hk, ups_append] at hu
  rcases List.mem_append.mp hu with hu | hu
  · exact h u hu
  · simp only [ups, List.map_cons, List.map_nil, List.mem_singleton] at hu
    rw [hu]; exact hx
theorem take_all {q : List Uv} {k : Nat} {p : Wr.Up → Prop} (hk : ¬ k < q.length) (h : ∀ u, u ∈ ups (q.take k) → p u) : ∀ u, u ∈ ups q → p u := by
  rwa [List.take_of_length_le (by omega)] at h
theorem appUps_run {W : World} (y : World) (B : Nat) (hB : B ≤ y.heap.size) (v : Value) (q : List Uv) (hown : URow y B v q) (ao : Option Addr) (cap : Nat) (q2 : List Uv) (hA : UpsAt y ao q2) (hcap : ao = none → cap = 0) (hok : ∀ x, x ∈ q2 → UvOk W x) (hb : q.length + q2.length ≤ 4194304) (ty : TypeId) :
    ∃ v' y', (Builtin.append_ #[22, 22] ty #[v, .slice ao q2.length cap]).run Tryz.prog y = .ok v' y' ∧ URow y' B v' (q ++ q2) ∧ y.grownBy y' v.ownBlock := by
  obtain ⟨i0, hi, hz0, hz1, hz2⟩ := info_parts up_info
  cases ao with
  | none =>
    have hl0 : q2 = [] := by
      rcases hA with h | ⟨b, off, h, _⟩
      · exact h
      · cases h
    subst hl0
    have hr := run_append_owned_none (P := Tryz.prog) (w := y) B 22 ty 30 i0 5 Tryz.underlying22 hi v q.length _ hown
    rw [hcap rfl]
    exact ⟨v, y, hr, by rw [List.append_nil]; exact hown, grown_refl _ _⟩
  | some ad =>
    obtain ⟨v', y', r1, r2, r3, _⟩ := run_append_own (P := Tryz.prog) y B 22 ty 30 i0 _ 5 88 Tryz.underlying22 hi hz0 hz1 hz2 rfl (by decide) v q.length _ hown ad q2.length cap (q2.map uvCells).flatten (ups_flat q2) (by
      intro j u hj
      rcases hA with h | ⟨b, off, h, hc⟩
      · rw [h] at hj; simp at hj
      · rw [Option.some.inj h, Addr.add_lit]
        exact ups_cells hc j u hj) (uv_one hok) (by unfold maxLen; omega) (by omega) hB
    exact ⟨v', y', r1, by show World.ownsRow _ _ _ _ _ _ _; rw [List.length_append, List.map_append, List.flatten_append]; exact r2, r3⟩
end Go.Proofs.YtmfaodapofamfaaGreat

/- The document's SameUpdates, SameReplica, SameIds; replicaIs, factsAre: of what is the same. -/
namespace Go.Proofs.YtmfaodapofamfaaGreat
open Go.RowKit

def sameT (b f n c b9 f9 n9 c9 k o o9 : Nat) (X Y : Value) (tQ : Nat) (vQ : Value) (_ : World) : Prop :=
  match tQ with
  | 17 => vQ = .slice (some ⟨b, f, none⟩) n c
  | 18 => vQ = .int .i64 k
  | 19 => vQ = .pointer (some ⟨b, o, none⟩)
  | 20 => vQ = X
  | 21 => vQ = .slice (some ⟨b9, f9, none⟩) n9 c9
  | 22 => vQ = .int .i64 k
  | 23 => vQ = .pointer (some ⟨b9, o9, none⟩)
  | 24 => vQ = Y
  | 25 => vQ = .bool true
  | 26 => vQ = .bool false
  | _ => True
theorem sameT_mono (b f n c b9 f9 n9 c9 k o o9 : Nat) (X Y : Value) (tQ : Nat) (vQ : Value) (W W' : World) (_ : Below W.heap.size W W') (h : sameT b f n c b9 f9 n9 c9 k o o9 X Y tQ vQ W) : sameT b f n c b9 f9 n9 c9 k o o9 X Y tQ vQ W' := by
  revert h
  unfold sameT
  split <;> (intro h; first | exact h)

set_option maxRecDepth 100000 in
set_option maxHeartbeats 2000000 in
theorem SameUpdates_same (q r : List Uv) (vq vr : Value) (w : World) (hV : UpsV w vq q) (hR : UpsV w vr r) (he : ups q = ups r) (hq : q.length ≤ 1000) (hok : ∀ x, x ∈ q → UvOk w x) (hok2 : ∀ x, x ∈ r → UvOk w x) :
    Calls Tryz.prog 26 #[vq, vr] w fun e w' => e = .returned (.bool true) ∧ Below w.heap.size w w' := by
  have HO : Hid (∀ x, x ∈ q → UvOk w x) := hok
  have HO2 : Hid (∀ x, x ∈ r → UvOk w x) := hok2
  have HE : Hid (∀ k, k < q.length → (uvD q k).u = (uvD r k).u) := fun k hk => by
    have h1 := congrArg (fun l => l[k]?) he
    have hk2 : k < r.length := by have := congrArg List.length he; rw [ups_length, ups_length] at this; omega
    simpa [ups, uvD, hk, hk2] using h1
  have hl : q.length = r.length := by have := congrArg List.length he; rwa [ups_length, ups_length] at this
  obtain ⟨ao, cap, rfl, _, hA⟩ := hV
  obtain ⟨ao9, cap9, rfl, _, hA9⟩ := hR
  have HA : Hid (UpsAt w ao q) := hA
  have HA9 : Hid (UpsAt w ao9 r) := hA9
  clear hok hok2 hA hA9 he
  have g0 : ((q.length : Int) == (r.length : Int)) = true := by rw [hl]; simp
  have g1 : (q.length == r.length) = true := by rw [hl]; simp
  have g3 : (q.length : Int) = (r.length : Int) := by rw [hl]
  go_enter Tryz.func26, Tryz.ntmps26
  go_wp2_with fail
  go_loopw [5] (fun iv wr => ∃ k : Nat, k ≤ q.length ∧ iv = .int .i64 k ∧ Hid (Below w.heap.size w wr)) (fun iv _ => q.length - (intOf iv).toNat)
  case atStart => exact ⟨0, Nat.zero_le _, rfl, Below.refl _ _⟩
  case round =>
    obtain ⟨k, hk, rfl, HG⟩ := hrel
    by_cases hlt : k < q.length
    · have g2 : decide (k < q.length) = true := decide_eq_true hlt
      have hlt2 : k < r.length := by omega
      obtain ⟨b, off, rfl, p0, p1, p2, p3, p4⟩ := ups_at (HA.out.kc (Kc.below HG.out)) k hlt
      obtain ⟨b9, off9, rfl, s0, s1, s2, s3, s4⟩ := ups_at (HA9.out.kc (Kc.below HG.out)) k hlt2
      have hx := (HO.out _ (uvD_mem q k hlt)).below HG.out
      have hy := (HO2.out _ (uvD_mem r k hlt2)).below HG.out
      have hxy := HE.out k hlt
      have HCL : Hid (∀ z, Below wr.heap.size wr z → Calls Tryz.prog 62 #[uvVal (uvD q k), uvVal (uvD r k)] z fun e w' => e = .returned (.bool true) ∧ Below z.heap.size z w') := fun z hz => by
        have h1 := hx.below hz
        have h2 := hy.below hz
        refine (SameUpdate_any (uvD q k).u (uvD r k).u _ _ _ _ _ _ z h1.p h1.s h1.t h2.p h2.s h2.t h1.f h2.f h1.l).mono ?_
        rintro e w' ⟨t, rfl, ht, hb⟩
        exact ⟨by rw [ht.mpr hxy], hb⟩
      have HU : Hid (∀ z, Below wr.heap.size wr z → UpIn z b (off + k * 5) (uvD q k) ∧ UpIn z b9 (off9 + k * 5) (uvD r k)) := fun z hz => ⟨⟨cell_below hz p0, cell_below hz p1, cell_below hz p2, cell_below hz p3, cell_below hz p4⟩, ⟨cell_below hz s0, cell_below hz s1, cell_below hz s2, cell_below hz s3, cell_below hz s4⟩⟩
      obtain ⟨a1, n1, d1, a2, n2, d2, a3, n3, d3, e1, e2, e3⟩ := hx.forms
      obtain ⟨b1, m1, f1, b2, m2, f2, b3, m3, f3, e4, e5, e6⟩ := hy.forms
      clear p0 p1 p2 p3 p4 s0 s1 s2 s3 s4 hx hy hxy
      generalize uvD q k = x at *
      generalize uvD r k = y at *
      obtain ⟨⟨⟨ua, un⟩, ps, says, ts⟩, vp, vs, vt⟩ := x
      obtain ⟨⟨⟨va, vn⟩, ps2, says2, ts2⟩, vp2, vs2, vt2⟩ := y
      dsimp only at *
      subst e1 e2 e3 e4 e5 e6
      go_upto_region 6 with fail
      refine wp_region_tabA (sameT b off q.length cap b9 off9 r.length cap9 k (off + k * 5) (off9 + k * 5) (.agg #[.int .i64 ua, .int .i64 un, .slice a1 n1 d1, .slice a2 n2 d2, .slice a3 n3 d3]) (.agg #[.int .i64 va, .int .i64 vn, .slice b1 m1 f1, .slice b2 m2 f2, .slice b3 m3 f3])) (by kernel_rfl) (by kernel_rfl) (sameT_mono _ _ _ _ _ _ _ _ _ _ _ _ _) ?hop6 ?hend6
      case hop6 =>
        refine AllOps.cons (fun a y h => ?_) ?_
        · have e0 : a.eval (.tmp 0) = (.slice (some ⟨b, off, none⟩) q.length cap : Value) := h.old 0 (by kernel_rfl)
          refine opOk_val (v := .slice (some ⟨b, off, none⟩) q.length cap) (w' := y) (wanted_none rfl) ?_ (fun t ht => by cases ht; exact rfl) (Below.refl _ _)
          have ec : ∀ v, a.eval (.const v) = v := fun _ => rfl
          generalize a.eval = ev at *
          clear h
          go_simp
        refine AllOps.cons (fun a y h => ?_) ?_
        · have e5 : a.eval (.tmp 5) = (.int .i64 k : Value) := h.old 5 (by kernel_rfl)
          refine opOk_val (v := .int .i64 k) (w' := y) (wanted_none rfl) ?_ (fun t ht => by cases ht; exact rfl) (Below.refl _ _)
          have ec : ∀ v, a.eval (.const v) = v := fun _ => rfl
          generalize a.eval = ev at *
          clear h
          go_simp
        refine AllOps.cons (fun a y h => ?_) ?_
        · have e17 : a.eval (.tmp 17) = (.slice (some ⟨b, off, none⟩) q.length cap : Value) := h.of 17 (by kernel_rfl)
          have e18 : a.eval (.tmp 18) = (.int .i64 k : Value) := h.of 18 (by kernel_rfl)
          refine opOk_val (v := .pointer (some ⟨b, off + k * 5, none⟩)) (w' := y) (wanted_none rfl) ?_ (fun t ht => by cases ht; exact rfl) (Below.refl _ _)
          have ec : ∀ v, a.eval (.const v) = v := fun _ => rfl
          generalize a.eval = ev at *
          clear h
          go_simp
        refine AllOps.cons (fun a y h => ?_) ?_
        · have e19 : a.eval (.tmp 19) = (.pointer (some ⟨b, off + k * 5, none⟩) : Value) := h.of 19 (by kernel_rfl)
          obtain ⟨⟨u0, u1, u2, u3, u4⟩, _⟩ := HU.out y h.below
          refine opOk_val (v := .agg #[.int .i64 ua, .int .i64 un, .slice a1 n1 d1, .slice a2 n2 d2, .slice a3 n3 d3]) (w' := y) (wanted_none rfl) ?_ (fun t ht => by cases ht; exact rfl) (Below.refl _ _)
          have ec : ∀ v, a.eval (.const v) = v := fun _ => rfl
          generalize a.eval = ev at *
          clear h
          go_simp
        refine AllOps.cons (fun a y h => ?_) ?_
        · have e1 : a.eval (.tmp 1) = (.slice (some ⟨b9, off9, none⟩) r.length cap9 : Value) := h.old 1 (by kernel_rfl)
          refine opOk_val (v := .slice (some ⟨b9, off9, none⟩) r.length cap9) (w' := y) (wanted_none rfl) ?_ (fun t ht => by cases ht; exact rfl) (Below.refl _ _)
          have ec : ∀ v, a.eval (.const v) = v := fun _ => rfl
          generalize a.eval = ev at *
          clear h
          go_simp
        refine AllOps.cons (fun a y h => ?_) ?_
        · have e5 : a.eval (.tmp 5) = (.int .i64 k : Value) := h.old 5 (by kernel_rfl)
          refine opOk_val (v := .int .i64 k) (w' := y) (wanted_none rfl) ?_ (fun t ht => by cases ht; exact rfl) (Below.refl _ _)
          have ec : ∀ v, a.eval (.const v) = v := fun _ => rfl
          generalize a.eval = ev at *
          clear h
          go_simp
        refine AllOps.cons (fun a y h => ?_) ?_
        · have e21 : a.eval (.tmp 21) = (.slice (some ⟨b9, off9, none⟩) r.length cap9 : Value) := h.of 21 (by kernel_rfl)
          have e22 : a.eval (.tmp 22) = (.int .i64 k : Value) := h.of 22 (by kernel_rfl)
          refine opOk_val (v := .pointer (some ⟨b9, off9 + k * 5, none⟩)) (w' := y) (wanted_none rfl) ?_ (fun t ht => by cases ht; exact rfl) (Below.refl _ _)
          have ec : ∀ v, a.eval (.const v) = v := fun _ => rfl
          generalize a.eval = ev at *
          clear h
          go_simp
        refine AllOps.cons (fun a y h => ?_) ?_
        · have e23 : a.eval (.tmp 23) = (.pointer (some ⟨b9, off9 + k * 5, none⟩) : Value) := h.of 23 (by kernel_rfl)
          obtain ⟨_, ⟨u0, u1, u2, u3, u4⟩⟩ := HU.out y h.below
          refine opOk_val (v := .agg #[.int .i64 va, .int .i64 vn, .slice b1 m1 f1, .slice b2 m2 f2, .slice b3 m3 f3]) (w' := y) (wanted_none rfl) ?_ (fun t ht => by cases ht; exact rfl) (Below.refl _ _)
          have ec : ∀ v, a.eval (.const v) = v := fun _ => rfl
          generalize a.eval = ev at *
          clear h
          go_simp
        refine AllOps.cons (fun a y h => ?_) ?_
        · have e20 : a.eval (.tmp 20) = (.agg #[.int .i64 ua, .int .i64 un, .slice a1 n1 d1, .slice a2 n2 d2, .slice a3 n3 d3] : Value) := h.of 20 (by kernel_rfl)
          have e24 : a.eval (.tmp 24) = (.agg #[.int .i64 va, .int .i64 vn, .slice b1 m1 f1, .slice b2 m2 f2, .slice b3 m3 f3] : Value) := h.of 24 (by kernel_rfl)
          refine opOk_call (f := 62) (args := #[.agg #[.int .i64 ua, .int .i64 un, .slice a1 n1 d1, .slice a2 n2 d2, .slice a3 n3 d3], .agg #[.int .i64 va, .int .i64 vn, .slice b1 m1 f1, .slice b2 m2 f2, .slice b3 m3 f3]]) (wanted_none rfl) ?_ ?_
          · have ec : ∀ v, a.eval (.const v) = v := fun _ => rfl
            have ef : ∀ f, a.eval (.func f) = .func (.func f) #[] #[] := fun _ => rfl
            generalize a.eval = ev at *
            clear h
            go_simp
          · refine (HCL.out y h.below).mono ?_
            rintro e w' ⟨rfl, hb⟩
            exact ⟨_, rfl, fun t ht => by cases ht; exact rfl, hb⟩
        refine AllOps.cons (fun a y h => ?_) ?_
        · have e25 : a.eval (.tmp 25) = (.bool true : Value) := h.of 25 (by kernel_rfl)
          refine opOk_val (v := .bool false) (w' := y) (wanted_none rfl) ?_ (fun t ht => by cases ht; exact rfl) (Below.refl _ _)
          have ec : ∀ v, a.eval (.const v) = v := fun _ => rfl
          generalize a.eval = ev at *
          clear h
          go_simp
        exact AllOps.nil
      rintro ⟨tm, df⟩ wE hbE hdE hszE hstE hTE
      have k26 : tm.getD 26 undef = .bool false := ends_at (T := sameT b off q.length cap b9 off9 r.length cap9 k (off + k * 5) (off9 + k * 5) (.agg #[.int .i64 ua, .int .i64 un, .slice a1 n1 d1, .slice a2 n2 d2, .slice a3 n3 d3]) (.agg #[.int .i64 va, .int .i64 vn, .slice b1 m1 f1, .slice b2 m2 f2, .slice b3 m3 f3])) (w := wE) (a := ⟨tm, df⟩) (t := 26) hTE (by kernel_rfl)
      obtain rfl : df = [] := hdE
      clear hTE
      have hF8 := tmps_fold [17, 18, 19, 20, 21, 22, 23, 24, 25, 26] tm _ hszE hstE
      clear hszE hstE
      simp only [List.foldl_cons, List.foldl_nil, k26] at hF8
      clear k26
      generalize tm.getD 17 undef = x17 at hF8
      generalize tm.getD 18 undef = x18 at hF8
      generalize tm.getD 19 undef = x19 at hF8
      generalize tm.getD 20 undef = x20 at hF8
      generalize tm.getD 21 undef = x21 at hF8
      generalize tm.getD 22 undef = x22 at hF8
      generalize tm.getD 23 undef = x23 at hF8
      generalize tm.getD 24 undef = x24 at hF8
      generalize tm.getD 25 undef = x25 at hF8
      simp only [List.setIfInBounds_toArray, List.set_cons_zero, List.set_cons_succ] at hF8
      subst hF8
      have HG2 : Hid (Below w.heap.size w wE) := HG.out.trans (hbE.mono HG.out.size)
      clear hbE HU HG HCL
      go_wp2_with fail
      go_roundw
      case rel => exact ⟨k + 1, hlt, by go_num, HG2.out⟩
      case measure => simp [intOf]; omega
    · have g2 : decide (k < q.length) = false := decide_eq_false hlt
      go_wp2_with fail
      go_ret
      exact ⟨rfl, HG.out⟩
set_option maxRecDepth 100000 in
set_option maxHeartbeats 2000000 in
theorem SameReplica_same (hq wq hq2 wq2 : List Uv) (hv wv hv2 wv2 : Value) (w : World) (h1 : UpsV w hv hq) (h2 : UpsV w wv wq) (h3 : UpsV w hv2 hq2) (h4 : UpsV w wv2 wq2) (e1 : ups hq = ups hq2) (e2 : ups wq = ups wq2) (hl : hq.length ≤ 1000 ∧ wq.length ≤ 1000)
    (o1 : ∀ x, x ∈ hq ++ wq → UvOk w x) (o2 : ∀ x, x ∈ hq2 ++ wq2 → UvOk w x) :
    Calls Tryz.prog 20 #[repVal hv wv, repVal hv2 wv2] w fun e w' => e = .returned (.bool true) ∧ Below w.heap.size w w' := by
  have HC1 : Hid (∀ z, Below w.heap.size w z → Calls Tryz.prog 26 #[hv, hv2] z fun e w' => e = .returned (.bool true) ∧ Below z.heap.size z w') := fun z hz => SameUpdates_same hq hq2 _ _ z (h1.kc (Kc.below hz)) (h3.kc (Kc.below hz)) e1 hl.1 (fun x hx => (o1 x (List.mem_append_left _ hx)).below hz) (fun x hx => (o2 x (List.mem_append_left _ hx)).below hz)
  have HC2 : Hid (∀ z, Below w.heap.size w z → Calls Tryz.prog 26 #[wv, wv2] z fun e w' => e = .returned (.bool true) ∧ Below z.heap.size z w') := fun z hz => SameUpdates_same wq wq2 _ _ z (h2.kc (Kc.below hz)) (h4.kc (Kc.below hz)) e2 hl.2 (fun x hx => (o1 x (List.mem_append_right _ hx)).below hz) (fun x hx => (o2 x (List.mem_append_right _ hx)).below hz)
  obtain ⟨ah, ch, rfl, _⟩ := h1
  obtain ⟨aw, cw, rfl, _⟩ := h2
  obtain ⟨ah2, ch2, rfl, _⟩ := h3
  obtain ⟨aw2, cw2, rfl, _⟩ := h4
  clear o1 o2 e1 e2
  have hb1 : Below w.heap.size w (w.alloc (.cells #[.slice ah hq.length ch, .slice aw wq.length cw] 24)) := (Below.refl _ _).alloc (Nat.le_refl _) _
  have hh1 := rl_new w (.cells #[.slice ah hq.length ch, .slice aw wq.length cw] 24)
  have hb2 : Below (w.alloc (.cells #[.slice ah hq.length ch, .slice aw wq.length cw] 24)).heap.size (w.alloc (.cells #[.slice ah hq.length ch, .slice aw wq.length cw] 24)) ((w.alloc (.cells #[.slice ah hq.length ch, .slice aw wq.length cw] 24)).alloc (.cells #[.slice ah2 hq2.length ch2, .slice aw2 wq2.length cw2] 24)) := (Below.refl _ _).alloc (Nat.le_refl _) _
  have hh2 := rl_new (w.alloc (.cells #[.slice ah hq.length ch, .slice aw wq.length cw] 24)) (.cells #[.slice ah2 hq2.length ch2, .slice aw2 wq2.length cw2] 24)
  rw [World.size_alloc] at hh2
  have HB : Hid (Below w.heap.size w ((w.alloc (.cells #[.slice ah hq.length ch, .slice aw wq.length cw] 24)).alloc (.cells #[.slice ah2 hq2.length ch2, .slice aw2 wq2.length cw2] 24))) := hb1.trans (hb2.mono hb1.size)
  have hh3 := (hb2.block _ (Array.getElem?_eq_some_iff.1 hh1).1).trans hh1
  clear hb1 hb2 hh1
  go_enter Tryz.func20, Tryz.ntmps20
  go_upto_region 1 with fail
  generalize (w.alloc (.cells #[.slice ah hq.length ch, .slice aw wq.length cw] 24)).alloc (.cells #[.slice ah2 hq2.length ch2, .slice aw2 wq2.length cw2] 24) = w2 at *
  have HF : Hid (∀ z, Below w2.heap.size w2 z → (z.cell? ⟨w.heap.size, 0, none⟩ = some (.slice ah hq.length ch) ∧ z.cell? ⟨w.heap.size, 1, none⟩ = some (.slice aw wq.length cw)) ∧ z.cell? ⟨w.heap.size + 1, 0, none⟩ = some (.slice ah2 hq2.length ch2) ∧ z.cell? ⟨w.heap.size + 1, 1, none⟩ = some (.slice aw2 wq2.length cw2)) := fun z hz => by
    have k3 := (hz.block _ (Array.getElem?_eq_some_iff.1 hh3).1).trans hh3
    have k2 := (hz.block _ (Array.getElem?_eq_some_iff.1 hh2).1).trans hh2
    exact ⟨⟨by rw [Lib.cell_of_heap k3]; rfl, by rw [Lib.cell_of_heap k3]; rfl⟩, by rw [Lib.cell_of_heap k2]; rfl, by rw [Lib.cell_of_heap k2]; rfl⟩
  clear hh2 hh3
  obtain ⟨⟨c0, c1⟩, c2, c3⟩ := HF.out w2 (Below.refl _ _)
  go_wp2_with (first | ((with_reducible refine Calls.mono (HC1.out _ HB.out) ?_); rintro e w3 ⟨rfl, hb3⟩; obtain ⟨⟨t0, t1⟩, t2, t3⟩ := HF.out w3 hb3; have HB3 : Hid (Below w.heap.size w w3) := HB.out.trans (hb3.mono HB.out.size)) | ((with_reducible refine Calls.mono (HC2.out _ HB3.out) ?_); rintro e w4 ⟨rfl, hb4⟩))
  go_ret
  exact ⟨rfl, HB3.out.trans (hb4.mono HB3.out.size)⟩
end Go.Proofs.YtmfaodapofamfaaGreat

/- replicaIs and factsAre, of what is the same. -/
namespace Go.Proofs.YtmfaodapofamfaaGreat
open Go.RowKit

set_option maxRecDepth 100000 in
set_option maxHeartbeats 2000000 in
theorem replicaIs_same (hq wq hq2 wq2 : List Uv) (hv wv hv2 wv2 : Value) (e : Int) (w : World) (h1 : UpsV w hv hq) (h2 : UpsV w wv wq) (h3 : UpsV w hv2 hq2) (h4 : UpsV w wv2 wq2) (hy : e = 0 → ups hq = ups hq2 ∧ ups wq = ups wq2) (hn : e ≠ 0 → hq = [] ∧ wq = []) (hl : hq.length ≤ 1000 ∧ wq.length ≤ 1000)
    (o1 : ∀ x, x ∈ hq ++ wq → UvOk w x) (o2 : ∀ x, x ∈ hq2 ++ wq2 → UvOk w x) :
    Calls Tryz.prog 16 #[repVal hv wv, .int .i64 e, .int .i64 e, repVal hv2 wv2] w fun e w' => e = .returned (.bool true) ∧ Below w.heap.size w w' := by
  have HC : Hid (e = 0 → ∀ z, Below w.heap.size w z → Calls Tryz.prog 20 #[repVal hv wv, repVal hv2 wv2] z fun e w' => e = .returned (.bool true) ∧ Below z.heap.size z w') := fun he z hz => SameReplica_same hq wq hq2 wq2 _ _ _ _ z (h1.kc (Kc.below hz)) (h2.kc (Kc.below hz)) (h3.kc (Kc.below hz)) (h4.kc (Kc.below hz)) (hy he).1 (hy he).2 hl (fun x hx => (o1 x hx).below hz) (fun x hx => (o2 x hx).below hz)
  have HCN : Hid (e ≠ 0 → ∀ z, Below w.heap.size w z → Calls Tryz.prog 20 #[repVal hv wv, repVal (.slice none 0 0) (.slice none 0 0)] z fun e w' => e = .returned (.bool true) ∧ Below z.heap.size z w') := fun he z hz => by
    obtain ⟨e1, e2⟩ := hn he
    exact SameReplica_same hq wq [] [] _ _ _ _ z (h1.kc (Kc.below hz)) (h2.kc (Kc.below hz)) (ups_nil _) (ups_nil _) (by rw [e1]) (by rw [e2]) hl (fun x hx => (o1 x hx).below hz) (fun x hx => absurd hx (by simp))
  obtain ⟨ah, ch, rfl, _⟩ := h1
  obtain ⟨aw, cw, rfl, _⟩ := h2
  obtain ⟨ah2, ch2, rfl, _⟩ := h3
  obtain ⟨aw2, cw2, rfl, _⟩ := h4
  clear o1 o2 hy hn
  have hb1 : Below w.heap.size w (w.alloc (.cells #[.slice ah hq.length ch, .slice aw wq.length cw] 24)) := (Below.refl _ _).alloc (Nat.le_refl _) _
  have hh1 := rl_new w (.cells #[.slice ah hq.length ch, .slice aw wq.length cw] 24)
  have hb2 : Below (w.alloc (.cells #[.slice ah hq.length ch, .slice aw wq.length cw] 24)).heap.size (w.alloc (.cells #[.slice ah hq.length ch, .slice aw wq.length cw] 24)) ((w.alloc (.cells #[.slice ah hq.length ch, .slice aw wq.length cw] 24)).alloc (.cells #[.slice ah2 hq2.length ch2, .slice aw2 wq2.length cw2] 24)) := (Below.refl _ _).alloc (Nat.le_refl _) _
  have hh2 := rl_new (w.alloc (.cells #[.slice ah hq.length ch, .slice aw wq.length cw] 24)) (.cells #[.slice ah2 hq2.length ch2, .slice aw2 wq2.length cw2] 24)
  rw [World.size_alloc] at hh2
  have HB : Hid (Below w.heap.size w ((w.alloc (.cells #[.slice ah hq.length ch, .slice aw wq.length cw] 24)).alloc (.cells #[.slice ah2 hq2.length ch2, .slice aw2 wq2.length cw2] 24))) := hb1.trans (hb2.mono hb1.size)
  have hh3 := (hb2.block _ (Array.getElem?_eq_some_iff.1 hh1).1).trans hh1
  clear hb1 hb2 hh1
  go_enter Tryz.func16, Tryz.ntmps16
  go_upto_region 1 with fail
  generalize (w.alloc (.cells #[.slice ah hq.length ch, .slice aw wq.length cw] 24)).alloc (.cells #[.slice ah2 hq2.length ch2, .slice aw2 wq2.length cw2] 24) = w2 at *
  by_cases he : e = 0
  · have HC2 : Hid _ := HC.out he w2 HB.out
    subst he
    have c0 : w2.cell? ⟨w.heap.size, 0, none⟩ = some (.slice ah hq.length ch) := by rw [Lib.cell_of_heap hh3]; rfl
    have c1 : w2.cell? ⟨w.heap.size, 1, none⟩ = some (.slice aw wq.length cw) := by rw [Lib.cell_of_heap hh3]; rfl
    have c2 : w2.cell? ⟨w.heap.size + 1, 0, none⟩ = some (.slice ah2 hq2.length ch2) := by rw [Lib.cell_of_heap hh2]; rfl
    have c3 : w2.cell? ⟨w.heap.size + 1, 1, none⟩ = some (.slice aw2 wq2.length cw2) := by rw [Lib.cell_of_heap hh2]; rfl
    clear hh2 hh3 HC HCN
    go_wp2_with (go_at_call 20; refine Calls.mono HC2.out ?_; rintro e z1 ⟨rfl, hg1⟩)
    go_ret
    exact ⟨rfl, HB.out.trans (hg1.mono HB.out.size)⟩
  · have hne : (e != 0) = true := by simpa using he
    have sz0 : w2.cell? ⟨w.heap.size + 1, 0, none⟩ = some (.slice ah2 hq2.length ch2) := by rw [Lib.cell_of_heap hh2]; rfl
    have sy0 := Lib.frozen_of_heap hh2 0
    have sk1 : (w2.setCell ⟨w.heap.size + 1, 0, none⟩ (.slice none 0 0)).heap[w.heap.size + 1]? = some (.cells #[.slice none 0 0, .slice aw2 wq2.length cw2] 24) := by rw [Lib.heap_setCell_same hh2]; rfl
    have sz1 : (w2.setCell ⟨w.heap.size + 1, 0, none⟩ (.slice none 0 0)).cell? ⟨w.heap.size + 1, 1, none⟩ = some (.slice aw2 wq2.length cw2) := by rw [Lib.cell_of_heap sk1]; rfl
    have sy1 := Lib.frozen_of_heap sk1 1
    have sk2 : ((w2.setCell ⟨w.heap.size + 1, 0, none⟩ (.slice none 0 0)).setCell ⟨w.heap.size + 1, 1, none⟩ (.slice none 0 0)).heap[w.heap.size + 1]? = some (.cells #[.slice none 0 0, .slice none 0 0] 24) := by rw [Lib.heap_setCell_same sk1]; rfl
    have sg : w2.grownBy ((w2.setCell ⟨w.heap.size + 1, 0, none⟩ (.slice none 0 0)).setCell ⟨w.heap.size + 1, 1, none⟩ (.slice none 0 0)) (some (w.heap.size + 1)) := (grown_set _ _ _ _).trans_row (grown_set _ _ _ _)
    have HB4 : Hid (Below w.heap.size w ((w2.setCell ⟨w.heap.size + 1, 0, none⟩ (.slice none 0 0)).setCell ⟨w.heap.size + 1, 1, none⟩ (.slice none 0 0))) := HB.out.grown sg HB.out.size (fun j e => by cases e; omega)
    have hh4 : ((w2.setCell ⟨w.heap.size + 1, 0, none⟩ (.slice none 0 0)).setCell ⟨w.heap.size + 1, 1, none⟩ (.slice none 0 0)).heap[w.heap.size]? = some (.cells #[.slice ah hq.length ch, .slice aw wq.length cw] 24) := (sg.block _ (Array.getElem?_eq_some_iff.1 hh3).1 (fun e => by injection e; omega)).trans hh3
    have HC2 : Hid _ := HCN.out he _ HB4.out
    clear HC HCN sg hh2 hh3
    go_upto_region 3 with fail
    generalize (w2.setCell ⟨w.heap.size + 1, 0, none⟩ (.slice none 0 0)).setCell ⟨w.heap.size + 1, 1, none⟩ (.slice none 0 0) = w4 at *
    have c0 : w4.cell? ⟨w.heap.size, 0, none⟩ = some (.slice ah hq.length ch) := by rw [Lib.cell_of_heap hh4]; rfl
    have c1 : w4.cell? ⟨w.heap.size, 1, none⟩ = some (.slice aw wq.length cw) := by rw [Lib.cell_of_heap hh4]; rfl
    have c2 : w4.cell? ⟨w.heap.size + 1, 0, none⟩ = some (.slice none 0 0) := by rw [Lib.cell_of_heap sk2]; rfl
    have c3 : w4.cell? ⟨w.heap.size + 1, 1, none⟩ = some (.slice none 0 0) := by rw [Lib.cell_of_heap sk2]; rfl
    clear sz0 sy0 sk1 sz1 sy1 sk2 hh4
    go_wp2_with (go_at_call 20; refine Calls.mono HC2.out ?_; rintro e z1 ⟨rfl, hg1⟩)
    go_ret
    exact ⟨rfl, HB4.out.trans (hg1.mono HB4.out.size)⟩
end Go.Proofs.YtmfaodapofamfaaGreat

/- What rows, facts and their order lean on. -/
/- of WrPut -/
namespace Go.Proofs.YtmfaodapofamfaaGreat
open Go.RowKit
end Go.Proofs.YtmfaodapofamfaaGreat
/- of WrEnc -/
namespace Go.Proofs.YtmfaodapofamfaaGreat
open Go.RowKit
end Go.Proofs.YtmfaodapofamfaaGreat
/- of WrNum -/
namespace Go.Proofs.YtmfaodapofamfaaGreat
open Go.RowKit
end Go.Proofs.YtmfaodapofamfaaGreat
/- of WrRead -/
namespace Go.Proofs.YtmfaodapofamfaaGreat
open Go.RowKit
theorem old_set {z : World} {b k o : Nat} {x : Obj} {a : Array Value} {t : TypeId} {fz : Nat × Nat} (hb : z.heap[b]? = some x) (hk : z.heap[k]? = some (.cells a t fz)) (ht : ∀ c f, x ≠ .cells c t f) (u : Value) : (z.setCell ⟨k, o, none⟩ u).heap[b]? = some x := by
  rw [heap_setCell_other z ⟨k, o, none⟩ b u (fun e => ?_)]
  · exact hb
  · subst e
    rw [hk] at hb
    exact ht a fz (Option.some.inj hb).symm
end Go.Proofs.YtmfaodapofamfaaGreat
/- of WrFact -/
namespace Go.Proofs.YtmfaodapofamfaaGreat
open Go.RowKit
end Go.Proofs.YtmfaodapofamfaaGreat
/- of WrFacts -/
namespace Go.Proofs.YtmfaodapofamfaaGreat
open Go.RowKit
/-- Each fact's numbers lie in a row of their own. -/
def ArgsP (B : Nat) (w : World) (q : List Fv) : Prop := ∀ p, p ∈ q → w.ownsRow B 3 1 p.2 p.1.args.length (p.1.args.map (Value.int .i64)) ∧ p.1.args.length ≤ 255
theorem ArgsP.type {B : Nat} {w w' : World} {q : List Fv} (h : ArgsP B w q) (hk : ∀ (k : Nat) (a : Array Value), w.heap[k]? = some (.cells a 3) → w'.heap[k]? = some (.cells a 3)) : ArgsP B w' q := fun p hp => ⟨own_type (h p hp).1 hk, (h p hp).2⟩
end Go.Proofs.YtmfaodapofamfaaGreat
/- of WrUpd -/
namespace Go.Proofs.YtmfaodapofamfaaGreat
open Go.RowKit
/-- What stands but the reader and boxes of updates. -/
def KD (z z' : World) : Prop := ∀ (k : Nat) (a : Array Value) (t : TypeId), t ≠ 30 → t ≠ 30 → z.heap[k]? = some (.cells a t) → z'.heap[k]? = some (.cells a t)
theorem KD.trans {a b c : World} (h : KD a b) (k : KD b c) : KD a c := fun i x t h1 h2 h3 => k i x t h1 h2 (h i x t h1 h2 h3)
theorem KD.own {z z' : World} (h : KD z z') {B e c n : Nat} {v : Value} {xs : List Value} (ho : z.ownsRow B e c v n xs) (h1 : e ≠ 30) (h2 : e ≠ 30) : z'.ownsRow B e c v n xs := own_type ho (fun k a hk => h k a e h1 h2 hk)
theorem KD.args {z z' : World} (h : KD z z') {B : Nat} {q : List Fv} (ho : ArgsP B z q) : ArgsP B z' q := ho.type (fun k a hk => h k a 3 (by decide) (by decide) hk)
theorem KD.set {z : World} {U o : Nat} {a : Array Value} {fz : Nat × Nat} (hU : z.heap[U]? = some (.cells a 30 fz)) (u : Value) : KD z (z.setCell ⟨U, o, none⟩ u) := fun _ _ t _ h2 hk => old_set hk hU (fun _ _ h => by injection h with _ h _; exact h2 h) u
abbrev zeroUp : Array Value := #[.int .i64 0, .int .i64 0, .slice none 0 0, .slice none 0 0, .slice none 0 0]
/-- A box of an update that is written whole. -/
abbrev five (z : World) (T : Nat) (v0 v1 v2 v3 v4 : Value) : World := ((((z.setCell ⟨T, 0, none⟩ v0).setCell ⟨T, 1, none⟩ v1).setCell ⟨T, 2, none⟩ v2).setCell ⟨T, 3, none⟩ v3).setCell ⟨T, 4, none⟩ v4
theorem five_set {z : World} {T : Nat} {x0 x1 x2 x3 x4 : Value} (hT : z.heap[T]? = some (.cells #[x0, x1, x2, x3, x4] 30)) (v0 v1 v2 v3 v4 : Value) :
    (five z T v0 v1 v2 v3 v4).heap[T]? = some (.cells #[v0, v1, v2, v3, v4] 30) ∧ KD z (five z T v0 v1 v2 v3 v4) := by
  have h1 := Lib.heap_setCell_same (i := 0) hT v0
  have h2 := Lib.heap_setCell_same (i := 1) h1 v1
  have h3 := Lib.heap_setCell_same (i := 2) h2 v2
  have h4 := Lib.heap_setCell_same (i := 3) h3 v3
  have h5 := Lib.heap_setCell_same (i := 4) h4 v4
  refine ⟨h5, (((((KD.set hT v0).trans (KD.set h1 v1)).trans (KD.set h2 v2)).trans (KD.set h3 v3)).trans (KD.set h4 v4))⟩
end Go.Proofs.YtmfaodapofamfaaGreat
/- of WrDec -/
namespace Go.Proofs.YtmfaodapofamfaaGreat
open Go.RowKit
theorem flat2 {α : Type} (f : α → List Value) (hf : ∀ x, (f x).length = 2) : ∀ (l : List α) (i : Nat) (h : i < l.length) (j : Nat), j < 2 → ((l.map f).flatten)[i * 2 + j]? = (f l[i])[j]?
  | x :: l, 0, h, j, hj => by
    rw [List.map_cons, List.flatten_cons, Nat.zero_mul, Nat.zero_add, List.getElem?_append_left (by rw [hf]; exact hj)]
    rfl
  | x :: l, i + 1, h, j, hj => by
    rw [List.map_cons, List.flatten_cons, List.getElem?_append_right (by rw [hf]; omega), hf]
    have e : (i + 1) * 2 + j - 2 = i * 2 + j := by omega
    rw [e, flat2 f hf l i (by simpa using h) j hj]
    rfl
theorem own_fcs {w : World} {B : Nat} {v : Value} {q : List Fv} (h : w.ownsRow B 84 2 v q.length (q.map fcCells).flatten) (ha : ArgsP B w q) : FactsV w v (q.map (·.1)) := by
  rcases ownsRow_forms9 h with ⟨rfl, h0⟩ | ⟨g, cap, rfl⟩
  · have : q = [] := List.eq_nil_of_length_eq_zero h0
    subst this
    exact ⟨none, 0, rfl, ⟨Nat.le_refl _, fun _ => rfl⟩, .inl rfl⟩
  · obtain ⟨ao, cap', hv, hc, hcs⟩ := own_cells h
    injection hv with h1 h2 h3
    subst h1 h3
    refine ⟨_, cap, by rw [List.length_map], ⟨by rw [List.length_map]; exact hc, fun h => by cases h⟩, ?_⟩
    rcases hcs with h0 | ⟨g', hg, hcs⟩
    · exact .inl (by rw [List.eq_nil_of_length_eq_zero h0]; rfl)
    · cases hg
      refine .inr ⟨g, 0, rfl, fun i hi => ?_⟩
      rw [List.length_map] at hi
      have hd : Rl.factD (q.map (·.1)) i = q[i].1 := by simp [Rl.factD, hi]
      have a := flat2 fcCells (fun _ => rfl) q i hi
      rw [Nat.zero_add, hd]
      exact ⟨(hcs (i * 2) (by omega)).trans (a 0 (by decide)), q[i].2, (hcs (i * 2 + 1) (by omega)).trans (a 1 (by decide)), own_ints (ha _ (List.getElem_mem hi)).1⟩
/-- An update as it lies in memory. -/
def UpV (w : World) (u : Wr.Up) (vp vs vt : Value) : Prop := IdsV w vp u.ps ∧ FactsV w vs u.says ∧ IdsV w vt u.ts ∧ (∀ f, f ∈ u.says → FFit f) ∧ (u.ps.length ≤ 255 ∧ u.says.length ≤ 255 ∧ u.ts.length ≤ 255)
theorem five_below {w z : World} (h : Below w.heap.size w z) {v0 v1 v2 v3 v4 : Value} : Below w.heap.size w (five z w.heap.size v0 v1 v2 v3 v4) := by
  have s : ∀ {y : World} (i : Nat) (v : Value), Below w.heap.size w y → Below w.heap.size w (y.setCell ⟨w.heap.size, i, none⟩ v) := fun i v hy => hy.setCell (Nat.le_refl _) v
  exact s 4 _ (s 3 _ (s 2 _ (s 1 _ (s 0 _ h))))
end Go.Proofs.YtmfaodapofamfaaGreat
/- of WrTwo -/
namespace Go.Proofs.YtmfaodapofamfaaGreat
open Go.RowKit
def Wr.firstU : Wr.Up := ⟨⟨0, 1⟩, [], [⟨0, [1, 2]⟩, ⟨0, [2, 3]⟩], []⟩
def Wr.secondU : Wr.Up := ⟨⟨1, 1⟩, [⟨0, 1⟩], [⟨0, [4, 5]⟩], [⟨0, 1⟩]⟩
theorem own_new (w : World) (cur : Array Value) (e c n B : Nat) (hB : B ≤ w.heap.size) (hs : cur.size = n * c) (hn : n ≤ maxLen) : (w.alloc (.cells cur e)).ownsRow B e c (.slice (some ⟨w.heap.size, 0, none⟩) n n) n cur.toList :=
  ⟨by rw [Array.length_toList, hs], .inr ⟨w.heap.size, n, cur, rfl, hB, heap_alloc_new w _, Nat.le_refl _, hn, hs, by rw [← hs, ← Array.length_toList, List.take_length]⟩⟩
set_option maxRecDepth 100000 in
set_option maxHeartbeats 1000000 in
theorem pairsW_any (w : World) : Calls Tryz.prog 86 #[] w fun e w' => ∃ (q : List Fv) (v : Value), e = .returned v ∧ q.map (·.1) = Wr.firstU.says ∧ w'.ownsRow w.heap.size 84 2 v q.length (q.map fcCells).flatten ∧ ArgsP w.heap.size w' q ∧ Below w.heap.size w w' := by
  have HFC : Hid (∀ (p : Int) (a : Option Addr) (n c : Nat) (w : World), Calls Tryz.prog 55 #[.int .i64 p, .slice a n c] w fun e w' => e = .returned (fcVal p (.slice a n c)) ∧ Below w.heap.size w w') := fact_any
  go_enter Tryz.func86, Tryz.ntmps86
  go_wp2_with fail
  have H1 : Hid _ := own_new w #[.int .i64 1, .int .i64 2] 3 1 2 w.heap.size (Nat.le_refl _) rfl (by unfold maxLen; omega)
  have B1 : Hid _ := new_below w (.cells #[.int .i64 1, .int .i64 2] 3)
  generalize hX1 : w.heap.size = X1 at *
  generalize w.alloc (.cells #[.int .i64 1, .int .i64 2] 3) = w1 at *
  refine Calls.mono (HFC.out _ _ _ _ _) ?_
  rintro _ y1 ⟨rfl, hb1⟩
  have J1 : Hid _ := ownsRow_below H1.out hb1
  have D1 : Hid (Below X1 w y1) := B1.out.trans (hb1.mono (by rw [← hX1]; rw [← hX1] at B1; exact B1.out.size))
  clear hb1 H1 B1
  go_wp2_with fail
  have H2 : Hid _ := own_new y1 #[.int .i64 2, .int .i64 3] 3 1 2 X1 (by have := D1.out.size; omega) rfl (by unfold maxLen; omega)
  have K1 : Hid _ := ownsRow_below J1.out (new_below y1 (.cells #[.int .i64 2, .int .i64 3] 3))
  have D2 : Hid (Below X1 w (y1.alloc (.cells #[.int .i64 2, .int .i64 3] 3))) := D1.out.trans ((new_below y1 _).mono (by have := D1.out.size; omega))
  clear J1 D1
  generalize hX2 : y1.heap.size = X2 at *
  generalize y1.alloc (.cells #[.int .i64 2, .int .i64 3] 3) = w2 at *
  refine Calls.mono (HFC.out _ _ _ _ _) ?_
  rintro _ y5 ⟨rfl, hb5⟩
  have D9 : Hid (Below X1 w y5) := D2.out.trans (hb5.mono (by have := D2.out.size; omega))
  have HR : Hid _ := own_new y5 #[.int .i64 0, .slice (some ⟨X1, 0, none⟩) 2 2, .int .i64 0, .slice (some ⟨X2, 0, none⟩) 2 2] 84 2 2 X1 (by have := D9.out.size; omega) rfl (by unfold maxLen; omega)
  have nb := new_below y5 (.cells #[.int .i64 0, .slice (some ⟨X1, 0, none⟩) 2 2, .int .i64 0, .slice (some ⟨X2, 0, none⟩) 2 2] 84)
  have HR1 : Hid _ := ownsRow_below (ownsRow_below K1.out hb5) nb
  have HR2 : Hid _ := ownsRow_below (ownsRow_below H2.out hb5) nb
  have D10 : Hid _ := D9.out.trans (nb.mono (by have := D9.out.size; omega))
  clear hb5 H2 K1 D2 nb D9
  go_wp2_with fail
  go_ret
  exact ⟨[(⟨0, [1, 2]⟩, .slice (some ⟨X1, 0, none⟩) 2 2), (⟨0, [2, 3]⟩, .slice (some ⟨X2, 0, none⟩) 2 2)], _, rfl, rfl, by rw [hX1]; exact HR.out, by
    rw [hX1]
    intro p hp
    rcases List.mem_cons.mp hp with rfl | hp
    · exact ⟨HR1.out, (by decide : 2 ≤ 255)⟩
    · obtain rfl : p = (⟨0, [2, 3]⟩, .slice (some ⟨X2, 0, none⟩) 2 2) := by simpa using hp
      exact ⟨HR2.out, (by decide : 2 ≤ 255)⟩, by rw [hX1]; exact D10.out⟩
theorem UpV.own {w : World} {B : Nat} {x : Wr.Id} {ps ts : List Wr.Id} {q : List Fv} {vp vs vt : Value} (hp : w.ownsRow B 26 2 vp ps.length (ps.map idCells).flatten) (hs : w.ownsRow B 84 2 vs q.length (q.map fcCells).flatten) (ha : ArgsP B w q) (ht : w.ownsRow B 26 2 vt ts.length (ts.map idCells).flatten) (hl : ps.length ≤ 255 ∧ q.length ≤ 255 ∧ ts.length ≤ 255) : UpV w ⟨x, ps, q.map (·.1), ts⟩ vp vs vt := by
  refine ⟨own_ids hp, own_fcs hs ha, own_ids ht, fun f hf => ?_, ?_⟩
  · obtain ⟨p, hp, rfl⟩ := List.mem_map.mp hf
    exact Nat.le_trans (ha p hp).2 (by decide)
  · dsimp only
    rw [List.length_map]
    exact hl
set_option maxRecDepth 100000 in
set_option maxHeartbeats 1000000 in
theorem first_any (w : World) : Calls Tryz.prog 53 #[] w fun e w' => ∃ vp vs vt, e = .returned (upVal Wr.firstU vp vs vt) ∧ UpV w' Wr.firstU vp vs vt ∧ Below w.heap.size w w' := by
  have hT := heap_alloc_new w (.cells zeroUp 30)
  have hG := new_below w (.cells zeroUp 30)
  go_enter Tryz.func53, Tryz.ntmps53
  go_upto_region 1 with fail
  generalize w.alloc (.cells zeroUp 30) = w1 at *
  have HT : Hid (w1.heap[w.heap.size]? = some (.cells zeroUp 30)) := hT
  have HG : Hid (Below w.heap.size w w1) := hG
  have HP : Hid _ := pairsW_any w1
  clear hT hG
  go_wp2_with fail
  refine Calls.mono HP.out ?_
  rintro e y ⟨q, v, rfl, hq, ho, ha, hb⟩
  obtain ⟨ao, cap, rfl⟩ := own_slice ho
  have HT4 : Hid (y.heap[w.heap.size]? = some (.cells zeroUp 30)) := (hb.block _ (Array.getElem?_eq_some_iff.1 HT.out).1).trans HT.out
  have HB4 : Hid (Below w.heap.size w y) := HG.out.trans (hb.mono HG.out.size)
  have HQ : Hid _ := hq
  have HO : Hid _ := ho
  have HA : Hid (ArgsP w1.heap.size y q) := ha
  clear hq ho ha hb HT HG HP
  have t0 : y.cell? ⟨w.heap.size, 0, none⟩ = some (.int .i64 0) := by rw [Lib.cell_of_heap HT4.out]; rfl
  have t1 : y.cell? ⟨w.heap.size, 1, none⟩ = some (.int .i64 0) := by rw [Lib.cell_of_heap HT4.out]; rfl
  have t2 : y.cell? ⟨w.heap.size, 2, none⟩ = some (.slice none 0 0) := by rw [Lib.cell_of_heap HT4.out]; rfl
  have t3 : y.cell? ⟨w.heap.size, 3, none⟩ = some (.slice none 0 0) := by rw [Lib.cell_of_heap HT4.out]; rfl
  have t4 : y.cell? ⟨w.heap.size, 4, none⟩ = some (.slice none 0 0) := by rw [Lib.cell_of_heap HT4.out]; rfl
  have f0 : y.frozen? ⟨w.heap.size, 0, none⟩ = false := Lib.frozen_of_heap HT4.out 0
  have f1 : y.frozen? ⟨w.heap.size, 1, none⟩ = false := Lib.frozen_of_heap HT4.out 1
  have f2 : y.frozen? ⟨w.heap.size, 2, none⟩ = false := Lib.frozen_of_heap HT4.out 2
  have f3 : y.frozen? ⟨w.heap.size, 3, none⟩ = false := Lib.frozen_of_heap HT4.out 3
  have f4 : y.frozen? ⟨w.heap.size, 4, none⟩ = false := Lib.frozen_of_heap HT4.out 4
  have HE : Hid _ := five_set HT4.out (.int .i64 0) (.int .i64 1) (.slice none 0 0) (.slice ao q.length cap) (.slice none 0 0)
  have HBF : Hid (Below w.heap.size w (five y w.heap.size (.int .i64 0) (.int .i64 1) (.slice none 0 0) (.slice ao q.length cap) (.slice none 0 0))) := five_below HB4.out
  go_wp2_with fail
  clear t0 t1 t2 t3 t4 f0 f1 f2 f3 f4
  obtain ⟨k1, k2⟩ := HE.out
  have hq2 : q.length ≤ 255 := by
    have := congrArg List.length HQ.out
    rw [List.length_map] at this
    rw [this]
    decide
  have hU := UpV.own (x := ⟨0, 1⟩) (ps := []) (ts := []) (World.ownsRow_nil _ _ _ _) (k2.own HO.out (by decide) (by decide)) (k2.args HA.out) (World.ownsRow_nil _ _ _ _) ⟨by decide, hq2, by decide⟩
  have e0 : (⟨⟨0, 1⟩, [], q.map (·.1), []⟩ : Wr.Up) = Wr.firstU := by rw [HQ.out]; rfl
  rw [e0] at hU
  change bodyPost _ _ _ _ _ (five _ _ _ _ _ _ _)
  clear HE k2
  generalize five y w.heap.size (.int .i64 0) (.int .i64 1) (.slice none 0 0) (.slice ao q.length cap) (.slice none 0 0) = w11 at *
  have t0 : w11.cell? ⟨w.heap.size, 0, none⟩ = some (.int .i64 0) := by rw [Lib.cell_of_heap k1]; rfl
  have t1 : w11.cell? ⟨w.heap.size, 1, none⟩ = some (.int .i64 1) := by rw [Lib.cell_of_heap k1]; rfl
  have t2 : w11.cell? ⟨w.heap.size, 2, none⟩ = some (.slice none 0 0) := by rw [Lib.cell_of_heap k1]; rfl
  have t3 : w11.cell? ⟨w.heap.size, 3, none⟩ = some (.slice ao q.length cap) := by rw [Lib.cell_of_heap k1]; rfl
  have t4 : w11.cell? ⟨w.heap.size, 4, none⟩ = some (.slice none 0 0) := by rw [Lib.cell_of_heap k1]; rfl
  exact bodyPost_ret (v := .agg #[.int .i64 0, .int .i64 1, .slice none 0 0, .slice ao q.length cap, .slice none 0 0]) (by simp [results, Tryz.results53, go_sem, t0, t1, t2, t3, t4]) rfl ⟨_, _, _, rfl, hU, HBF.out⟩
theorem second_up {w : World} {B : Nat} {vp vs va vt : Value} (hp : w.ownsRow B 26 2 vp 1 [.int .i64 0, .int .i64 1]) (hs : w.ownsRow B 84 2 vs 1 [.int .i64 0, va]) (ha : w.ownsRow B 3 1 va 2 [.int .i64 4, .int .i64 5]) (ht : w.ownsRow B 26 2 vt 1 [.int .i64 0, .int .i64 1]) : UpV w Wr.secondU vp vs vt := by
  have ha2 : ArgsP B w [(⟨0, [4, 5]⟩, va)] := by
    intro p hp
    obtain rfl : p = (⟨0, [4, 5]⟩, va) := by simpa using hp
    exact ⟨ha, (by decide : 2 ≤ 255)⟩
  exact UpV.own (x := ⟨1, 1⟩) (ps := [⟨0, 1⟩]) (ts := [⟨0, 1⟩]) (q := [(⟨0, [4, 5]⟩, va)]) hp hs ha2 ht ⟨by decide, (by decide : 1 ≤ 255), by decide⟩
set_option maxRecDepth 100000 in
set_option maxHeartbeats 1000000 in
theorem second_any (w : World) : Calls Tryz.prog 52 #[] w fun e w' => ∃ vp vs vt, e = .returned (upVal Wr.secondU vp vs vt) ∧ UpV w' Wr.secondU vp vs vt ∧ Below w.heap.size w w' := by
  have HFC : Hid (∀ (p : Int) (a : Option Addr) (n c : Nat) (w : World), Calls Tryz.prog 55 #[.int .i64 p, .slice a n c] w fun e w' => e = .returned (fcVal p (.slice a n c)) ∧ Below w.heap.size w w') := fact_any
  have hT := heap_alloc_new w (.cells zeroUp 30)
  have hG := new_below w (.cells zeroUp 30)
  go_enter Tryz.func52, Tryz.ntmps52
  go_upto_region 1 with fail
  generalize w.alloc (.cells zeroUp 30) = w1 at *
  have HT : Hid (w1.heap[w.heap.size]? = some (.cells zeroUp 30)) := hT
  have HG : Hid (Below w.heap.size w w1) := hG
  have HP1 : Hid _ := own_new w1 #[.int .i64 0, .int .i64 1] 26 2 1 w1.heap.size (Nat.le_refl _) rfl (by unfold maxLen; omega)
  have nb1 := new_below w1 (.cells #[.int .i64 0, .int .i64 1] 26)
  have HA1 : Hid _ := own_new (w1.alloc (.cells #[.int .i64 0, .int .i64 1] 26)) #[.int .i64 4, .int .i64 5] 3 1 2 w1.heap.size nb1.size rfl (by unfold maxLen; omega)
  have nb2 := new_below (w1.alloc (.cells #[.int .i64 0, .int .i64 1] 26)) (.cells #[.int .i64 4, .int .i64 5] 3)
  have HP2 : Hid _ := ownsRow_below HP1.out nb2
  have HB2 : Hid _ := nb1.trans (nb2.mono nb1.size)
  have hsz : (w1.alloc (.cells #[.int .i64 0, .int .i64 1] 26)).heap.size = w1.heap.size + 1 := by simp
  rw [hsz] at HA1
  clear hT hG nb1 nb2 HP1 hsz
  go_wp2_with fail
  generalize (w1.alloc (.cells #[.int .i64 0, .int .i64 1] 26)).alloc (.cells #[.int .i64 4, .int .i64 5] 3) = w3 at *
  refine Calls.mono (HFC.out _ _ _ _ _) ?_
  rintro _ y ⟨rfl, hb⟩
  have HB3 : Hid _ := HB2.out.trans (hb.mono HB2.out.size)
  have hyz := HB3.out.size
  have HP3 : Hid _ := ownsRow_below HP2.out hb
  have HA3 : Hid _ := ownsRow_below HA1.out hb
  have HTY : Hid (y.heap[w.heap.size]? = some (.cells zeroUp 30)) := (HB3.out.block _ (Array.getElem?_eq_some_iff.1 HT.out).1).trans HT.out
  have HBY : Hid (Below w.heap.size w y) := HG.out.trans (HB3.out.mono HG.out.size)
  have HSZ : Hid (w1.heap.size ≤ y.heap.size) := hyz
  have HE : Hid _ := five_set HTY.out (.int .i64 1) (.int .i64 1) (.slice (some ⟨w1.heap.size, 0, none⟩) 1 1) (.slice (some ⟨y.heap.size, 0, none⟩) 1 1) (.slice (some ⟨y.heap.size + 1, 0, none⟩) 1 1)
  have HBF : Hid (Below w.heap.size w (five y w.heap.size (.int .i64 1) (.int .i64 1) (.slice (some ⟨w1.heap.size, 0, none⟩) 1 1) (.slice (some ⟨y.heap.size, 0, none⟩) 1 1) (.slice (some ⟨y.heap.size + 1, 0, none⟩) 1 1))) := five_below HBY.out
  have HZ : Hid ((five y w.heap.size (.int .i64 1) (.int .i64 1) (.slice (some ⟨w1.heap.size, 0, none⟩) 1 1) (.slice (some ⟨y.heap.size, 0, none⟩) 1 1) (.slice (some ⟨y.heap.size + 1, 0, none⟩) 1 1)).heap.size = y.heap.size) := by show _ = _; simp [five, World.setCell]
  clear hb HB3 HB2 HP2 HA1 hyz HT HG HBY
  have t0 : y.cell? ⟨w.heap.size, 0, none⟩ = some (.int .i64 0) := by rw [Lib.cell_of_heap HTY.out]; rfl
  have f0 : y.frozen? ⟨w.heap.size, 0, none⟩ = false := Lib.frozen_of_heap HTY.out 0
  have t1 : y.cell? ⟨w.heap.size, 1, none⟩ = some (.int .i64 0) := by rw [Lib.cell_of_heap HTY.out]; rfl
  have f1 : y.frozen? ⟨w.heap.size, 1, none⟩ = false := Lib.frozen_of_heap HTY.out 1
  have t2 : y.cell? ⟨w.heap.size, 2, none⟩ = some (.slice none 0 0) := by rw [Lib.cell_of_heap HTY.out]; rfl
  have f2 : y.frozen? ⟨w.heap.size, 2, none⟩ = false := Lib.frozen_of_heap HTY.out 2
  have t3 : y.cell? ⟨w.heap.size, 3, none⟩ = some (.slice none 0 0) := by rw [Lib.cell_of_heap HTY.out]; rfl
  have f3 : y.frozen? ⟨w.heap.size, 3, none⟩ = false := Lib.frozen_of_heap HTY.out 3
  have t4 : y.cell? ⟨w.heap.size, 4, none⟩ = some (.slice none 0 0) := by rw [Lib.cell_of_heap HTY.out]; rfl
  have f4 : y.frozen? ⟨w.heap.size, 4, none⟩ = false := Lib.frozen_of_heap HTY.out 4
  have hlt : w.heap.size < y.heap.size := (Array.getElem?_eq_some_iff.1 HTY.out).1
  go_wp2_with fail
  clear t0 t1 t2 t3 t4 f0 f1 f2 f3 f4
  obtain ⟨k1, k2⟩ := HE.out
  have hp6 := k2.own HP3.out (by decide) (by decide)
  have ha6 := k2.own HA3.out (by decide) (by decide)
  have hZ := HZ.out
  have hBF := HBF.out
  change bodyPost _ _ _ _ _ ((World.alloc (five y w.heap.size (.int .i64 1) (.int .i64 1) (.slice (some ⟨w1.heap.size, 0, none⟩) 1 1) (.slice (some ⟨y.heap.size, 0, none⟩) 1 1) (.slice (some ⟨y.heap.size + 1, 0, none⟩) 1 1)) (.cells #[.int .i64 0, .slice (some ⟨w1.heap.size + 1, 0, none⟩) 2 2] 84)).alloc (.cells #[.int .i64 0, .int .i64 1] 26))
  clear HE k2 HZ HBF
  generalize (five y w.heap.size (.int .i64 1) (.int .i64 1) (.slice (some ⟨w1.heap.size, 0, none⟩) 1 1) (.slice (some ⟨y.heap.size, 0, none⟩) 1 1) (.slice (some ⟨y.heap.size + 1, 0, none⟩) 1 1)) = y' at *
  have hs7 := own_new y' #[.int .i64 0, .slice (some ⟨w1.heap.size + 1, 0, none⟩) 2 2] 84 2 1 w1.heap.size (by rw [hZ]; exact HSZ.out) rfl (by unfold maxLen; omega)
  have nb1 := new_below y' (.cells #[.int .i64 0, .slice (some ⟨w1.heap.size + 1, 0, none⟩) 2 2] 84)
  have hq8 := own_new (y'.alloc (.cells #[.int .i64 0, .slice (some ⟨w1.heap.size + 1, 0, none⟩) 2 2] 84)) #[.int .i64 0, .int .i64 1] 26 2 1 w1.heap.size (Nat.le_trans (by rw [hZ]; exact HSZ.out) nb1.size) rfl (by unfold maxLen; omega)
  have nb2 := new_below (y'.alloc (.cells #[.int .i64 0, .slice (some ⟨w1.heap.size + 1, 0, none⟩) 2 2] 84)) (.cells #[.int .i64 0, .int .i64 1] 26)
  have e1 : (y'.alloc (.cells #[.int .i64 0, .slice (some ⟨w1.heap.size + 1, 0, none⟩) 2 2] 84)).heap.size = y.heap.size + 1 := by rw [← hZ]; simp
  rw [e1] at hq8
  rw [hZ] at hs7
  have hU := second_up (ownsRow_below (ownsRow_below hp6 nb1) nb2) (ownsRow_below hs7 nb2) (ownsRow_below (ownsRow_below ha6 nb1) nb2) hq8
  have hB := (hBF.trans (nb1.mono hBF.size)).trans (nb2.mono (Nat.le_trans hBF.size nb1.size))
  have hT9 := ((nb2.block _ (by rw [e1]; omega)).trans (nb1.block w.heap.size (by rw [hZ]; omega))).trans k1
  clear nb1 nb2 hs7 hq8 hp6 ha6 e1 hZ hBF k1
  generalize (y'.alloc (.cells #[.int .i64 0, .slice (some ⟨w1.heap.size + 1, 0, none⟩) 2 2] 84)).alloc (.cells #[.int .i64 0, .int .i64 1] 26) = w11 at *
  have t0 : w11.cell? ⟨w.heap.size, 0, none⟩ = some (.int .i64 1) := by rw [Lib.cell_of_heap hT9]; rfl
  have t1 : w11.cell? ⟨w.heap.size, 1, none⟩ = some (.int .i64 1) := by rw [Lib.cell_of_heap hT9]; rfl
  have t2 : w11.cell? ⟨w.heap.size, 2, none⟩ = some (.slice (some ⟨w1.heap.size, 0, none⟩) 1 1) := by rw [Lib.cell_of_heap hT9]; rfl
  have t3 : w11.cell? ⟨w.heap.size, 3, none⟩ = some (.slice (some ⟨y.heap.size, 0, none⟩) 1 1) := by rw [Lib.cell_of_heap hT9]; rfl
  have t4 : w11.cell? ⟨w.heap.size, 4, none⟩ = some (.slice (some ⟨y.heap.size + 1, 0, none⟩) 1 1) := by rw [Lib.cell_of_heap hT9]; rfl
  exact bodyPost_ret (v := .agg #[(.int .i64 1), (.int .i64 1), (.slice (some ⟨w1.heap.size, 0, none⟩) 1 1), (.slice (some ⟨y.heap.size, 0, none⟩) 1 1), (.slice (some ⟨y.heap.size + 1, 0, none⟩) 1 1)]) (by simp [results, Tryz.results52, go_sem, t0, t1, t2, t3, t4]) rfl ⟨_, _, _, rfl, hU, hB⟩
end Go.Proofs.YtmfaodapofamfaaGreat

/- The document's inOrder: updates with one more. -/
namespace Go.Proofs.YtmfaodapofamfaaGreat
open Go.RowKit

def insV (x : Uv) : List Uv → List Uv
  | [] => [x]
  | v :: r => if Dg.uOrd x.u v.u < 0 then x :: v :: r else v :: insV x r
theorem ups_insV (x : Uv) : ∀ q : List Uv, ups (insV x q) = Dg.ins x.u (ups q)
  | [] => rfl
  | v :: r => by
    show ups (insV x (v :: r)) = Dg.ins x.u (v.u :: ups r)
    unfold insV Dg.ins
    split
    · rfl
    · show v.u :: ups (insV x r) = _
      rw [ups_insV x r]
theorem ups_one (w : World) (x : Uv) : UpsAt (w.alloc (.cells #[.int .i64 x.u.id.a, .int .i64 x.u.id.n, x.p, x.s, x.t] 30)) (some ⟨w.heap.size, 0, none⟩) [x] := by
  refine .inr ⟨_, _, rfl, fun i hi => ?_⟩
  have e : i = 0 := by simpa using hi
  subst e
  have h := rl_new w (.cells #[.int .i64 x.u.id.a, .int .i64 x.u.id.n, x.p, x.s, x.t] 30)
  exact ⟨by rw [Lib.cell_of_heap h]; rfl, by rw [Lib.cell_of_heap h]; rfl, by rw [Lib.cell_of_heap h]; rfl, by rw [Lib.cell_of_heap h]; rfl, by rw [Lib.cell_of_heap h]; rfl⟩
theorem one_ok {w : World} {x : Uv} (h : UvOk w x) : ∀ y, y ∈ [x] → UvOk w y := fun y hy => by
  rw [List.mem_singleton] at hy
  rw [hy]
  exact h
theorem insV_perm (x : Uv) : ∀ q : List Uv, (insV x q).Perm (x :: q)
  | [] => .refl _
  | v :: r => by
    unfold insV
    split
    · exact .refl _
    · exact ((insV_perm x r).cons v).trans (List.Perm.swap x v r)
/-- What is done so far. -/
def InsI (x : Uv) (q : List Uv) (i : Nat) (p : Bool) (o : List Uv) : Prop := insV x q = o ++ (if p then q.drop i else insV x (q.drop i)) ∧ o.length ≤ i + 1
theorem InsI.past {x : Uv} {q o : List Uv} {i : Nat} (h : InsI x q i true o) (hi : i < q.length) : InsI x q (i + 1) true (o ++ [uvD q i]) := by
  refine ⟨?_, by rw [List.length_append]; have := h.2; simp; omega⟩
  rw [h.1, uvD_drop q i hi]
  simp
theorem InsI.put {x : Uv} {q o : List Uv} {i : Nat} (h : InsI x q i false o) (ho : o.length ≤ i) (hi : i < q.length) (hu : Dg.uOrd x.u (uvD q i).u < 0) : InsI x q (i + 1) true (o ++ [x] ++ [uvD q i]) := by
  refine ⟨?_, by simp; omega⟩
  rw [h.1, uvD_drop q i hi]
  simp [insV, hu]
theorem InsI.on {x : Uv} {q o : List Uv} {i : Nat} (h : InsI x q i false o) (hi : i < q.length) (hu : ¬ Dg.uOrd x.u (uvD q i).u < 0) : InsI x q (i + 1) false (o ++ [uvD q i]) := by
  refine ⟨?_, by rw [List.length_append]; have := h.2; simp; omega⟩
  rw [h.1, uvD_drop q i hi]
  simp [insV, hu]
theorem InsI.fin {x : Uv} {q o : List Uv} {i : Nat} {p : Bool} (h : InsI x q i p o) (hi : ¬ i < q.length) : insV x q = if p then o else o ++ [x] := by
  rw [h.1, List.drop_of_length_le (by omega)]
  cases p <;> simp [insV]
def insT (X b f n c i o : Nat) (ua un va vn r : Int) (tQ : Nat) (vQ : Value) (_ : World) : Prop :=
  match tQ with
  | 14 => vQ = .bool false
  | 15 => vQ = .bool true
  | 16 => vQ = .bool true
  | 17 => vQ = .pointer (some ⟨X, 0, none⟩)
  | 18 => vQ = .agg #[.int .i64 ua, .int .i64 un]
  | 19 => vQ = .slice (some ⟨b, f, none⟩) n c
  | 20 => vQ = .int .i64 i
  | 21 => vQ = .pointer (some ⟨b, o, none⟩)
  | 22 => vQ = .pointer (some ⟨b, o, none⟩)
  | 23 => vQ = .agg #[.int .i64 va, .int .i64 vn]
  | 24 => vQ = .int .i64 r
  | 25 => vQ = .bool (decide (r < 0))
  | 26 => vQ = .bool (decide (r < 0))
  | _ => True
theorem insT_mono (X b f n c i o : Nat) (ua un va vn r : Int) (tQ : Nat) (vQ : Value) (W W' : World) (_ : Below W.heap.size W W') (h : insT X b f n c i o ua un va vn r tQ vQ W) : insT X b f n c i o ua un va vn r tQ vQ W' := by
  revert h
  unfold insT
  split <;> (intro h; first | exact h)

set_option maxRecDepth 100000 in
set_option maxHeartbeats 4000000 in
theorem inOrder_any (q : List Uv) (vq : Value) (x : Uv) (w : World) (hV : UpsV w vq q) (hq : q.length ≤ 1000) (hok : ∀ x, x ∈ q → UvOk w x) (hx : UvOk w x) :
    Calls Tryz.prog 50 #[vq, uvVal x] w fun e w' => ∃ v', e = .returned v' ∧ URow w' w.heap.size v' (insV x q) ∧ Below w.heap.size w w' := by
  obtain ⟨i0, hi, hz0, hz1, hz2⟩ := info_parts up_info
  have HOK : Hid (∀ x, x ∈ q → UvOk w x) := hok
  obtain ⟨ao, cap, rfl, _, hA⟩ := hV
  have HA : Hid (UpsAt w ao q) := hA
  obtain ⟨a1, n1, d1, a2, n2, d2, a3, n3, d3, e1, e2, e3⟩ := hx.forms
  have HX : Hid (UvOk w x) := hx
  clear hx hok hA
  obtain ⟨⟨⟨ua, un⟩, ps, says, ts⟩, vp, vs, vt⟩ := x
  dsimp only at *
  subst e1 e2 e3
  have HB1 : Hid (Below w.heap.size w (w.alloc (.cells #[.int .i64 ua, .int .i64 un, .slice a1 n1 d1, .slice a2 n2 d2, .slice a3 n3 d3] 30))) := (Below.refl _ _).alloc (Nat.le_refl _) _
  have HH1 : Hid ((w.alloc (.cells #[.int .i64 ua, .int .i64 un, .slice a1 n1 d1, .slice a2 n2 d2, .slice a3 n3 d3] 30)).heap[w.heap.size]? = some (.cells #[.int .i64 ua, .int .i64 un, .slice a1 n1 d1, .slice a2 n2 d2, .slice a3 n3 d3] 30)) := rl_new w _
  go_enter Tryz.func50, Tryz.ntmps50
  go_upto_region 1 with fail
  generalize w.alloc (.cells #[.int .i64 ua, .int .i64 un, .slice a1 n1 d1, .slice a2 n2 d2, .slice a3 n3 d3] 30) = w1 at *
  have HBX : Hid (∀ z, Below w1.heap.size w1 z → z.cell? ⟨w.heap.size, 0, none⟩ = some (.int .i64 ua) ∧ z.cell? ⟨w.heap.size, 1, none⟩ = some (.int .i64 un) ∧ z.cell? ⟨w.heap.size, 2, none⟩ = some (.slice a1 n1 d1) ∧ z.cell? ⟨w.heap.size, 3, none⟩ = some (.slice a2 n2 d2) ∧ z.cell? ⟨w.heap.size, 4, none⟩ = some (.slice a3 n3 d3)) := fun z hz => by
    have hh1 := (hz.block _ (Array.getElem?_eq_some_iff.1 HH1.out).1).trans HH1.out
    exact ⟨by rw [Lib.cell_of_heap hh1]; rfl, by rw [Lib.cell_of_heap hh1]; rfl, by rw [Lib.cell_of_heap hh1]; rfl, by rw [Lib.cell_of_heap hh1]; rfl, by rw [Lib.cell_of_heap hh1]; rfl⟩
  have HT : Hid (∀ z, Below w1.heap.size w1 z → Below w.heap.size w z) := fun z hz => HB1.out.trans (hz.mono HB1.out.size)
  have hsz1 : w.heap.size ≤ w1.heap.size := HB1.out.size
  clear HH1
  go_wp2_with fail
  go_loopw [5, 6, 7] (fun ov pv iv wr => ∃ (i : Nat) (p : Bool) (o : List Uv), i ≤ q.length ∧ o.length ≤ i + 1 ∧ (p = false → o.length ≤ i) ∧ iv = .int .i64 i ∧ pv = .bool p ∧ Hid (InsI ⟨⟨⟨ua, un⟩, ps, says, ts⟩, .slice a1 n1 d1, .slice a2 n2 d2, .slice a3 n3 d3⟩ q i p o) ∧ URow wr w1.heap.size ov o ∧ Hid (Below w1.heap.size w1 wr)) (fun _ _ iv _ => q.length - (intOf iv).toNat)
  case atStart => exact ⟨0, false, [], Nat.zero_le _, by simp, (fun _ => by simp), rfl, rfl, ⟨rfl, by simp⟩, World.ownsRow_nil _ _ _ _, Below.refl _ _⟩
  case round =>
    obtain ⟨i, p, o, hi', hol, hop, rfl, rfl, HI, hrow, HG⟩ := hrel
    obtain ⟨av, cv, rfl⟩ := own_slice hrow
    have R0 : wr.ownsRow w1.heap.size 30 5 (.slice av o.length cv) o.length (o.map uvCells).flatten := hrow
    clear hrow
    by_cases hlt : i < q.length
    · have g1 : decide (i < q.length) = true := decide_eq_true hlt
      obtain ⟨b, off, rfl, p0, p1, p2, p3, p4⟩ := ups_at (HA.out.kc (Kc.below (HB1.out.trans ((Below.refl _ _).mono HB1.out.size)))) i hlt
      have hy := HOK.out _ (uvD_mem q i hlt)
      have HPA : Hid (p = true → InsI ⟨⟨⟨ua, un⟩, ps, says, ts⟩, .slice a1 n1 d1, .slice a2 n2 d2, .slice a3 n3 d3⟩ q (i + 1) true (o ++ [uvD q i])) := fun e => by subst e; exact HI.out.past hlt
      have HPU : Hid (p = false → Dg.uOrd ⟨⟨ua, un⟩, ps, says, ts⟩ (uvD q i).u < 0 → InsI ⟨⟨⟨ua, un⟩, ps, says, ts⟩, .slice a1 n1 d1, .slice a2 n2 d2, .slice a3 n3 d3⟩ q (i + 1) true (o ++ [⟨⟨⟨ua, un⟩, ps, says, ts⟩, .slice a1 n1 d1, .slice a2 n2 d2, .slice a3 n3 d3⟩] ++ [uvD q i])) := fun e h => by subst e; exact HI.out.put (hop rfl) hlt h
      have HPO : Hid (p = false → ¬ Dg.uOrd ⟨⟨ua, un⟩, ps, says, ts⟩ (uvD q i).u < 0 → InsI ⟨⟨⟨ua, un⟩, ps, says, ts⟩, .slice a1 n1 d1, .slice a2 n2 d2, .slice a3 n3 d3⟩ q (i + 1) false (o ++ [uvD q i])) := fun e h => by subst e; exact HI.out.on hlt h
      obtain ⟨b1, m1, f1, b2, m2, f2, b3, m3, f3, e1, e2, e3⟩ := hy.forms
      have HY : Hid (UvOk w (uvD q i)) := hy
      clear HI hy
      generalize uvD q i = y at *
      obtain ⟨⟨⟨va, vn⟩, ps2, says2, ts2⟩, vp, vs, vt⟩ := y
      dsimp only at *
      subst e1 e2 e3
      have HYC : Hid (∀ z, Below w1.heap.size w1 z → z.cell? ⟨b, off + i * 5, none⟩ = some (.int .i64 va) ∧ z.cell? ⟨b, off + i * 5 + 1, none⟩ = some (.int .i64 vn) ∧ z.cell? ⟨b, off + i * 5 + 2, none⟩ = some (.slice b1 m1 f1) ∧ z.cell? ⟨b, off + i * 5 + 3, none⟩ = some (.slice b2 m2 f2) ∧ z.cell? ⟨b, off + i * 5 + 4, none⟩ = some (.slice b3 m3 f3)) := fun z hz => ⟨cell_below hz p0, cell_below hz p1, cell_below hz p2, cell_below hz p3, cell_below hz p4⟩
      clear p0 p1 p2 p3 p4
      cases p
      · have HU : Hid (∀ z, Below wr.heap.size wr z → z.cell? ⟨w.heap.size, 0, none⟩ = some (.int .i64 ua) ∧ z.cell? ⟨w.heap.size, 1, none⟩ = some (.int .i64 un) ∧ z.cell? ⟨b, off + i * 5, none⟩ = some (.int .i64 va) ∧ z.cell? ⟨b, off + i * 5 + 1, none⟩ = some (.int .i64 vn)) := fun z hz => by
          have h1 := HG.out.trans (hz.mono HG.out.size)
          exact ⟨(HBX.out z h1).1, (HBX.out z h1).2.1, (HYC.out z h1).1, (HYC.out z h1).2.1⟩
        obtain ⟨r9, HR9⟩ : ∃ r, Hid (Wr.idOrd ⟨ua, un⟩ ⟨va, vn⟩ = r) := ⟨_, rfl⟩
        have HPU2 : Hid (r9 < 0 → InsI ⟨⟨⟨ua, un⟩, ps, says, ts⟩, .slice a1 n1 d1, .slice a2 n2 d2, .slice a3 n3 d3⟩ q (i + 1) true (o ++ [⟨⟨⟨ua, un⟩, ps, says, ts⟩, .slice a1 n1 d1, .slice a2 n2 d2, .slice a3 n3 d3⟩] ++ [⟨⟨⟨va, vn⟩, ps2, says2, ts2⟩, .slice b1 m1 f1, .slice b2 m2 f2, .slice b3 m3 f3⟩])) := fun h => HPU.out rfl (by show Wr.idOrd _ _ < 0; rw [HR9.out]; exact h)
        have HPO2 : Hid (¬ r9 < 0 → InsI ⟨⟨⟨ua, un⟩, ps, says, ts⟩, .slice a1 n1 d1, .slice a2 n2 d2, .slice a3 n3 d3⟩ q (i + 1) false (o ++ [⟨⟨⟨va, vn⟩, ps2, says2, ts2⟩, .slice b1 m1 f1, .slice b2 m2 f2, .slice b3 m3 f3⟩])) := fun h => HPO.out rfl (by show ¬ Wr.idOrd _ _ < 0; rw [HR9.out]; exact h)
        have hop2 := hop rfl
        clear HPA HPU HPO hop
        go_upto_region 6 with fail
        refine wp_region_tabA (insT w.heap.size b off q.length cap i (off + i * 5) ua un va vn r9) (by kernel_rfl) (by kernel_rfl) (insT_mono _ _ _ _ _ _ _ _ _ _ _ _) ?hop6 ?hend6
        case hop6 =>
          refine AllOps.cons (fun a y h => ?_) ?_
          · have e6 : a.eval (.tmp 6) = (.bool false : Value) := h.old 6 (by kernel_rfl)
            refine opOk_val (v := .bool false) (w' := y) (wanted_none rfl) ?_ (fun t ht => by cases ht; exact rfl) (Below.refl _ _)
            have ec : ∀ v, a.eval (.const v) = v := fun _ => rfl
            generalize a.eval = ev at *
            clear h
            go_simp
          refine AllOps.cons (fun a y h => ?_) ?_
          · have e14 : a.eval (.tmp 14) = (.bool false : Value) := h.of 14 (by kernel_rfl)
            refine opOk_val (v := .bool true) (w' := y) (wanted_none rfl) ?_ (fun t ht => by cases ht; exact rfl) (Below.refl _ _)
            have ec : ∀ v, a.eval (.const v) = v := fun _ => rfl
            generalize a.eval = ev at *
            clear h
            go_simp
          refine AllOps.cons (fun a y h => ?_) ?_
          · have e15 : a.eval (.tmp 15) = (.bool true : Value) := h.of 15 (by kernel_rfl)
            refine opOk_val (v := .bool true) (w' := y) (wanted_none rfl) ?_ (fun t ht => by cases ht; exact rfl) (Below.refl _ _)
            have ec : ∀ v, a.eval (.const v) = v := fun _ => rfl
            generalize a.eval = ev at *
            clear h
            go_simp
          refine AllOps.cons (fun a y h => ?_) ?_
          · have e3 : a.eval (.tmp 3) = (.pointer (some ⟨w.heap.size, 0, none⟩) : Value) := h.old 3 (by kernel_rfl)
            refine opOk_val (v := .pointer (some ⟨w.heap.size, 0, none⟩)) (w' := y) (wanted_some (j := 2) (t := 16) (b := true) rfl rfl rfl (h.of 16 (by kernel_rfl))) ?_ (fun t ht => by cases ht; exact rfl) (Below.refl _ _)
            have ec : ∀ v, a.eval (.const v) = v := fun _ => rfl
            generalize a.eval = ev at *
            clear h
            go_simp
          refine AllOps.cons (fun a y h => ?_) ?_
          · have e17 : a.eval (.tmp 17) = (.pointer (some ⟨w.heap.size, 0, none⟩) : Value) := h.of 17 (by kernel_rfl)
            obtain ⟨u0, u1, _⟩ := HU.out y h.below
            refine opOk_val (v := .agg #[.int .i64 ua, .int .i64 un]) (w' := y) (wanted_some (j := 2) (t := 16) (b := true) rfl rfl rfl (h.of 16 (by kernel_rfl))) ?_ (fun t ht => by cases ht; exact rfl) (Below.refl _ _)
            have ec : ∀ v, a.eval (.const v) = v := fun _ => rfl
            generalize a.eval = ev at *
            clear h
            go_simp
          refine AllOps.cons (fun a y h => ?_) ?_
          · have e0 : a.eval (.tmp 0) = (.slice (some ⟨b, off, none⟩) q.length cap : Value) := h.old 0 (by kernel_rfl)
            refine opOk_val (v := .slice (some ⟨b, off, none⟩) q.length cap) (w' := y) (wanted_some (j := 2) (t := 16) (b := true) rfl rfl rfl (h.of 16 (by kernel_rfl))) ?_ (fun t ht => by cases ht; exact rfl) (Below.refl _ _)
            have ec : ∀ v, a.eval (.const v) = v := fun _ => rfl
            generalize a.eval = ev at *
            clear h
            go_simp
          refine AllOps.cons (fun a y h => ?_) ?_
          · have e7 : a.eval (.tmp 7) = (.int .i64 i : Value) := h.old 7 (by kernel_rfl)
            refine opOk_val (v := .int .i64 i) (w' := y) (wanted_some (j := 2) (t := 16) (b := true) rfl rfl rfl (h.of 16 (by kernel_rfl))) ?_ (fun t ht => by cases ht; exact rfl) (Below.refl _ _)
            have ec : ∀ v, a.eval (.const v) = v := fun _ => rfl
            generalize a.eval = ev at *
            clear h
            go_simp
          refine AllOps.cons (fun a y h => ?_) ?_
          · have e19 : a.eval (.tmp 19) = (.slice (some ⟨b, off, none⟩) q.length cap : Value) := h.of 19 (by kernel_rfl)
            have e20 : a.eval (.tmp 20) = (.int .i64 i : Value) := h.of 20 (by kernel_rfl)
            refine opOk_val (v := .pointer (some ⟨b, off + i * 5, none⟩)) (w' := y) (wanted_some (j := 2) (t := 16) (b := true) rfl rfl rfl (h.of 16 (by kernel_rfl))) ?_ (fun t ht => by cases ht; exact rfl) (Below.refl _ _)
            have ec : ∀ v, a.eval (.const v) = v := fun _ => rfl
            generalize a.eval = ev at *
            clear h
            go_simp
          refine AllOps.cons (fun a y h => ?_) ?_
          · have e21 : a.eval (.tmp 21) = (.pointer (some ⟨b, off + i * 5, none⟩) : Value) := h.of 21 (by kernel_rfl)
            refine opOk_val (v := .pointer (some ⟨b, off + i * 5, none⟩)) (w' := y) (wanted_some (j := 2) (t := 16) (b := true) rfl rfl rfl (h.of 16 (by kernel_rfl))) ?_ (fun t ht => by cases ht; exact rfl) (Below.refl _ _)
            have ec : ∀ v, a.eval (.const v) = v := fun _ => rfl
            generalize a.eval = ev at *
            clear h
            go_simp
          refine AllOps.cons (fun a y h => ?_) ?_
          · have e22 : a.eval (.tmp 22) = (.pointer (some ⟨b, off + i * 5, none⟩) : Value) := h.of 22 (by kernel_rfl)
            obtain ⟨_, _, u0, u1⟩ := HU.out y h.below
            refine opOk_val (v := .agg #[.int .i64 va, .int .i64 vn]) (w' := y) (wanted_some (j := 2) (t := 16) (b := true) rfl rfl rfl (h.of 16 (by kernel_rfl))) ?_ (fun t ht => by cases ht; exact rfl) (Below.refl _ _)
            have ec : ∀ v, a.eval (.const v) = v := fun _ => rfl
            generalize a.eval = ev at *
            clear h
            go_simp
          refine AllOps.cons (fun a y h => ?_) ?_
          · have e18 : a.eval (.tmp 18) = (.agg #[.int .i64 ua, .int .i64 un] : Value) := h.of 18 (by kernel_rfl)
            have e23 : a.eval (.tmp 23) = (.agg #[.int .i64 va, .int .i64 vn] : Value) := h.of 23 (by kernel_rfl)
            refine opOk_call (f := 40) (args := #[.agg #[.int .i64 ua, .int .i64 un], .agg #[.int .i64 va, .int .i64 vn]]) (wanted_some (j := 2) (t := 16) (b := true) rfl rfl rfl (h.of 16 (by kernel_rfl))) ?_ ?_
            · have ec : ∀ v, a.eval (.const v) = v := fun _ => rfl
              have ef : ∀ f, a.eval (.func f) = .func (.func f) #[] #[] := fun _ => rfl
              generalize a.eval = ev at *
              clear h
              go_simp
            · refine (IdOrder_any ⟨ua, un⟩ ⟨va, vn⟩ y).mono ?_
              rintro e w' ⟨rfl, hb⟩
              exact ⟨_, rfl, fun t ht => by cases ht; show Value.int .i64 _ = Value.int .i64 r9; rw [HR9.out], hb.below⟩
          refine AllOps.cons (fun a y h => ?_) ?_
          · have e24 : a.eval (.tmp 24) = (.int .i64 r9 : Value) := h.of 24 (by kernel_rfl)
            refine opOk_val (v := .bool (decide (r9 < 0))) (w' := y) (wanted_some (j := 2) (t := 16) (b := true) rfl rfl rfl (h.of 16 (by kernel_rfl))) ?_ (fun t ht => by cases ht; exact rfl) (Below.refl _ _)
            have ec : ∀ v, a.eval (.const v) = v := fun _ => rfl
            generalize a.eval = ev at *
            clear h
            go_simp
          refine AllOps.cons (fun a y h => ?_) ?_
          · have e16 : a.eval (.tmp 16) = (.bool true : Value) := h.of 16 (by kernel_rfl)
            have e25 : a.eval (.tmp 25) = (.bool (decide (r9 < 0)) : Value) := h.of 25 (by kernel_rfl)
            refine opOk_val (v := .bool (decide (r9 < 0))) (w' := y) (wanted_none rfl) ?_ (fun t ht => by cases ht; exact rfl) (Below.refl _ _)
            have ec : ∀ v, a.eval (.const v) = v := fun _ => rfl
            generalize a.eval = ev at *
            clear h
            go_simp
          exact AllOps.nil
        rintro ⟨tm, df⟩ wE hbE hdE hszE hstE hTE
        have k26 : tm.getD 26 undef = .bool (decide (r9 < 0)) := ends_at (T := insT w.heap.size b off q.length cap i (off + i * 5) ua un va vn r9) (w := wE) (a := ⟨tm, df⟩) (t := 26) hTE (by kernel_rfl)
        obtain rfl : df = [] := hdE
        clear hTE
        have hF8 := tmps_fold [14, 15, 16, 17, 18, 19, 20, 21, 22, 23, 24, 25, 26] tm _ hszE hstE
        clear hszE hstE
        simp only [List.foldl_cons, List.foldl_nil, k26] at hF8
        clear k26
        generalize tm.getD 14 undef = x14 at hF8
        generalize tm.getD 15 undef = x15 at hF8
        generalize tm.getD 16 undef = x16 at hF8
        generalize tm.getD 17 undef = x17 at hF8
        generalize tm.getD 18 undef = x18 at hF8
        generalize tm.getD 19 undef = x19 at hF8
        generalize tm.getD 20 undef = x20 at hF8
        generalize tm.getD 21 undef = x21 at hF8
        generalize tm.getD 22 undef = x22 at hF8
        generalize tm.getD 23 undef = x23 at hF8
        generalize tm.getD 24 undef = x24 at hF8
        generalize tm.getD 25 undef = x25 at hF8
        simp only [List.setIfInBounds_toArray, List.set_cons_zero, List.set_cons_succ] at hF8
        subst hF8
        have HGE : Hid (Below w1.heap.size w1 wE) := HG.out.trans (hbE.mono HG.out.size)
        have RE := ownsRow_below R0 hbE
        clear hbE HU HG R0 HR9
        obtain ⟨s0, s1, s2, s3, s4⟩ := HBX.out wE HGE.out
        by_cases hr : r9 < 0
        · have g5 : decide (r9 < 0) = true := decide_eq_true hr
          have HE : Hid _ := HPU2.out hr
          clear HPU2 HPO2
          go_upto_region 8 with (at_builtin; refine wp_append_ups (W := w) rfl _ _ rfl w1.heap.size (HGE.out.alloc HGE.out.size _).size _ o rfl (RE.alloc _) (some ⟨wE.heap.size, 0, none⟩) 1 [(⟨⟨⟨ua, un⟩, ps, says, ts⟩, .slice a1 n1 d1, .slice a2 n2 d2, .slice a3 n3 d3⟩ : Uv)] rfl (fun h => by cases h) (ups_one _ _) (one_ok HX.out) (by rw [List.length_singleton]; (try rw [List.length_append, List.length_singleton]); omega) ?_; intro vs8 z8 hown8 hgrow8)
          have hB8 : Below w1.heap.size w1 z8 := (HGE.out.alloc HGE.out.size _).grown hgrow8 (HGE.out.alloc HGE.out.size _).size (fun j e => (RE.lt j e).1)
          obtain ⟨ao8, cap8, rfl⟩ := own_slice hown8
          have R8 : z8.ownsRow w1.heap.size 30 5 (.slice ao8 (o ++ [(⟨⟨⟨ua, un⟩, ps, says, ts⟩, .slice a1 n1 d1, .slice a2 n2 d2, .slice a3 n3 d3⟩ : Uv)]).length cap8) (o ++ [(⟨⟨⟨ua, un⟩, ps, says, ts⟩, .slice a1 n1 d1, .slice a2 n2 d2, .slice a3 n3 d3⟩ : Uv)]).length ((o ++ [(⟨⟨⟨ua, un⟩, ps, says, ts⟩, .slice a1 n1 d1, .slice a2 n2 d2, .slice a3 n3 d3⟩ : Uv)]).map uvCells).flatten := hown8
          have B8 : Hid (Below w1.heap.size w1 z8) := hB8
          clear hB8 hown8 hgrow8
          obtain ⟨t0, t1, t2, t3, t4⟩ := HYC.out z8 B8.out
          clear s0 s1 s2 s3 s4 RE HGE
          go_wp2_with (at_builtin; refine wp_append_ups (W := w) rfl _ _ rfl w1.heap.size (B8.out.alloc B8.out.size _).size _ (o ++ [(⟨⟨⟨ua, un⟩, ps, says, ts⟩, .slice a1 n1 d1, .slice a2 n2 d2, .slice a3 n3 d3⟩ : Uv)]) rfl (R8.alloc _) (some ⟨z8.heap.size, 0, none⟩) 1 [(⟨⟨⟨va, vn⟩, ps2, says2, ts2⟩, .slice b1 m1 f1, .slice b2 m2 f2, .slice b3 m3 f3⟩ : Uv)] rfl (fun h => by cases h) (ups_one _ _) (one_ok HY.out) (by rw [List.length_singleton]; (try rw [List.length_append, List.length_singleton]); omega) ?_; intro vs9 z9 hown9 hgrow9)
          have hB9 : Below w1.heap.size w1 z9 := (B8.out.alloc B8.out.size _).grown hgrow9 (B8.out.alloc B8.out.size _).size (fun j e => (R8.lt j e).1)
          obtain ⟨ao9, cap9, rfl⟩ := own_slice hown9
          have R9 : z9.ownsRow w1.heap.size 30 5 (.slice ao9 ((o ++ [(⟨⟨⟨ua, un⟩, ps, says, ts⟩, .slice a1 n1 d1, .slice a2 n2 d2, .slice a3 n3 d3⟩ : Uv)]) ++ [(⟨⟨⟨va, vn⟩, ps2, says2, ts2⟩, .slice b1 m1 f1, .slice b2 m2 f2, .slice b3 m3 f3⟩ : Uv)]).length cap9) ((o ++ [(⟨⟨⟨ua, un⟩, ps, says, ts⟩, .slice a1 n1 d1, .slice a2 n2 d2, .slice a3 n3 d3⟩ : Uv)]) ++ [(⟨⟨⟨va, vn⟩, ps2, says2, ts2⟩, .slice b1 m1 f1, .slice b2 m2 f2, .slice b3 m3 f3⟩ : Uv)]).length (((o ++ [(⟨⟨⟨ua, un⟩, ps, says, ts⟩, .slice a1 n1 d1, .slice a2 n2 d2, .slice a3 n3 d3⟩ : Uv)]) ++ [(⟨⟨⟨va, vn⟩, ps2, says2, ts2⟩, .slice b1 m1 f1, .slice b2 m2 f2, .slice b3 m3 f3⟩ : Uv)]).map uvCells).flatten := hown9
          have B9 : Hid (Below w1.heap.size w1 z9) := hB9
          clear hB9 hown9 hgrow9
          have RF : Hid (URow z9 w1.heap.size (.slice ao9 (o ++ [(⟨⟨⟨ua, un⟩, ps, says, ts⟩, .slice a1 n1 d1, .slice a2 n2 d2, .slice a3 n3 d3⟩ : Uv)] ++ [(⟨⟨⟨va, vn⟩, ps2, says2, ts2⟩, .slice b1 m1 f1, .slice b2 m2 f2, .slice b3 m3 f3⟩ : Uv)]).length cap9) (o ++ [(⟨⟨⟨ua, un⟩, ps, says, ts⟩, .slice a1 n1 d1, .slice a2 n2 d2, .slice a3 n3 d3⟩ : Uv)] ++ [(⟨⟨⟨va, vn⟩, ps2, says2, ts2⟩, .slice b1 m1 f1, .slice b2 m2 f2, .slice b3 m3 f3⟩ : Uv)])) := R9
          clear R9 R8 B8 t0 t1 t2 t3 t4
          go_wp2_with fail
          go_roundw
          case rel => exact ⟨i + 1, true, _, hlt, by simp; omega, (fun e => by cases e), by go_num, rfl, HE.out, RF.out, B9.out⟩
          case measure => simp [intOf]; omega
        · have g5 : decide (r9 < 0) = false := decide_eq_false hr
          have HE : Hid _ := HPO2.out hr
          clear HPU2 HPO2 s0 s1 s2 s3 s4
          obtain ⟨t0, t1, t2, t3, t4⟩ := HYC.out wE HGE.out
          go_wp2_with (at_builtin; refine wp_append_ups (W := w) rfl _ _ rfl w1.heap.size (HGE.out.alloc HGE.out.size _).size _ o rfl (RE.alloc _) (some ⟨wE.heap.size, 0, none⟩) 1 [(⟨⟨⟨va, vn⟩, ps2, says2, ts2⟩, .slice b1 m1 f1, .slice b2 m2 f2, .slice b3 m3 f3⟩ : Uv)] rfl (fun h => by cases h) (ups_one _ _) (one_ok HY.out) (by rw [List.length_singleton]; (try rw [List.length_append, List.length_singleton]); omega) ?_; intro vs9 z9 hown9 hgrow9)
          have hB9 : Below w1.heap.size w1 z9 := (HGE.out.alloc HGE.out.size _).grown hgrow9 (HGE.out.alloc HGE.out.size _).size (fun j e => (RE.lt j e).1)
          obtain ⟨ao9, cap9, rfl⟩ := own_slice hown9
          have R9 : z9.ownsRow w1.heap.size 30 5 (.slice ao9 (o ++ [(⟨⟨⟨va, vn⟩, ps2, says2, ts2⟩, .slice b1 m1 f1, .slice b2 m2 f2, .slice b3 m3 f3⟩ : Uv)]).length cap9) (o ++ [(⟨⟨⟨va, vn⟩, ps2, says2, ts2⟩, .slice b1 m1 f1, .slice b2 m2 f2, .slice b3 m3 f3⟩ : Uv)]).length ((o ++ [(⟨⟨⟨va, vn⟩, ps2, says2, ts2⟩, .slice b1 m1 f1, .slice b2 m2 f2, .slice b3 m3 f3⟩ : Uv)]).map uvCells).flatten := hown9
          have B9 : Hid (Below w1.heap.size w1 z9) := hB9
          clear hB9 hown9 hgrow9
          have RF : Hid (URow z9 w1.heap.size (.slice ao9 (o ++ [(⟨⟨⟨va, vn⟩, ps2, says2, ts2⟩, .slice b1 m1 f1, .slice b2 m2 f2, .slice b3 m3 f3⟩ : Uv)]).length cap9) (o ++ [(⟨⟨⟨va, vn⟩, ps2, says2, ts2⟩, .slice b1 m1 f1, .slice b2 m2 f2, .slice b3 m3 f3⟩ : Uv)])) := R9
          clear R9 RE HGE t0 t1 t2 t3 t4
          go_wp2_with fail
          go_roundw
          case rel => exact ⟨i + 1, false, _, hlt, by simp; omega, (fun _ => by simp; omega), by go_num, rfl, HE.out, RF.out, B9.out⟩
          case measure => simp [intOf]; omega
      · have HE : Hid _ := HPA.out rfl
        clear HPA HPU HPO hop
        go_upto_region 6 with fail
        go_quiet (fail)
        have HGE : Hid (Below w1.heap.size w1 (wr.drewN nq)) := HG.out.trans ((blw_drewN wr _).mono HG.out.size)
        have RE := ownsRow_below R0 (blw_drewN wr nq)
        clear HG R0
        generalize wr.drewN nq = wE at *
        obtain ⟨t0, t1, t2, t3, t4⟩ := HYC.out wE HGE.out
        go_wp2_with (at_builtin; refine wp_append_ups (W := w) rfl _ _ rfl w1.heap.size (HGE.out.alloc HGE.out.size _).size _ o rfl (RE.alloc _) (some ⟨wE.heap.size, 0, none⟩) 1 [(⟨⟨⟨va, vn⟩, ps2, says2, ts2⟩, .slice b1 m1 f1, .slice b2 m2 f2, .slice b3 m3 f3⟩ : Uv)] rfl (fun h => by cases h) (ups_one _ _) (one_ok HY.out) (by rw [List.length_singleton]; (try rw [List.length_append, List.length_singleton]); omega) ?_; intro vs9 z9 hown9 hgrow9)
        have hB9 : Below w1.heap.size w1 z9 := (HGE.out.alloc HGE.out.size _).grown hgrow9 (HGE.out.alloc HGE.out.size _).size (fun j e => (RE.lt j e).1)
        obtain ⟨ao9, cap9, rfl⟩ := own_slice hown9
        have R9 : z9.ownsRow w1.heap.size 30 5 (.slice ao9 (o ++ [(⟨⟨⟨va, vn⟩, ps2, says2, ts2⟩, .slice b1 m1 f1, .slice b2 m2 f2, .slice b3 m3 f3⟩ : Uv)]).length cap9) (o ++ [(⟨⟨⟨va, vn⟩, ps2, says2, ts2⟩, .slice b1 m1 f1, .slice b2 m2 f2, .slice b3 m3 f3⟩ : Uv)]).length ((o ++ [(⟨⟨⟨va, vn⟩, ps2, says2, ts2⟩, .slice b1 m1 f1, .slice b2 m2 f2, .slice b3 m3 f3⟩ : Uv)]).map uvCells).flatten := hown9
        have B9 : Hid (Below w1.heap.size w1 z9) := hB9
        clear hB9 hown9 hgrow9
        have RF : Hid (URow z9 w1.heap.size (.slice ao9 (o ++ [(⟨⟨⟨va, vn⟩, ps2, says2, ts2⟩, .slice b1 m1 f1, .slice b2 m2 f2, .slice b3 m3 f3⟩ : Uv)]).length cap9) (o ++ [(⟨⟨⟨va, vn⟩, ps2, says2, ts2⟩, .slice b1 m1 f1, .slice b2 m2 f2, .slice b3 m3 f3⟩ : Uv)])) := R9
        clear R9 RE HGE t0 t1 t2 t3 t4
        go_wp2_with fail
        go_roundw
        case rel => exact ⟨i + 1, true, _, hlt, by simp; omega, (fun e => by cases e), by go_num, rfl, HE.out, RF.out, B9.out⟩
        case measure => simp [intOf]; omega
    · have g1 : decide (i < q.length) = false := decide_eq_false hlt
      have HF : Hid (insV ⟨⟨⟨ua, un⟩, ps, says, ts⟩, .slice a1 n1 d1, .slice a2 n2 d2, .slice a3 n3 d3⟩ q = if p then o else o ++ [⟨⟨⟨ua, un⟩, ps, says, ts⟩, .slice a1 n1 d1, .slice a2 n2 d2, .slice a3 n3 d3⟩]) := HI.out.fin hlt
      clear HI
      cases p
      · have HF2 : Hid (insV ⟨⟨⟨ua, un⟩, ps, says, ts⟩, .slice a1 n1 d1, .slice a2 n2 d2, .slice a3 n3 d3⟩ q = o ++ [⟨⟨⟨ua, un⟩, ps, says, ts⟩, .slice a1 n1 d1, .slice a2 n2 d2, .slice a3 n3 d3⟩]) := HF.out
        obtain ⟨s0, s1, s2, s3, s4⟩ := HBX.out wr HG.out
        go_wp2_with (at_builtin; refine wp_append_ups (W := w) rfl _ _ rfl w1.heap.size (HG.out.alloc HG.out.size _).size _ o rfl (R0.alloc _) (some ⟨wr.heap.size, 0, none⟩) 1 [(⟨⟨⟨ua, un⟩, ps, says, ts⟩, .slice a1 n1 d1, .slice a2 n2 d2, .slice a3 n3 d3⟩ : Uv)] rfl (fun h => by cases h) (ups_one _ _) (one_ok HX.out) (by rw [List.length_singleton]; (try rw [List.length_append, List.length_singleton]); omega) ?_; intro vs9 z9 hown9 hgrow9)
        have hB9 : Below w1.heap.size w1 z9 := (HG.out.alloc HG.out.size _).grown hgrow9 (HG.out.alloc HG.out.size _).size (fun j e => (R0.lt j e).1)
        obtain ⟨ao9, cap9, rfl⟩ := own_slice hown9
        have R9 : z9.ownsRow w1.heap.size 30 5 (.slice ao9 (o ++ [(⟨⟨⟨ua, un⟩, ps, says, ts⟩, .slice a1 n1 d1, .slice a2 n2 d2, .slice a3 n3 d3⟩ : Uv)]).length cap9) (o ++ [(⟨⟨⟨ua, un⟩, ps, says, ts⟩, .slice a1 n1 d1, .slice a2 n2 d2, .slice a3 n3 d3⟩ : Uv)]).length ((o ++ [(⟨⟨⟨ua, un⟩, ps, says, ts⟩, .slice a1 n1 d1, .slice a2 n2 d2, .slice a3 n3 d3⟩ : Uv)]).map uvCells).flatten := hown9
        have B9 : Hid (Below w1.heap.size w1 z9) := hB9
        clear hB9 hown9 hgrow9
        have RF : Hid (URow z9 w.heap.size (.slice ao9 (o ++ [(⟨⟨⟨ua, un⟩, ps, says, ts⟩, .slice a1 n1 d1, .slice a2 n2 d2, .slice a3 n3 d3⟩ : Uv)]).length cap9) (insV ⟨⟨⟨ua, un⟩, ps, says, ts⟩, .slice a1 n1 d1, .slice a2 n2 d2, .slice a3 n3 d3⟩ q)) := by
          show URow _ _ _ _
          rw [HF2.out]
          exact rl_own_le R9 hsz1
        clear R9 R0 HG s0 s1 s2 s3 s4
        go_wp2_with fail
        go_ret
        exact ⟨_, rfl, RF.out, HT.out _ B9.out⟩
      · have HF2 : Hid (insV ⟨⟨⟨ua, un⟩, ps, says, ts⟩, .slice a1 n1 d1, .slice a2 n2 d2, .slice a3 n3 d3⟩ q = o) := HF.out
        have RF : Hid (URow wr w.heap.size (.slice av o.length cv) (insV ⟨⟨⟨ua, un⟩, ps, says, ts⟩, .slice a1 n1 d1, .slice a2 n2 d2, .slice a3 n3 d3⟩ q)) := by
          show URow _ _ _ _
          rw [HF2.out]
          exact rl_own_le R0 hsz1
        clear R0
        go_wp2_with fail
        go_ret
        exact ⟨_, rfl, RF.out, HT.out _ HG.out⟩
end Go.Proofs.YtmfaodapofamfaaGreat

