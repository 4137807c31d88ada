/- Own texts, one behind the other (part 8). -/
import Derived.Test.YtmfaodapofamfaaGreatBundleG
import Derived.Test.YtmfaodapofamfaaGreatRows
/- dagBegun. -/
namespace Go.Proofs.YtmfaodapofamfaaGreat
open Go.RowKit

theorem UpV.below {w w' : World} {u : Wr.Up} {vp vs vt : Value} (h : UpV w u vp vs vt) (hb : Below w.heap.size w w') : UpV w' u vp vs vt := ⟨idsV_below h.1 hb, factsV_below h.2.1 hb, idsV_below h.2.2.1 hb, h.2.2.2.1, h.2.2.2.2⟩
def Up1 (u : Wr.Up) (w : World) (v : Value) : Prop := ∃ a1 n1 c1 a2 n2 c2 a3 n3 c3, v = .agg #[.int .i64 u.id.a, .int .i64 u.id.n, .slice a1 n1 c1, .slice a2 n2 c2, .slice a3 n3 c3] ∧ UpV w u (.slice a1 n1 c1) (.slice a2 n2 c2) (.slice a3 n3 c3)
theorem Up1.below {u : Wr.Up} {w w' : World} {v : Value} (h : Up1 u w v) (hb : Below w.heap.size w w') : Up1 u w' v := by
  obtain ⟨a1, n1, c1, a2, n2, c2, a3, n3, c3, e, h⟩ := h
  exact ⟨a1, n1, c1, a2, n2, c2, a3, n3, c3, e, h.below hb⟩
theorem Up1.kn {u : Wr.Up} {w w' : World} {v : Value} (h : Up1 u w v) (hb : Kn w w') : Up1 u w' v := by
  obtain ⟨a1, n1, c1, a2, n2, c2, a3, n3, c3, e, h⟩ := h
  exact ⟨a1, n1, c1, a2, n2, c2, a3, n3, c3, e, hb.ids h.1, hb.facts h.2.1, hb.ids h.2.2.1, h.2.2.2.1, h.2.2.2.2⟩
theorem up1_of {u : Wr.Up} {w : World} {vp vs vt : Value} (h : UpV w u vp vs vt) : Up1 u w (upVal u vp vs vt) := by
  obtain ⟨a1, c1, rfl, _⟩ := id h.1
  obtain ⟨a2, c2, rfl, _⟩ := id h.2.1
  obtain ⟨a3, c3, rfl, _⟩ := id h.2.2.1
  exact ⟨a1, _, c1, a2, _, c2, a3, _, c3, rfl, h⟩
def Ups2 (w : World) (v : Value) : Prop := ∃ a, v = .slice a 2 2 ∧ ∃ R1 R2, UpsV w (.slice a 2 2) [R1, R2] ∧ UvOk w R1 ∧ UvOk w R2 ∧ R1.u = Wr.firstU ∧ R2.u = Wr.secondU
theorem Ups2.below {w w' : World} {v : Value} (h : Ups2 w v) (hb : Below w.heap.size w w') : Ups2 w' v := by
  obtain ⟨a, e, R1, R2, h1, h2, h3, h4, h5⟩ := h
  exact ⟨a, e, R1, R2, h1.kc (Kc.below hb), h2.below hb, h3.below hb, h4, h5⟩
def Rep2 (w : World) (v1 v2 : Value) : Prop := ∃ R1 R2, UpsV w v1 [R1, R2] ∧ UpsV w v2 [] ∧ UvOk w R1 ∧ UvOk w R2 ∧ R1.u = Wr.firstU ∧ R2.u = Wr.secondU
theorem Rep2.kn {w w' : World} {v1 v2 : Value} (h : Rep2 w v1 v2) (hb : Kn w w') : Rep2 w' v1 v2 := by
  obtain ⟨R1, R2, h1, h2, h3, h4, h5, h6⟩ := h
  exact ⟨R1, R2, h1.kn hb, h2.kn hb, h3.kn hb, h4.kn hb, h5, h6⟩
def Ad2 (w : World) (v : Value) : Prop := ∃ a1 c1 a2 c2, v = .tuple #[.agg #[.slice a1 2 c1, .slice a2 0 c2], .int .i64 0] ∧ Rep2 w (.slice a1 2 c1) (.slice a2 0 c2)
theorem Ad2.kn {w w' : World} {v : Value} (h : Ad2 w v) (hb : Kn w w') : Ad2 w' v := by
  obtain ⟨a1, c1, a2, c2, e, h⟩ := h
  exact ⟨a1, c1, a2, c2, e, h.kn hb⟩
def Re2 (w : World) (v : Value) : Prop := ∃ a1 c1 a2 c2, v = .agg #[.slice a1 2 c1, .slice a2 0 c2] ∧ Rep2 w (.slice a1 2 c1) (.slice a2 0 c2)
theorem Re2.kn {w w' : World} {v : Value} (h : Re2 w v) (hb : Kn w w') : Re2 w' v := by
  obtain ⟨a1, c1, a2, c2, e, h⟩ := h
  exact ⟨a1, c1, a2, c2, e, h.kn hb⟩
def dbD2 (B : Nat) (a : Act) (w : World) : Prop := ∃ F, a.tmps.getD 3 undef = .pointer (some ⟨F, 0, none⟩) ∧ B ≤ F ∧ ∃ b1 d1 b2 d2, w.heap[F]? = some (.cells #[.slice b1 2 d1, .slice b2 0 d2] 24) ∧ Rep2 w (.slice b1 2 d1) (.slice b2 0 d2)
def Ids1 (w : World) (v : Value) : Prop := ∃ a, v = .slice a 1 1 ∧ IdsV w (.slice a 1 1) [⟨1, 1⟩]
theorem Ids1.below {w w' : World} {v : Value} (h : Ids1 w v) (hb : Below w.heap.size w w') : Ids1 w' v := by
  obtain ⟨a, e, h⟩ := h
  exact ⟨a, e, idsV_below h hb⟩
def Int1 (w : World) (v : Value) : Prop := ∃ a, v = .slice a 2 2 ∧ IntsV w (.slice a 2 2) [4, 5]
theorem Int1.below {w w' : World} {v : Value} (h : Int1 w v) (hb : Below w.heap.size w w') : Int1 w' v := by
  obtain ⟨a, e, h⟩ := h
  exact ⟨a, e, intsV_below h hb⟩
def Fc1 (w : World) (v : Value) : Prop := ∃ a, v = .agg #[.int .i64 0, .slice a 2 2] ∧ IntsV w (.slice a 2 2) [4, 5]
theorem Fc1.below {w w' : World} {v : Value} (h : Fc1 w v) (hb : Below w.heap.size w w') : Fc1 w' v := by
  obtain ⟨a, e, h⟩ := h
  exact ⟨a, e, intsV_below h hb⟩
def Fa1 (w : World) (v : Value) : Prop := ∃ a, v = .slice a 1 1 ∧ FactsV w (.slice a 1 1) [⟨0, [4, 5]⟩]
theorem Fa1.below {w w' : World} {v : Value} (h : Fa1 w v) (hb : Below w.heap.size w w') : Fa1 w' v := by
  obtain ⟨a, e, h⟩ := h
  exact ⟨a, e, factsV_below h hb⟩
theorem ups2_new {y : World} {p1 p2 p3 p4 p5 p6 : Option Addr} {n1 n2 n3 n4 n5 n6 q1 q2 q3 q4 q5 q6 : Nat} (hU : UpV y Wr.firstU (.slice p1 n1 q1) (.slice p2 n2 q2) (.slice p3 n3 q3)) (hV : UpV y Wr.secondU (.slice p4 n4 q4) (.slice p5 n5 q5) (.slice p6 n6 q6)) :
    Ups2 (y.alloc (.cells #[.int .i64 0, .int .i64 1, .slice p1 n1 q1, .slice p2 n2 q2, .slice p3 n3 q3, .int .i64 1, .int .i64 1, .slice p4 n4 q4, .slice p5 n5 q5, .slice p6 n6 q6] 30)) (.slice (some ⟨y.heap.size, 0, none⟩) 2 2) := by
  have hb := new_below y (.cells #[.int .i64 0, .int .i64 1, .slice p1 n1 q1, .slice p2 n2 q2, .slice p3 n3 q3, .int .i64 1, .int .i64 1, .slice p4 n4 q4, .slice p5 n5 q5, .slice p6 n6 q6] 30)
  have hh := heap_alloc_new y (.cells #[.int .i64 0, .int .i64 1, .slice p1 n1 q1, .slice p2 n2 q2, .slice p3 n3 q3, .int .i64 1, .int .i64 1, .slice p4 n4 q4, .slice p5 n5 q5, .slice p6 n6 q6] 30)
  refine ⟨_, rfl, ⟨Wr.firstU, _, _, _⟩, ⟨Wr.secondU, _, _, _⟩, ⟨_, _, rfl, ⟨Nat.le_refl _, (fun h => by cases h)⟩, .inr ⟨_, 0, rfl, fun i hi => ?_⟩⟩, (hU.below hb).ok, (hV.below hb).ok, rfl, rfl⟩
  match i, hi with
  | 0, _ => exact ⟨by rw [Lib.cell_of_heap hh]; rfl, by rw [Lib.cell_of_heap hh]; rfl, by rw [Lib.cell_of_heap hh]; rfl, by rw [Lib.cell_of_heap hh]; rfl, by rw [Lib.cell_of_heap hh]; rfl⟩
  | 1, _ => exact ⟨by rw [Lib.cell_of_heap hh]; rfl, by rw [Lib.cell_of_heap hh]; rfl, by rw [Lib.cell_of_heap hh]; rfl, by rw [Lib.cell_of_heap hh]; rfl, by rw [Lib.cell_of_heap hh]; rfl⟩
theorem ids1_new (y : World) : Ids1 (y.alloc (.cells #[.int .i64 1, .int .i64 1] 26)) (.slice (some ⟨y.heap.size, 0, none⟩) 1 1) := by
  have hh := heap_alloc_new y (.cells #[.int .i64 1, .int .i64 1] 26)
  refine ⟨_, rfl, ⟨_, _, rfl, ⟨Nat.le_refl _, (fun h => by cases h)⟩, .inr ⟨_, 0, rfl, fun i hi => ?_⟩⟩⟩
  match i, hi with
  | 0, _ => exact ⟨by rw [Lib.cell_of_heap hh]; rfl, by rw [Lib.cell_of_heap hh]; rfl⟩
theorem int1_new (y : World) : Int1 (y.alloc (.cells #[.int .i64 4, .int .i64 5] 3)) (.slice (some ⟨y.heap.size, 0, none⟩) 2 2) := by
  have hh := heap_alloc_new y (.cells #[.int .i64 4, .int .i64 5] 3)
  refine ⟨_, rfl, ⟨_, _, rfl, .inr ⟨_, 0, rfl, fun i hi => ?_⟩⟩⟩
  match i, hi with
  | 0, _ => rw [Lib.cell_of_heap hh]; rfl
  | 1, _ => rw [Lib.cell_of_heap hh]; rfl
theorem fa1_new {y : World} {p1 : Option Addr} (h : IntsV y (.slice p1 2 2) [4, 5]) : Fa1 (y.alloc (.cells #[.int .i64 0, .slice p1 2 2] 84)) (.slice (some ⟨y.heap.size, 0, none⟩) 1 1) := by
  have hb := new_below y (.cells #[.int .i64 0, .slice p1 2 2] 84)
  have hh := heap_alloc_new y (.cells #[.int .i64 0, .slice p1 2 2] 84)
  refine ⟨_, rfl, ⟨_, _, rfl, ⟨Nat.le_refl _, (fun h => by cases h)⟩, .inr ⟨_, 0, rfl, fun i hi => ?_⟩⟩⟩
  match i, hi with
  | 0, _ => exact ⟨by rw [Lib.cell_of_heap hh]; rfl, _, by rw [Lib.cell_of_heap hh]; rfl, intsV_below h hb⟩
def dbT2 (B : Nat) (a1 : Option Addr) (c1 : Nat) (a2 : Option Addr) (c2 : Nat) (tQ : Nat) (vQ : Value) (WQ : World) : Prop :=
  match tQ with
  | 16 => vQ = .agg #[.slice a1 0 c1, .slice a2 1 c2]
  | 17 => Up1 Wr.firstU WQ vQ
  | 18 => Ad2 WQ vQ
  | 15 => Ad2 WQ vQ
  | 19 => Re2 WQ vQ
  | 20 => vQ = .int .i64 0
  | 3 => Bxp B WQ vQ
  | 4 => vQ = .int .i64 0
  | _ => True
theorem dbT2_mono (B : Nat) (a1 : Option Addr) (c1 : Nat) (a2 : Option Addr) (c2 : Nat) (C : Nat) (tQ : Nat) (vQ : Value) (W W' : World) (hb : Rb C W W') (h : dbT2 B a1 c1 a2 c2 tQ vQ W) : dbT2 B a1 c1 a2 c2 tQ vQ W' := by
  revert h
  unfold dbT2
  split <;> (intro h; first | exact h | exact Up1.kn h hb.2.1 | exact Ad2.kn h hb.2.1 | exact Re2.kn h hb.2.1 | exact Bxp.rb h hb)
def dbT5 (XA XB : Nat) (a1 : Option Addr) (c1 : Nat) (a2 : Option Addr) (c2 : Nat) (b1 : Option Addr) (d1 : Nat) (b2 : Option Addr) (d2 : Nat) (ah : Option Addr) (ch : Nat) (al : Option Addr) (cl : Nat) (tQ : Nat) (vQ : Value) (WQ : World) : Prop :=
  match tQ with
  | 31 => vQ = .int .i64 0
  | 32 => vQ = .bool true
  | 33 => vQ = .bool true
  | 34 => vQ = .int .i64 0
  | 35 => vQ = .bool true
  | 36 => vQ = .bool true
  | 37 => vQ = .bool true
  | 38 => vQ = .int .i64 0
  | 39 => vQ = .bool true
  | 40 => vQ = .bool true
  | 41 => vQ = .bool true
  | 42 => vQ = .int .i64 0
  | 43 => vQ = .bool true
  | 44 => vQ = .bool true
  | 45 => vQ = .bool true
  | 46 => vQ = .pointer (some ⟨XA, 0, none⟩)
  | 47 => vQ = .slice a1 0 c1
  | 48 => vQ = .int .i64 0
  | 49 => vQ = .bool true
  | 50 => vQ = .bool true
  | 51 => vQ = .bool true
  | 52 => vQ = .pointer (some ⟨XA, 1, none⟩)
  | 53 => vQ = .slice a2 1 c2
  | 54 => vQ = .int .i64 1
  | 55 => vQ = .bool true
  | 56 => vQ = .bool true
  | 57 => vQ = .bool true
  | 58 => vQ = .agg #[.slice b1 2 d1, .slice b2 0 d2]
  | 59 => vQ = .int .i64 0
  | 60 => vQ = .bool true
  | 61 => vQ = .bool true
  | 62 => vQ = .bool true
  | 63 => vQ = .pointer (some ⟨XB, 0, none⟩)
  | 64 => vQ = .slice b1 2 d1
  | 65 => Up1 Wr.firstU WQ vQ
  | 66 => Up1 Wr.secondU WQ vQ
  | 67 => Ups2 WQ vQ
  | 68 => vQ = .bool true
  | 69 => vQ = .bool true
  | 70 => vQ = .bool true
  | 71 => vQ = .slice ah 1 ch
  | 72 => vQ = .agg #[.int .i64 1, .int .i64 1]
  | 73 => Ids1 WQ vQ
  | 74 => vQ = .bool true
  | 75 => vQ = .bool true
  | 76 => vQ = .bool true
  | 77 => vQ = .slice al 1 cl
  | 78 => Int1 WQ vQ
  | 79 => Fc1 WQ vQ
  | 80 => Fa1 WQ vQ
  | 81 => vQ = .bool true
  | 82 => vQ = .bool true
  | 0 => vQ = .bool true
  | _ => True
theorem dbT5_mono (XA XB : Nat) (a1 : Option Addr) (c1 : Nat) (a2 : Option Addr) (c2 : Nat) (b1 : Option Addr) (d1 : Nat) (b2 : Option Addr) (d2 : Nat) (ah : Option Addr) (ch : Nat) (al : Option Addr) (cl : Nat) (tQ : Nat) (vQ : Value) (W W' : World) (hb : Below W.heap.size W W') (h : dbT5 XA XB a1 c1 a2 c2 b1 d1 b2 d2 ah ch al cl tQ vQ W) : dbT5 XA XB a1 c1 a2 c2 b1 d1 b2 d2 ah ch al cl tQ vQ W' := by
  revert h
  unfold dbT5
  split <;> (intro h; first | exact h | exact Up1.below h hb | exact Ad2.below h hb | exact Re2.below h hb | exact Ids1.below h hb | exact Int1.below h hb | exact Fc1.below h hb | exact Fa1.below h hb | exact Ups2.below h hb)

set_option maxRecDepth 100000 in
set_option maxHeartbeats 4000000 in
theorem dagBegun_any (w : World) : Calls Tryz.prog 14 #[] w fun e w' => e = .returned (.bool true) ∧ Below w.heap.size w w' := by
  have HFI : Hid (∀ w, Calls Tryz.prog 53 #[] w fun e w' => ∃ vp vs vt, e = .returned (upVal Wr.firstU vp vs vt) ∧ UpV w' Wr.firstU vp vs vt ∧ Below w.heap.size w w') := first_any
  have HSE : Hid (∀ w, Calls Tryz.prog 52 #[] w fun e w' => ∃ vp vs vt, e = .returned (upVal Wr.secondU vp vs vt) ∧ UpV w' Wr.secondU vp vs vt ∧ Below w.heap.size w w') := second_any
  have HFC : Hid (∀ (p : Int) (a : Option Addr) (n c : Nat) (w : World), Calls Tryz.prog 55 #[.int .i64 p, .slice a n c] w fun e w' => e = .returned (fcVal p (.slice a n c)) ∧ Below w.heap.size w w') := fact_any
  go_enter Tryz.func14, Tryz.ntmps14
  go_upto_region 2 with (first | (go_at_call 52; refine Calls.mono (HSE.out _) ?_; rintro e w1 ⟨vp, vs, vt, rfl, hU, hb1⟩) | (go_at_call 6; refine Calls.mono (add_beg1 w1 ⟨Wr.secondU, vp, vs, vt⟩ hU.ok rfl) ?_; rintro e w2 ⟨a1, c1, a2, c2, R, rfl, h1, h2, h3, h4, hb2⟩))
  have hA := heap_alloc_new w2 (.cells #[.slice a1 0 c1, .slice a2 1 c2] 24)
  have hbA := new_below w2 (.cells #[.slice a1 0 c1, .slice a2 1 c2] 24)
  generalize w2.alloc (.cells #[.slice a1 0 c1, .slice a2 1 c2] 24) = wr at *
  have HB : Hid (Below w.heap.size w wr) := (hb1.trans (hb2.mono hb1.size)).trans (hbA.mono (hb1.trans (hb2.mono hb1.size)).size)
  have HX : Hid (∀ z, Below wr.heap.size wr z → z.cell? ⟨w2.heap.size, 0, none⟩ = some (.slice a1 0 c1) ∧ z.cell? ⟨w2.heap.size, 1, none⟩ = some (.slice a2 1 c2)) := fun z hz => ⟨cell_below hz (by rw [Lib.cell_of_heap hA]; rfl), cell_below hz (by rw [Lib.cell_of_heap hA]; rfl)⟩
  have hXl : w2.heap.size < wr.heap.size := (Array.getElem?_eq_some_iff.1 hA).1
  have HAD : Hid (∀ z (x : Uv), Below wr.heap.size wr z → UvOk z x → x.u = Wr.firstU → Calls Tryz.prog 6 #[.agg #[.slice a1 0 c1, .slice a2 1 c2], uvVal x] z fun e w' => ∃ v, e = .returned v ∧ Ad2 w' v ∧ Below z.heap.size z w') := fun z x hz hx he => by
    have hk : Kc w2 z := Kc.below (hbA.trans (hz.mono hbA.size))
    refine (add_beg2 _ _ z x R (h1.kc hk) (h2.kc hk) (h3.kc hk) hx he h4).mono ?_
    rintro e w' ⟨b1, d1, b2, d2, R1, R2, rfl, k1, k2, k3, k4, k5, k6, k7⟩
    exact ⟨_, rfl, ⟨b1, d1, b2, d2, rfl, R1, R2, k1, k2, k3, k4, k5, k6⟩, k7⟩
  clear h1 h2 h3 h4 hb1 hb2 hbA hA hU
  generalize w2.heap.size = X at *
  skip
  refine wp_region_tabR (Rb wr.heap.size) (fun _ _ _ => Rb.trans) (fun _ => Rb.draw _ _) (dbT2 wr.heap.size a1 c1 a2 c2) 7 (dbD2 wr.heap.size) (by decide) (by kernel_rfl) (by kernel_rfl) (dbT2_mono _ _ _ _ _ _) ?hop2 ?hend2
  case hop2 =>
    refine AllOpsI.cons (fun a y h => ?_) ?_
    · have e1 : a.eval (.tmp 1) = (.pointer (some ⟨X, 0, none⟩) : Value) := h.old 1 (by kernel_rfl)
      obtain ⟨x0, x1⟩ := HX.out y h.below.1
      refine opOkR_val (v := .agg #[.slice a1 0 c1, .slice a2 1 c2]) (w' := y) (wanted_none rfl) ?_ (fun t ht => by cases ht; exact rfl) (Rb.refl _ _) (fun h9 => absurd h9 (by decide)) (fun h9 => absurd h9 (by decide))
      have ec : ∀ v, a.eval (.const v) = v := fun _ => rfl
      generalize a.eval = ev at *
      clear h
      go_simp
    refine AllOpsI.cons (fun a y h => ?_) ?_
    · refine opOkR_call (f := 53) (args := #[]) (wanted_none rfl) ?_ ?_
      · have ec : ∀ v, a.eval (.const v) = v := fun _ => rfl
        have ef : ∀ f, a.eval (.func f) = .func (.func f) #[] #[] := fun _ => rfl
        generalize a.eval = ev at *
        clear h
        go_simp
      · refine Calls.mono (HFI.out y) ?_
        rintro _ y2 ⟨vp, vs, vt, rfl, hU, hb2⟩
        exact ⟨_, rfl, fun t ht => by cases ht; exact up1_of hU, Rb.of hb2 h.below.1.size, fun h9 => absurd h9 (by decide), fun h9 => absurd h9 (by decide)⟩
    refine AllOpsI.cons (fun a y h => ?_) ?_
    · have e16 : a.eval (.tmp 16) = (.agg #[.slice a1 0 c1, .slice a2 1 c2] : Value) := h.of 16 (by kernel_rfl)
      have t17 : Up1 Wr.firstU y (a.eval (.tmp 17)) := h.of 17 (by kernel_rfl)
      obtain ⟨b1, n1, d1, b2, n2, d2, b3, n3, d3, e17, hU⟩ := t17
      replace e17 : a.eval (.tmp 17) = .agg #[.int .i64 0, .int .i64 1, .slice b1 n1 d1, .slice b2 n2 d2, .slice b3 n3 d3] := e17
      refine opOkR_call (f := 6) (args := #[.agg #[.slice a1 0 c1, .slice a2 1 c2], .agg #[.int .i64 0, .int .i64 1, .slice b1 n1 d1, .slice b2 n2 d2, .slice b3 n3 d3]]) (wanted_none rfl) ?_ ?_
      · have ec : ∀ v, a.eval (.const v) = v := fun _ => rfl
        have ef : ∀ f, a.eval (.func f) = .func (.func f) #[] #[] := fun _ => rfl
        generalize a.eval = ev at *
        clear h
        go_simp
      · refine Calls.mono (HAD.out y ⟨Wr.firstU, _, _, _⟩ h.below.1 hU.ok rfl) ?_
        rintro _ y2 ⟨v, rfl, hA, hb2⟩
        exact ⟨_, rfl, fun t ht => by cases ht; exact hA, Rb.of hb2 h.below.1.size, fun h9 => absurd h9 (by decide), fun h9 => absurd h9 (by decide)⟩
    refine AllOpsI.cons (fun a y h => ?_) ?_
    · have t18 : Ad2 y (a.eval (.tmp 18)) := h.of 18 (by kernel_rfl)
      obtain ⟨b1, d1, b2, d2, e18, hR⟩ := t18
      refine opOkR_val (v := .tuple #[.agg #[.slice b1 2 d1, .slice b2 0 d2], .int .i64 0]) (w' := y) (wanted_none rfl) ?_ (fun t ht => by cases ht; exact ⟨_, _, _, _, rfl, hR⟩) (Rb.refl _ _) (fun h9 => absurd h9 (by decide)) (fun h9 => absurd h9 (by decide))
      have ec : ∀ v, a.eval (.const v) = v := fun _ => rfl
      generalize a.eval = ev at *
      clear h
      go_simp
    refine AllOpsI.cons (fun a y h => ?_) ?_
    · have t15 : Ad2 y (a.eval (.tmp 15)) := h.of 15 (by kernel_rfl)
      obtain ⟨b1, d1, b2, d2, e15, hR⟩ := t15
      refine opOkR_val (v := .agg #[.slice b1 2 d1, .slice b2 0 d2]) (w' := y) (wanted_none rfl) ?_ (fun t ht => by cases ht; exact ⟨_, _, _, _, rfl, hR⟩) (Rb.refl _ _) (fun h9 => absurd h9 (by decide)) (fun h9 => absurd h9 (by decide))
      have ec : ∀ v, a.eval (.const v) = v := fun _ => rfl
      generalize a.eval = ev at *
      clear h
      go_simp
    refine AllOpsI.cons (fun a y h => ?_) ?_
    · have t15 : Ad2 y (a.eval (.tmp 15)) := h.of 15 (by kernel_rfl)
      obtain ⟨b1, d1, b2, d2, e15, hR⟩ := t15
      refine opOkR_val (v := .int .i64 0) (w' := y) (wanted_none rfl) ?_ (fun t ht => by cases ht; exact rfl) (Rb.refl _ _) (fun h9 => absurd h9 (by decide)) (fun _ _ hD => by obtain ⟨F, e3, h8, b1, d1, b2, d2, h7⟩ := hD; exact ⟨F, (put_get_ne (by decide)).trans e3, h8, b1, d1, b2, d2, h7⟩)
      have ec : ∀ v, a.eval (.const v) = v := fun _ => rfl
      generalize a.eval = ev at *
      clear h
      go_simp
    refine AllOpsI.cons (fun a y h => ?_) ?_
    · refine opOkR_val (v := .pointer (some ⟨y.heap.size, 0, none⟩)) (w' := y.alloc (.cells #[.slice none 0 0, .slice none 0 0] 24)) (wanted_none rfl) ?_ (fun t ht => by cases ht; exact bxp_new _ y h.below.1.size) (Rb.of (new_below y _) h.below.1.size) (fun h9 => absurd h9 (by decide)) (fun h9 => absurd h9 (by decide))
      have ec : ∀ v, a.eval (.const v) = v := fun _ => rfl
      generalize a.eval = ev at *
      clear h
      go_simp
    refine AllOpsI.cons (fun a y h => ?_) ?_
    · have t3 : Bxp wr.heap.size y (a.eval (.tmp 3)) := h.of 3 (by kernel_rfl)
      have t19 : Re2 y (a.eval (.tmp 19)) := h.of 19 (by kernel_rfl)
      obtain ⟨b1, d1, b2, d2, e19, hR⟩ := t19
      obtain ⟨F, e3, ⟨r1, r2, r3, r4, r5, r6, hF⟩, hFl⟩ := t3
      have z0 : y.cell? ⟨F, 0, none⟩ = some (.slice r1 r2 r3) := by rw [Lib.cell_of_heap hF]; rfl
      have y0 := Lib.frozen_of_heap hF 0
      have k1 : (y.setCell ⟨F, 0, none⟩ (.slice b1 2 d1)).heap[F]? = some (.cells #[.slice b1 2 d1, .slice r4 r5 r6] 24) := by rw [Lib.heap_setCell_same hF]; rfl
      have z1 : (y.setCell ⟨F, 0, none⟩ (.slice b1 2 d1)).cell? ⟨F, 1, none⟩ = some (.slice r4 r5 r6) := by rw [Lib.cell_of_heap k1]; rfl
      have y1 := Lib.frozen_of_heap k1 1
      refine opOkR_void (w' := two y F (.slice b1 2 d1) (.slice b2 0 d2)) (wanted_none rfl) ?_ rfl (Rb.two hF hFl) (fun _ => ⟨F, e3, hFl, b1, d1, b2, d2, two_heap hF, hR.kn (two_kn hF)⟩) (fun _ h9 => absurd rfl h9)
      unfold two
      generalize a.eval = ev at *
      clear h hR
      go_simp
    refine AllOpsI.cons (fun a y h => ?_) ?_
    · have e20 : a.eval (.tmp 20) = (.int .i64 0 : Value) := h.of 20 (by kernel_rfl)
      refine opOkR_val (v := .int .i64 0) (w' := y) (wanted_none rfl) ?_ (fun t ht => by cases ht; exact rfl) (Rb.refl _ _) (fun h9 => absurd h9 (by decide)) (fun _ _ hD => by obtain ⟨F, e3, h8, b1, d1, b2, d2, h7⟩ := hD; exact ⟨F, (put_get_ne (by decide)).trans e3, h8, b1, d1, b2, d2, h7⟩)
      have ec : ∀ v, a.eval (.const v) = v := fun _ => rfl
      generalize a.eval = ev at *
      clear h
      go_simp
    exact AllOpsI.nil
  case hend2 =>
    rintro ⟨tm, df⟩ y2 hI hD hdE hszE hstE hTE
    obtain ⟨F, k3, hFl, b1, d1, b2, d2, hk2, hR2⟩ := hD
    have k4 : tm.getD 4 undef = (.int .i64 0 : Value) := hTE 4 (by decide)
    obtain rfl : df = [] := hdE
    have hb2 := hI.1
    clear hI hTE
    have hF8 := tmps_fold [16, 17, 18, 15, 19, 20, 3, 4] tm _ (hszE.trans (by rfl)) hstE
    clear hszE hstE
    simp only [] at k3
    simp only [List.foldl_cons, List.foldl_nil, k3, k4] at hF8
    clear k3 k4
    generalize tm.getD 16 undef = x16 at hF8
    generalize tm.getD 17 undef = x17 at hF8
    generalize tm.getD 18 undef = x18 at hF8
    generalize tm.getD 15 undef = x15 at hF8
    generalize tm.getD 19 undef = x19 at hF8
    generalize tm.getD 20 undef = x20 at hF8
    simp only [List.setIfInBounds_toArray, List.set_cons_zero, List.set_cons_succ] at hF8
    subst hF8
    have HB2 : Hid (Below w.heap.size w y2) := HB.out.trans (hb2.mono HB.out.size)
    have HC : Hid (∀ z, Below y2.heap.size y2 z → z.cell? ⟨X, 0, none⟩ = some (.slice a1 0 c1) ∧ z.cell? ⟨X, 1, none⟩ = some (.slice a2 1 c2) ∧ z.cell? ⟨F, 0, none⟩ = some (.slice b1 2 d1) ∧ z.cell? ⟨F, 1, none⟩ = some (.slice b2 0 d2)) := fun z hz => ⟨cell_below hz (HX.out _ hb2).1, cell_below hz (HX.out _ hb2).2, cell_below hz (by rw [Lib.cell_of_heap hk2]; rfl), cell_below hz (by rw [Lib.cell_of_heap hk2]; rfl)⟩
    have HALL : Hid (∀ z, Below y2.heap.size y2 z → (Calls Tryz.prog 7 #[.agg #[.slice b1 2 d1, .slice b2 0 d2]] z fun e w' => ∃ v', e = .returned (.tuple #[v', .int .i64 0]) ∧ IdsV w' v' [⟨1, 1⟩] ∧ Below z.heap.size z w') ∧
      (Calls Tryz.prog 8 #[.agg #[.slice b1 2 d1, .slice b2 0 d2]] z fun e w' => ∃ v', e = .returned (.tuple #[v', .int .i64 0]) ∧ FactsV w' v' [⟨0, [4, 5]⟩] ∧ Below z.heap.size z w') ∧
      (Calls Tryz.prog 15 #[.agg #[.slice b1 2 d1, .slice b2 0 d2]] z fun e w' => e = .returned (.int .i64 0) ∧ Below z.heap.size z w')) := fun z hz => by
      obtain ⟨R1, R2, r1, r2, r3, r4, r5, r6⟩ := hR2
      exact beg_all _ _ z R1 R2 (r1.kc (Kc.below hz)) (r2.kc (Kc.below hz)) (r3.below hz) (r4.below hz) r5 r6
    have HSU : Hid (∀ z v, Below y2.heap.size y2 z → (∃ R1 R2, UpsV z v [R1, R2] ∧ UvOk z R1 ∧ UvOk z R2 ∧ R1.u = Wr.firstU ∧ R2.u = Wr.secondU) → Calls Tryz.prog 26 #[.slice b1 2 d1, v] z fun e w' => e = .returned (.bool true) ∧ Below z.heap.size z w') := fun z v hz hv => by
      obtain ⟨R1, R2, r1, r2, r3, r4, r5, r6⟩ := hR2
      obtain ⟨Q1, Q2, q1, q2, q3, q4, q5⟩ := hv
      refine SameUpdates_same [R1, R2] [Q1, Q2] _ _ z (r1.kc (Kc.below hz)) q1 ?_ (by decide : 2 ≤ 1000) ?_ ?_
      · show [R1.u, R2.u] = [Q1.u, Q2.u]
        rw [r5, r6, q4, q5]
      · intro x hx
        have hx : x = R1 ∨ x = R2 := by simpa using hx
        rcases hx with rfl | rfl
        · exact r3.below hz
        · exact r4.below hz
      · intro x hx
        have hx : x = Q1 ∨ x = Q2 := by simpa using hx
        rcases hx with rfl | rfl
        · exact q2
        · exact q3
    obtain ⟨x0, x1, x2, x3⟩ := HC.out y2 (Below.refl _ _)
    clear hk2 hR2 hb2 HX HAD HB hXl hFl
    go_upto_region 4 with (go_at_call 7; refine Calls.mono (HALL.out y2 (Below.refl _ _)).1 ?_; rintro e w7 ⟨vh, rfl, hH, hb7⟩; obtain ⟨ah, ch, rfl, _⟩ := id hH)
    have HH7 : Hid (IdsV w7 (.slice ah 1 ch) [⟨1, 1⟩]) := hH
    have HB7 : Hid (Below y2.heap.size y2 w7) := hb7
    clear x0 x1 x2 x3
    obtain ⟨x0, x1, x2, x3⟩ := HC.out w7 hb7
    clear hH hb7
    go_upto_region 5 with (go_at_call 8; refine Calls.mono (HALL.out w7 HB7.out).2.1 ?_; rintro e w8 ⟨vl, rfl, hL, hb8⟩; obtain ⟨al, cl, rfl, _⟩ := id hL)
    have HF : Hid (FactsV w8 (.slice al 1 cl) [⟨0, [4, 5]⟩]) := hL
    have HH : Hid (IdsV w8 (.slice ah 1 ch) [⟨1, 1⟩]) := idsV_below HH7.out hb8
    have HB8 : Hid (Below y2.heap.size y2 w8) := HB7.out.trans (hb8.mono HB7.out.size)
    have HB9 : Hid (Below w.heap.size w w8) := HB2.out.trans (HB8.out.mono HB2.out.size)
    replace HC : Hid (∀ z, Below w8.heap.size w8 z → _) := fun z hz => HC.out z (HB8.out.trans (hz.mono HB8.out.size))
    replace HALL : Hid (∀ z, Below w8.heap.size w8 z → _) := fun z hz => HALL.out z (HB8.out.trans (hz.mono HB8.out.size))
    replace HSU : Hid (∀ z v, Below w8.heap.size w8 z → _) := fun z v hz => HSU.out z v (HB8.out.trans (hz.mono HB8.out.size))
    clear x0 x1 x2 x3 hL hb8 HB8 HB7 HB2 HH7
    skip
    refine wp_region_tabA (dbT5 X F a1 c1 a2 c2 b1 d1 b2 d2 ah ch al cl) (by kernel_rfl) (by kernel_rfl) (dbT5_mono _ _ _ _ _ _ _ _ _ _ _ _ _ _) ?hop ?hend
    case hop =>
      refine AllOps.cons (fun a y h => ?_) ?_
      · have e2 : a.eval (.tmp 2) = (.int .i64 0 : Value) := h.old 2 (by kernel_rfl)
        refine opOk_val (v := .int .i64 0) (w' := y) (wanted_none rfl) ?_ (fun t ht => by cases ht; exact rfl) (Below.refl _ _)
        have ec : ∀ v, a.eval (.const v) = v := fun _ => rfl
        generalize a.eval = ev at *
        clear h
        go_simp
      refine AllOps.cons (fun a y h => ?_) ?_
      · have e31 : a.eval (.tmp 31) = (.int .i64 0 : Value) := h.of 31 (by kernel_rfl)
        refine opOk_val (v := .bool true) (w' := y) (wanted_none rfl) ?_ (fun t ht => by cases ht; exact rfl) (Below.refl _ _)
        have ec : ∀ v, a.eval (.const v) = v := fun _ => rfl
        generalize a.eval = ev at *
        clear h
        go_simp
      refine AllOps.cons (fun a y h => ?_) ?_
      · have e32 : a.eval (.tmp 32) = (.bool true : Value) := h.of 32 (by kernel_rfl)
        refine opOk_val (v := .bool true) (w' := y) (wanted_none rfl) ?_ (fun t ht => by cases ht; exact rfl) (Below.refl _ _)
        have ec : ∀ v, a.eval (.const v) = v := fun _ => rfl
        generalize a.eval = ev at *
        clear h
        go_simp
      refine AllOps.cons (fun a y h => ?_) ?_
      · have e4 : a.eval (.tmp 4) = (.int .i64 0 : Value) := h.old 4 (by kernel_rfl)
        refine opOk_val (v := .int .i64 0) (w' := y) (wanted_some (j := 2) (t := 33) (b := true) rfl rfl rfl (h.of 33 (by kernel_rfl))) ?_ (fun t ht => by cases ht; exact rfl) (Below.refl _ _)
        have ec : ∀ v, a.eval (.const v) = v := fun _ => rfl
        generalize a.eval = ev at *
        clear h
        go_simp
      refine AllOps.cons (fun a y h => ?_) ?_
      · have e34 : a.eval (.tmp 34) = (.int .i64 0 : Value) := h.of 34 (by kernel_rfl)
        refine opOk_val (v := .bool true) (w' := y) (wanted_some (j := 2) (t := 33) (b := true) rfl rfl rfl (h.of 33 (by kernel_rfl))) ?_ (fun t ht => by cases ht; exact rfl) (Below.refl _ _)
        have ec : ∀ v, a.eval (.const v) = v := fun _ => rfl
        generalize a.eval = ev at *
        clear h
        go_simp
      refine AllOps.cons (fun a y h => ?_) ?_
      · have e33 : a.eval (.tmp 33) = (.bool true : Value) := h.of 33 (by kernel_rfl)
        have e35 : a.eval (.tmp 35) = (.bool true : Value) := h.of 35 (by kernel_rfl)
        refine opOk_val (v := .bool true) (w' := y) (wanted_none rfl) ?_ (fun t ht => by cases ht; exact rfl) (Below.refl _ _)
        have ec : ∀ v, a.eval (.const v) = v := fun _ => rfl
        generalize a.eval = ev at *
        clear h
        go_simp
      refine AllOps.cons (fun a y h => ?_) ?_
      · have e36 : a.eval (.tmp 36) = (.bool true : Value) := h.of 36 (by kernel_rfl)
        refine opOk_val (v := .bool true) (w' := y) (wanted_none rfl) ?_ (fun t ht => by cases ht; exact rfl) (Below.refl _ _)
        have ec : ∀ v, a.eval (.const v) = v := fun _ => rfl
        generalize a.eval = ev at *
        clear h
        go_simp
      refine AllOps.cons (fun a y h => ?_) ?_
      · have e6 : a.eval (.tmp 6) = (.int .i64 0 : Value) := h.old 6 (by kernel_rfl)
        refine opOk_val (v := .int .i64 0) (w' := y) (wanted_some (j := 6) (t := 37) (b := true) rfl rfl rfl (h.of 37 (by kernel_rfl))) ?_ (fun t ht => by cases ht; exact rfl) (Below.refl _ _)
        have ec : ∀ v, a.eval (.const v) = v := fun _ => rfl
        generalize a.eval = ev at *
        clear h
        go_simp
      refine AllOps.cons (fun a y h => ?_) ?_
      · have e38 : a.eval (.tmp 38) = (.int .i64 0 : Value) := h.of 38 (by kernel_rfl)
        refine opOk_val (v := .bool true) (w' := y) (wanted_some (j := 6) (t := 37) (b := true) rfl rfl rfl (h.of 37 (by kernel_rfl))) ?_ (fun t ht => by cases ht; exact rfl) (Below.refl _ _)
        have ec : ∀ v, a.eval (.const v) = v := fun _ => rfl
        generalize a.eval = ev at *
        clear h
        go_simp
      refine AllOps.cons (fun a y h => ?_) ?_
      · have e37 : a.eval (.tmp 37) = (.bool true : Value) := h.of 37 (by kernel_rfl)
        have e39 : a.eval (.tmp 39) = (.bool true : Value) := h.of 39 (by kernel_rfl)
        refine opOk_val (v := .bool true) (w' := y) (wanted_none rfl) ?_ (fun t ht => by cases ht; exact rfl) (Below.refl _ _)
        have ec : ∀ v, a.eval (.const v) = v := fun _ => rfl
        generalize a.eval = ev at *
        clear h
        go_simp
      refine AllOps.cons (fun a y h => ?_) ?_
      · have e40 : a.eval (.tmp 40) = (.bool true : Value) := h.of 40 (by kernel_rfl)
        refine opOk_val (v := .bool true) (w' := y) (wanted_none rfl) ?_ (fun t ht => by cases ht; exact rfl) (Below.refl _ _)
        have ec : ∀ v, a.eval (.const v) = v := fun _ => rfl
        generalize a.eval = ev at *
        clear h
        go_simp
      refine AllOps.cons (fun a y h => ?_) ?_
      · have e8 : a.eval (.tmp 8) = (.int .i64 0 : Value) := h.old 8 (by kernel_rfl)
        refine opOk_val (v := .int .i64 0) (w' := y) (wanted_some (j := 10) (t := 41) (b := true) rfl rfl rfl (h.of 41 (by kernel_rfl))) ?_ (fun t ht => by cases ht; exact rfl) (Below.refl _ _)
        have ec : ∀ v, a.eval (.const v) = v := fun _ => rfl
        generalize a.eval = ev at *
        clear h
        go_simp
      refine AllOps.cons (fun a y h => ?_) ?_
      · have e42 : a.eval (.tmp 42) = (.int .i64 0 : Value) := h.of 42 (by kernel_rfl)
        refine opOk_val (v := .bool true) (w' := y) (wanted_some (j := 10) (t := 41) (b := true) rfl rfl rfl (h.of 41 (by kernel_rfl))) ?_ (fun t ht => by cases ht; exact rfl) (Below.refl _ _)
        have ec : ∀ v, a.eval (.const v) = v := fun _ => rfl
        generalize a.eval = ev at *
        clear h
        go_simp
      refine AllOps.cons (fun a y h => ?_) ?_
      · have e41 : a.eval (.tmp 41) = (.bool true : Value) := h.of 41 (by kernel_rfl)
        have e43 : a.eval (.tmp 43) = (.bool true : Value) := h.of 43 (by kernel_rfl)
        refine opOk_val (v := .bool true) (w' := y) (wanted_none rfl) ?_ (fun t ht => by cases ht; exact rfl) (Below.refl _ _)
        have ec : ∀ v, a.eval (.const v) = v := fun _ => rfl
        generalize a.eval = ev at *
        clear h
        go_simp
      refine AllOps.cons (fun a y h => ?_) ?_
      · have e44 : a.eval (.tmp 44) = (.bool true : Value) := h.of 44 (by kernel_rfl)
        refine opOk_val (v := .bool true) (w' := y) (wanted_none rfl) ?_ (fun t ht => by cases ht; exact rfl) (Below.refl _ _)
        have ec : ∀ v, a.eval (.const v) = v := fun _ => rfl
        generalize a.eval = ev at *
        clear h
        go_simp
      refine AllOps.cons (fun a y h => ?_) ?_
      · have e1 : a.eval (.tmp 1) = (.pointer (some ⟨X, 0, none⟩) : Value) := h.old 1 (by kernel_rfl)
        refine opOk_val (v := .pointer (some ⟨X, 0, none⟩)) (w' := y) (wanted_some (j := 14) (t := 45) (b := true) rfl rfl rfl (h.of 45 (by kernel_rfl))) ?_ (fun t ht => by cases ht; exact rfl) (Below.refl _ _)
        have ec : ∀ v, a.eval (.const v) = v := fun _ => rfl
        generalize a.eval = ev at *
        clear h
        go_simp
      refine AllOps.cons (fun a y h => ?_) ?_
      · have e46 : a.eval (.tmp 46) = (.pointer (some ⟨X, 0, none⟩) : Value) := h.of 46 (by kernel_rfl)
        obtain ⟨x0, x1, x2, x3⟩ := HC.out y h.below
        refine opOk_val (v := .slice a1 0 c1) (w' := y) (wanted_some (j := 14) (t := 45) (b := true) rfl rfl rfl (h.of 45 (by kernel_rfl))) ?_ (fun t ht => by cases ht; exact rfl) (Below.refl _ _)
        have ec : ∀ v, a.eval (.const v) = v := fun _ => rfl
        generalize a.eval = ev at *
        clear h
        go_simp
      refine AllOps.cons (fun a y h => ?_) ?_
      · have e47 : a.eval (.tmp 47) = (.slice a1 0 c1 : Value) := h.of 47 (by kernel_rfl)
        refine opOk_val (v := .int .i64 0) (w' := y) (wanted_some (j := 14) (t := 45) (b := true) rfl rfl rfl (h.of 45 (by kernel_rfl))) ?_ (fun t ht => by cases ht; exact rfl) (Below.refl _ _)
        have ec : ∀ v, a.eval (.const v) = v := fun _ => rfl
        generalize a.eval = ev at *
        clear h
        go_simp
      refine AllOps.cons (fun a y h => ?_) ?_
      · have e48 : a.eval (.tmp 48) = (.int .i64 0 : Value) := h.of 48 (by kernel_rfl)
        refine opOk_val (v := .bool true) (w' := y) (wanted_some (j := 14) (t := 45) (b := true) rfl rfl rfl (h.of 45 (by kernel_rfl))) ?_ (fun t ht => by cases ht; exact rfl) (Below.refl _ _)
        have ec : ∀ v, a.eval (.const v) = v := fun _ => rfl
        generalize a.eval = ev at *
        clear h
        go_simp
      refine AllOps.cons (fun a y h => ?_) ?_
      · have e45 : a.eval (.tmp 45) = (.bool true : Value) := h.of 45 (by kernel_rfl)
        have e49 : a.eval (.tmp 49) = (.bool true : Value) := h.of 49 (by kernel_rfl)
        refine opOk_val (v := .bool true) (w' := y) (wanted_none rfl) ?_ (fun t ht => by cases ht; exact rfl) (Below.refl _ _)
        have ec : ∀ v, a.eval (.const v) = v := fun _ => rfl
        generalize a.eval = ev at *
        clear h
        go_simp
      refine AllOps.cons (fun a y h => ?_) ?_
      · have e50 : a.eval (.tmp 50) = (.bool true : Value) := h.of 50 (by kernel_rfl)
        refine opOk_val (v := .bool true) (w' := y) (wanted_none rfl) ?_ (fun t ht => by cases ht; exact rfl) (Below.refl _ _)
        have ec : ∀ v, a.eval (.const v) = v := fun _ => rfl
        generalize a.eval = ev at *
        clear h
        go_simp
      refine AllOps.cons (fun a y h => ?_) ?_
      · have e1 : a.eval (.tmp 1) = (.pointer (some ⟨X, 0, none⟩) : Value) := h.old 1 (by kernel_rfl)
        refine opOk_val (v := .pointer (some ⟨X, 1, none⟩)) (w' := y) (wanted_some (j := 20) (t := 51) (b := true) rfl rfl rfl (h.of 51 (by kernel_rfl))) ?_ (fun t ht => by cases ht; exact rfl) (Below.refl _ _)
        have ec : ∀ v, a.eval (.const v) = v := fun _ => rfl
        generalize a.eval = ev at *
        clear h
        go_simp
      refine AllOps.cons (fun a y h => ?_) ?_
      · have e52 : a.eval (.tmp 52) = (.pointer (some ⟨X, 1, none⟩) : Value) := h.of 52 (by kernel_rfl)
        obtain ⟨x0, x1, x2, x3⟩ := HC.out y h.below
        refine opOk_val (v := .slice a2 1 c2) (w' := y) (wanted_some (j := 20) (t := 51) (b := true) rfl rfl rfl (h.of 51 (by kernel_rfl))) ?_ (fun t ht => by cases ht; exact rfl) (Below.refl _ _)
        have ec : ∀ v, a.eval (.const v) = v := fun _ => rfl
        generalize a.eval = ev at *
        clear h
        go_simp
      refine AllOps.cons (fun a y h => ?_) ?_
      · have e53 : a.eval (.tmp 53) = (.slice a2 1 c2 : Value) := h.of 53 (by kernel_rfl)
        refine opOk_val (v := .int .i64 1) (w' := y) (wanted_some (j := 20) (t := 51) (b := true) rfl rfl rfl (h.of 51 (by kernel_rfl))) ?_ (fun t ht => by cases ht; exact rfl) (Below.refl _ _)
        have ec : ∀ v, a.eval (.const v) = v := fun _ => rfl
        generalize a.eval = ev at *
        clear h
        go_simp
      refine AllOps.cons (fun a y h => ?_) ?_
      · have e54 : a.eval (.tmp 54) = (.int .i64 1 : Value) := h.of 54 (by kernel_rfl)
        refine opOk_val (v := .bool true) (w' := y) (wanted_some (j := 20) (t := 51) (b := true) rfl rfl rfl (h.of 51 (by kernel_rfl))) ?_ (fun t ht => by cases ht; exact rfl) (Below.refl _ _)
        have ec : ∀ v, a.eval (.const v) = v := fun _ => rfl
        generalize a.eval = ev at *
        clear h
        go_simp
      refine AllOps.cons (fun a y h => ?_) ?_
      · have e51 : a.eval (.tmp 51) = (.bool true : Value) := h.of 51 (by kernel_rfl)
        have e55 : a.eval (.tmp 55) = (.bool true : Value) := h.of 55 (by kernel_rfl)
        refine opOk_val (v := .bool true) (w' := y) (wanted_none rfl) ?_ (fun t ht => by cases ht; exact rfl) (Below.refl _ _)
        have ec : ∀ v, a.eval (.const v) = v := fun _ => rfl
        generalize a.eval = ev at *
        clear h
        go_simp
      refine AllOps.cons (fun a y h => ?_) ?_
      · have e56 : a.eval (.tmp 56) = (.bool true : Value) := h.of 56 (by kernel_rfl)
        refine opOk_val (v := .bool true) (w' := y) (wanted_none rfl) ?_ (fun t ht => by cases ht; exact rfl) (Below.refl _ _)
        have ec : ∀ v, a.eval (.const v) = v := fun _ => rfl
        generalize a.eval = ev at *
        clear h
        go_simp
      refine AllOps.cons (fun a y h => ?_) ?_
      · have e3 : a.eval (.tmp 3) = (.pointer (some ⟨F, 0, none⟩) : Value) := h.old 3 (by kernel_rfl)
        obtain ⟨x0, x1, x2, x3⟩ := HC.out y h.below
        refine opOk_val (v := .agg #[.slice b1 2 d1, .slice b2 0 d2]) (w' := y) (wanted_some (j := 26) (t := 57) (b := true) rfl rfl rfl (h.of 57 (by kernel_rfl))) ?_ (fun t ht => by cases ht; exact rfl) (Below.refl _ _)
        have ec : ∀ v, a.eval (.const v) = v := fun _ => rfl
        generalize a.eval = ev at *
        clear h
        go_simp
      refine AllOps.cons (fun a y h => ?_) ?_
      · have e58 : a.eval (.tmp 58) = (.agg #[.slice b1 2 d1, .slice b2 0 d2] : Value) := h.of 58 (by kernel_rfl)
        refine opOk_call (f := 15) (args := #[.agg #[.slice b1 2 d1, .slice b2 0 d2]]) (wanted_some (j := 26) (t := 57) (b := true) rfl rfl rfl (h.of 57 (by kernel_rfl))) ?_ ?_
        · have ec : ∀ v, a.eval (.const v) = v := fun _ => rfl
          have ef : ∀ f, a.eval (.func f) = .func (.func f) #[] #[] := fun _ => rfl
          generalize a.eval = ev at *
          clear h
          go_simp
        · refine Calls.mono (HALL.out y h.below).2.2 ?_
          rintro _ y2 ⟨rfl, hb2⟩
          exact ⟨_, rfl, fun t ht => by cases ht; exact rfl, hb2⟩
      refine AllOps.cons (fun a y h => ?_) ?_
      · have e59 : a.eval (.tmp 59) = (.int .i64 0 : Value) := h.of 59 (by kernel_rfl)
        refine opOk_val (v := .bool true) (w' := y) (wanted_some (j := 26) (t := 57) (b := true) rfl rfl rfl (h.of 57 (by kernel_rfl))) ?_ (fun t ht => by cases ht; exact rfl) (Below.refl _ _)
        have ec : ∀ v, a.eval (.const v) = v := fun _ => rfl
        generalize a.eval = ev at *
        clear h
        go_simp
      refine AllOps.cons (fun a y h => ?_) ?_
      · have e57 : a.eval (.tmp 57) = (.bool true : Value) := h.of 57 (by kernel_rfl)
        have e60 : a.eval (.tmp 60) = (.bool true : Value) := h.of 60 (by kernel_rfl)
        refine opOk_val (v := .bool true) (w' := y) (wanted_none rfl) ?_ (fun t ht => by cases ht; exact rfl) (Below.refl _ _)
        have ec : ∀ v, a.eval (.const v) = v := fun _ => rfl
        generalize a.eval = ev at *
        clear h
        go_simp
      refine AllOps.cons (fun a y h => ?_) ?_
      · have e61 : a.eval (.tmp 61) = (.bool true : Value) := h.of 61 (by kernel_rfl)
        refine opOk_val (v := .bool true) (w' := y) (wanted_none rfl) ?_ (fun t ht => by cases ht; exact rfl) (Below.refl _ _)
        have ec : ∀ v, a.eval (.const v) = v := fun _ => rfl
        generalize a.eval = ev at *
        clear h
        go_simp
      refine AllOps.cons (fun a y h => ?_) ?_
      · have e3 : a.eval (.tmp 3) = (.pointer (some ⟨F, 0, none⟩) : Value) := h.old 3 (by kernel_rfl)
        refine opOk_val (v := .pointer (some ⟨F, 0, none⟩)) (w' := y) (wanted_some (j := 31) (t := 62) (b := true) rfl rfl rfl (h.of 62 (by kernel_rfl))) ?_ (fun t ht => by cases ht; exact rfl) (Below.refl _ _)
        have ec : ∀ v, a.eval (.const v) = v := fun _ => rfl
        generalize a.eval = ev at *
        clear h
        go_simp
      refine AllOps.cons (fun a y h => ?_) ?_
      · have e63 : a.eval (.tmp 63) = (.pointer (some ⟨F, 0, none⟩) : Value) := h.of 63 (by kernel_rfl)
        obtain ⟨x0, x1, x2, x3⟩ := HC.out y h.below
        refine opOk_val (v := .slice b1 2 d1) (w' := y) (wanted_some (j := 31) (t := 62) (b := true) rfl rfl rfl (h.of 62 (by kernel_rfl))) ?_ (fun t ht => by cases ht; exact rfl) (Below.refl _ _)
        have ec : ∀ v, a.eval (.const v) = v := fun _ => rfl
        generalize a.eval = ev at *
        clear h
        go_simp
      refine AllOps.cons (fun a y h => ?_) ?_
      · refine opOk_call (f := 53) (args := #[]) (wanted_some (j := 31) (t := 62) (b := true) rfl rfl rfl (h.of 62 (by kernel_rfl))) ?_ ?_
        · have ec : ∀ v, a.eval (.const v) = v := fun _ => rfl
          have ef : ∀ f, a.eval (.func f) = .func (.func f) #[] #[] := fun _ => rfl
          generalize a.eval = ev at *
          clear h
          go_simp
        · refine Calls.mono (HFI.out y) ?_
          rintro _ y2 ⟨vp, vs, vt, rfl, hU, hb2⟩
          exact ⟨_, rfl, fun t ht => by cases ht; exact up1_of hU, hb2⟩
      refine AllOps.cons (fun a y h => ?_) ?_
      · refine opOk_call (f := 52) (args := #[]) (wanted_some (j := 31) (t := 62) (b := true) rfl rfl rfl (h.of 62 (by kernel_rfl))) ?_ ?_
        · have ec : ∀ v, a.eval (.const v) = v := fun _ => rfl
          have ef : ∀ f, a.eval (.func f) = .func (.func f) #[] #[] := fun _ => rfl
          generalize a.eval = ev at *
          clear h
          go_simp
        · refine Calls.mono (HSE.out y) ?_
          rintro _ y2 ⟨vp, vs, vt, rfl, hU, hb2⟩
          exact ⟨_, rfl, fun t ht => by cases ht; exact up1_of hU, hb2⟩
      refine AllOps.cons (fun a y h => ?_) ?_
      · have t65 : Up1 Wr.firstU y (a.eval (.tmp 65)) := h.of 65 (by kernel_rfl)
        have t66 : Up1 Wr.secondU y (a.eval (.tmp 66)) := h.of 66 (by kernel_rfl)
        obtain ⟨p1, n1, q1, p2, n2, q2, p3, n3, q3, e65, hU⟩ := t65
        obtain ⟨p4, n4, q4, p5, n5, q5, p6, n6, q6, e66, hV⟩ := t66
        replace e65 : a.eval (.tmp 65) = .agg #[.int .i64 0, .int .i64 1, .slice p1 n1 q1, .slice p2 n2 q2, .slice p3 n3 q3] := e65
        replace e66 : a.eval (.tmp 66) = .agg #[.int .i64 1, .int .i64 1, .slice p4 n4 q4, .slice p5 n5 q5, .slice p6 n6 q6] := e66
        refine opOk_val (v := .slice (some ⟨y.heap.size, 0, none⟩) 2 2) (w' := y.alloc (.cells #[.int .i64 0, .int .i64 1, .slice p1 n1 q1, .slice p2 n2 q2, .slice p3 n3 q3, .int .i64 1, .int .i64 1, .slice p4 n4 q4, .slice p5 n5 q5, .slice p6 n6 q6] 30)) (wanted_some (j := 31) (t := 62) (b := true) rfl rfl rfl (h.of 62 (by kernel_rfl))) ?_ (fun t ht => by cases ht; exact ups2_new hU hV) ((Below.refl _ _).alloc (Nat.le_refl _) _)
        have ec : ∀ v, a.eval (.const v) = v := fun _ => rfl
        generalize a.eval = ev at *
        clear h
        go_simp
      refine AllOps.cons (fun a y h => ?_) ?_
      · have e64 : a.eval (.tmp 64) = (.slice b1 2 d1 : Value) := h.of 64 (by kernel_rfl)
        have t67 : Ups2 y (a.eval (.tmp 67)) := h.of 67 (by kernel_rfl)
        obtain ⟨p1, e67, hU⟩ := t67
        refine opOk_call (f := 26) (args := #[.slice b1 2 d1, .slice p1 2 2]) (wanted_some (j := 31) (t := 62) (b := true) rfl rfl rfl (h.of 62 (by kernel_rfl))) ?_ ?_
        · have ec : ∀ v, a.eval (.const v) = v := fun _ => rfl
          have ef : ∀ f, a.eval (.func f) = .func (.func f) #[] #[] := fun _ => rfl
          generalize a.eval = ev at *
          clear h
          go_simp
        · refine Calls.mono (HSU.out y (.slice p1 2 2) h.below hU) ?_
          rintro _ y2 ⟨rfl, hb2⟩
          exact ⟨_, rfl, fun t ht => by cases ht; exact rfl, hb2⟩
      refine AllOps.cons (fun a y h => ?_) ?_
      · have e62 : a.eval (.tmp 62) = (.bool true : Value) := h.of 62 (by kernel_rfl)
        have e68 : a.eval (.tmp 68) = (.bool true : Value) := h.of 68 (by kernel_rfl)
        refine opOk_val (v := .bool true) (w' := y) (wanted_none rfl) ?_ (fun t ht => by cases ht; exact rfl) (Below.refl _ _)
        have ec : ∀ v, a.eval (.const v) = v := fun _ => rfl
        generalize a.eval = ev at *
        clear h
        go_simp
      refine AllOps.cons (fun a y h => ?_) ?_
      · have e69 : a.eval (.tmp 69) = (.bool true : Value) := h.of 69 (by kernel_rfl)
        refine opOk_val (v := .bool true) (w' := y) (wanted_none rfl) ?_ (fun t ht => by cases ht; exact rfl) (Below.refl _ _)
        have ec : ∀ v, a.eval (.const v) = v := fun _ => rfl
        generalize a.eval = ev at *
        clear h
        go_simp
      refine AllOps.cons (fun a y h => ?_) ?_
      · have e5 : a.eval (.tmp 5) = (.slice ah 1 ch : Value) := h.old 5 (by kernel_rfl)
        refine opOk_val (v := .slice ah 1 ch) (w' := y) (wanted_some (j := 39) (t := 70) (b := true) rfl rfl rfl (h.of 70 (by kernel_rfl))) ?_ (fun t ht => by cases ht; exact rfl) (Below.refl _ _)
        have ec : ∀ v, a.eval (.const v) = v := fun _ => rfl
        generalize a.eval = ev at *
        clear h
        go_simp
      refine AllOps.cons (fun a y h => ?_) ?_
      · refine opOk_val (v := .agg #[.int .i64 1, .int .i64 1]) (w' := y) (wanted_some (j := 39) (t := 70) (b := true) rfl rfl rfl (h.of 70 (by kernel_rfl))) ?_ (fun t ht => by cases ht; exact rfl) (Below.refl _ _)
        have ec : ∀ v, a.eval (.const v) = v := fun _ => rfl
        generalize a.eval = ev at *
        clear h
        go_simp
      refine AllOps.cons (fun a y h => ?_) ?_
      · have e72 : a.eval (.tmp 72) = (.agg #[.int .i64 1, .int .i64 1] : Value) := h.of 72 (by kernel_rfl)
        refine opOk_val (v := .slice (some ⟨y.heap.size, 0, none⟩) 1 1) (w' := y.alloc (.cells #[.int .i64 1, .int .i64 1] 26)) (wanted_some (j := 39) (t := 70) (b := true) rfl rfl rfl (h.of 70 (by kernel_rfl))) ?_ (fun t ht => by cases ht; exact ids1_new y) ((Below.refl _ _).alloc (Nat.le_refl _) _)
        have ec : ∀ v, a.eval (.const v) = v := fun _ => rfl
        generalize a.eval = ev at *
        clear h
        go_simp
      refine AllOps.cons (fun a y h => ?_) ?_
      · have e71 : a.eval (.tmp 71) = (.slice ah 1 ch : Value) := h.of 71 (by kernel_rfl)
        have t73 : Ids1 y (a.eval (.tmp 73)) := h.of 73 (by kernel_rfl)
        obtain ⟨p1, e73, hU⟩ := t73
        refine opOk_call (f := 17) (args := #[.slice ah 1 ch, .slice p1 1 1]) (wanted_some (j := 39) (t := 70) (b := true) rfl rfl rfl (h.of 70 (by kernel_rfl))) ?_ ?_
        · have ec : ∀ v, a.eval (.const v) = v := fun _ => rfl
          have ef : ∀ f, a.eval (.func f) = .func (.func f) #[] #[] := fun _ => rfl
          generalize a.eval = ev at *
          clear h
          go_simp
        · refine Calls.mono (SameIds_same [⟨1, 1⟩] _ _ y (idsV_below HH.out h.below) hU (by decide)) ?_
          rintro _ y2 ⟨rfl, hb2⟩
          exact ⟨_, rfl, fun t ht => by cases ht; exact rfl, hb2⟩
      refine AllOps.cons (fun a y h => ?_) ?_
      · have e70 : a.eval (.tmp 70) = (.bool true : Value) := h.of 70 (by kernel_rfl)
        have e74 : a.eval (.tmp 74) = (.bool true : Value) := h.of 74 (by kernel_rfl)
        refine opOk_val (v := .bool true) (w' := y) (wanted_none rfl) ?_ (fun t ht => by cases ht; exact rfl) (Below.refl _ _)
        have ec : ∀ v, a.eval (.const v) = v := fun _ => rfl
        generalize a.eval = ev at *
        clear h
        go_simp
      refine AllOps.cons (fun a y h => ?_) ?_
      · have e75 : a.eval (.tmp 75) = (.bool true : Value) := h.of 75 (by kernel_rfl)
        refine opOk_val (v := .bool true) (w' := y) (wanted_none rfl) ?_ (fun t ht => by cases ht; exact rfl) (Below.refl _ _)
        have ec : ∀ v, a.eval (.const v) = v := fun _ => rfl
        generalize a.eval = ev at *
        clear h
        go_simp
      refine AllOps.cons (fun a y h => ?_) ?_
      · have e7 : a.eval (.tmp 7) = (.slice al 1 cl : Value) := h.old 7 (by kernel_rfl)
        refine opOk_val (v := .slice al 1 cl) (w' := y) (wanted_some (j := 45) (t := 76) (b := true) rfl rfl rfl (h.of 76 (by kernel_rfl))) ?_ (fun t ht => by cases ht; exact rfl) (Below.refl _ _)
        have ec : ∀ v, a.eval (.const v) = v := fun _ => rfl
        generalize a.eval = ev at *
        clear h
        go_simp
      refine AllOps.cons (fun a y h => ?_) ?_
      · refine opOk_val (v := .slice (some ⟨y.heap.size, 0, none⟩) 2 2) (w' := y.alloc (.cells #[.int .i64 4, .int .i64 5] 3)) (wanted_some (j := 45) (t := 76) (b := true) rfl rfl rfl (h.of 76 (by kernel_rfl))) ?_ (fun t ht => by cases ht; exact int1_new y) ((Below.refl _ _).alloc (Nat.le_refl _) _)
        have ec : ∀ v, a.eval (.const v) = v := fun _ => rfl
        generalize a.eval = ev at *
        clear h
        go_simp
      refine AllOps.cons (fun a y h => ?_) ?_
      · have t78 : Int1 y (a.eval (.tmp 78)) := h.of 78 (by kernel_rfl)
        obtain ⟨p1, e78, hU⟩ := t78
        refine opOk_call (f := 55) (args := #[.int .i64 0, .slice p1 2 2]) (wanted_some (j := 45) (t := 76) (b := true) rfl rfl rfl (h.of 76 (by kernel_rfl))) ?_ ?_
        · have ec : ∀ v, a.eval (.const v) = v := fun _ => rfl
          have ef : ∀ f, a.eval (.func f) = .func (.func f) #[] #[] := fun _ => rfl
          generalize a.eval = ev at *
          clear h
          go_simp
        · refine Calls.mono (HFC.out _ _ _ _ y) ?_
          rintro _ y2 ⟨rfl, hb2⟩
          exact ⟨_, rfl, fun t ht => by cases ht; exact ⟨_, rfl, intsV_below hU hb2⟩, hb2⟩
      refine AllOps.cons (fun a y h => ?_) ?_
      · have t79 : Fc1 y (a.eval (.tmp 79)) := h.of 79 (by kernel_rfl)
        obtain ⟨p1, e79, hU⟩ := t79
        refine opOk_val (v := .slice (some ⟨y.heap.size, 0, none⟩) 1 1) (w' := y.alloc (.cells #[.int .i64 0, .slice p1 2 2] 84)) (wanted_some (j := 45) (t := 76) (b := true) rfl rfl rfl (h.of 76 (by kernel_rfl))) ?_ (fun t ht => by cases ht; exact fa1_new hU) ((Below.refl _ _).alloc (Nat.le_refl _) _)
        have ec : ∀ v, a.eval (.const v) = v := fun _ => rfl
        generalize a.eval = ev at *
        clear h
        go_simp
      refine AllOps.cons (fun a y h => ?_) ?_
      · have e77 : a.eval (.tmp 77) = (.slice al 1 cl : Value) := h.of 77 (by kernel_rfl)
        have t80 : Fa1 y (a.eval (.tmp 80)) := h.of 80 (by kernel_rfl)
        obtain ⟨p1, e80, hU⟩ := t80
        refine opOk_call (f := 54) (args := #[.slice al 1 cl, .slice p1 1 1]) (wanted_some (j := 45) (t := 76) (b := true) rfl rfl rfl (h.of 76 (by kernel_rfl))) ?_ ?_
        · have ec : ∀ v, a.eval (.const v) = v := fun _ => rfl
          have ef : ∀ f, a.eval (.func f) = .func (.func f) #[] #[] := fun _ => rfl
          generalize a.eval = ev at *
          clear h
          go_simp
        · refine Calls.mono (SameFacts_refl [⟨0, [4, 5]⟩] _ _ y (factsV_below HF.out h.below) hU (by decide) (fun f hf => by rw [List.mem_singleton.mp hf]; exact (by decide : 2 ≤ 9223372036854775807))) ?_
          rintro _ y2 ⟨rfl, hb2⟩
          exact ⟨_, rfl, fun t ht => by cases ht; exact rfl, hb2⟩
      refine AllOps.cons (fun a y h => ?_) ?_
      · have e76 : a.eval (.tmp 76) = (.bool true : Value) := h.of 76 (by kernel_rfl)
        have e81 : a.eval (.tmp 81) = (.bool true : Value) := h.of 81 (by kernel_rfl)
        refine opOk_val (v := .bool true) (w' := y) (wanted_none rfl) ?_ (fun t ht => by cases ht; exact rfl) (Below.refl _ _)
        have ec : ∀ v, a.eval (.const v) = v := fun _ => rfl
        generalize a.eval = ev at *
        clear h
        go_simp
      refine AllOps.cons (fun a y h => ?_) ?_
      · have e82 : a.eval (.tmp 82) = (.bool true : Value) := h.of 82 (by kernel_rfl)
        refine opOk_val (v := .bool true) (w' := y) (wanted_none rfl) ?_ (fun t ht => by cases ht; exact rfl) (Below.refl _ _)
        have ec : ∀ v, a.eval (.const v) = v := fun _ => rfl
        generalize a.eval = ev at *
        clear h
        go_simp
      exact AllOps.nil
    case hend =>
    rintro ⟨tm, df⟩ wE hbE hdE hszE hstE hTE
    have k0 : tm.getD 0 undef = (.bool true : Value) := ends_at (T := dbT5 X F a1 c1 a2 c2 b1 d1 b2 d2 ah ch al cl) (w := wE) (a := ⟨tm, df⟩) (t := 0) hTE (by kernel_rfl)
    obtain rfl : df = [] := hdE
    have HBE : Hid (Below w.heap.size w wE) := HB9.out.trans (hbE.mono HB9.out.size)
    have hF8 := tmps_fold [31, 32, 33, 34, 35, 36, 37, 38, 39, 40, 41, 42, 43, 44, 45, 46, 47, 48, 49, 50, 51, 52, 53, 54, 55, 56, 57, 58, 59, 60, 61, 62, 63, 64, 65, 66, 67, 68, 69, 70, 71, 72, 73, 74, 75, 76, 77, 78, 79, 80, 81, 82, 0] tm _ hszE hstE
    clear hszE hstE hTE hbE
    simp only [List.foldl_cons, List.foldl_nil, k0] at hF8
    clear k0
    generalize tm.getD 31 undef = x31 at hF8
    generalize tm.getD 32 undef = x32 at hF8
    generalize tm.getD 33 undef = x33 at hF8
    generalize tm.getD 34 undef = x34 at hF8
    generalize tm.getD 35 undef = x35 at hF8
    generalize tm.getD 36 undef = x36 at hF8
    generalize tm.getD 37 undef = x37 at hF8
    generalize tm.getD 38 undef = x38 at hF8
    generalize tm.getD 39 undef = x39 at hF8
    generalize tm.getD 40 undef = x40 at hF8
    generalize tm.getD 41 undef = x41 at hF8
    generalize tm.getD 42 undef = x42 at hF8
    generalize tm.getD 43 undef = x43 at hF8
    generalize tm.getD 44 undef = x44 at hF8
    generalize tm.getD 45 undef = x45 at hF8
    generalize tm.getD 46 undef = x46 at hF8
    generalize tm.getD 47 undef = x47 at hF8
    generalize tm.getD 48 undef = x48 at hF8
    generalize tm.getD 49 undef = x49 at hF8
    generalize tm.getD 50 undef = x50 at hF8
    generalize tm.getD 51 undef = x51 at hF8
    generalize tm.getD 52 undef = x52 at hF8
    generalize tm.getD 53 undef = x53 at hF8
    generalize tm.getD 54 undef = x54 at hF8
    generalize tm.getD 55 undef = x55 at hF8
    generalize tm.getD 56 undef = x56 at hF8
    generalize tm.getD 57 undef = x57 at hF8
    generalize tm.getD 58 undef = x58 at hF8
    generalize tm.getD 59 undef = x59 at hF8
    generalize tm.getD 60 undef = x60 at hF8
    generalize tm.getD 61 undef = x61 at hF8
    generalize tm.getD 62 undef = x62 at hF8
    generalize tm.getD 63 undef = x63 at hF8
    generalize tm.getD 64 undef = x64 at hF8
    generalize tm.getD 65 undef = x65 at hF8
    generalize tm.getD 66 undef = x66 at hF8
    generalize tm.getD 67 undef = x67 at hF8
    generalize tm.getD 68 undef = x68 at hF8
    generalize tm.getD 69 undef = x69 at hF8
    generalize tm.getD 70 undef = x70 at hF8
    generalize tm.getD 71 undef = x71 at hF8
    generalize tm.getD 72 undef = x72 at hF8
    generalize tm.getD 73 undef = x73 at hF8
    generalize tm.getD 74 undef = x74 at hF8
    generalize tm.getD 75 undef = x75 at hF8
    generalize tm.getD 76 undef = x76 at hF8
    generalize tm.getD 77 undef = x77 at hF8
    generalize tm.getD 78 undef = x78 at hF8
    generalize tm.getD 79 undef = x79 at hF8
    generalize tm.getD 80 undef = x80 at hF8
    generalize tm.getD 81 undef = x81 at hF8
    generalize tm.getD 82 undef = x82 at hF8
    simp only [List.setIfInBounds_toArray, List.set_cons_zero, List.set_cons_succ] at hF8
    subst hF8
    go_wp2_with fail
    go_ret
    exact ⟨rfl, HBE.out⟩
end Go.Proofs.YtmfaodapofamfaaGreat

/- The document's inOrder: updates with one more. -/
namespace Go.Proofs.YtmfaodapofamfaaGreat
open Go.RowKit

def insV (x : Uv) : List Uv → List Uv
  | [] => [x]
  | v :: r => if Dg.uOrd x.u v.u < 0 then x :: v :: r else v :: insV x r
theorem ups_insV (x : Uv) : ∀ q : List Uv, ups (insV x q) = Dg.ins x.u (ups q)
  | [] => rfl
  | v :: r => by
    show ups (insV x (v :: r)) = Dg.ins x.u (v.u :: ups r)
    unfold insV Dg.ins
    split
    · rfl
    · show v.u :: ups (insV x r) = _
      rw [ups_insV x r]
theorem ups_one (w : World) (x : Uv) : UpsAt (w.alloc (.cells #[.int .i64 x.u.id.a, .int .i64 x.u.id.n, x.p, x.s, x.t] 30)) (some ⟨w.heap.size, 0, none⟩) [x] := by
  refine .inr ⟨_, _, rfl, fun i hi => ?_⟩
  have e : i = 0 := by simpa using hi
  subst e
  have h := rl_new w (.cells #[.int .i64 x.u.id.a, .int .i64 x.u.id.n, x.p, x.s, x.t] 30)
  exact ⟨by rw [Lib.cell_of_heap h]; rfl, by rw [Lib.cell_of_heap h]; rfl, by rw [Lib.cell_of_heap h]; rfl, by rw [Lib.cell_of_heap h]; rfl, by rw [Lib.cell_of_heap h]; rfl⟩
theorem one_ok {w : World} {x : Uv} (h : UvOk w x) : ∀ y, y ∈ [x] → UvOk w y := fun y hy => by
  rw [List.mem_singleton] at hy
  rw [hy]
  exact h
theorem insV_perm (x : Uv) : ∀ q : List Uv, (insV x q).Perm (x :: q)
  | [] => .refl _
  | v :: r => by
    unfold insV
    split
    · exact .refl _
    · exact ((insV_perm x r).cons v).trans (List.Perm.swap x v r)
/-- What is done so far. -/
def InsI (x : Uv) (q : List Uv) (i : Nat) (p : Bool) (o : List Uv) : Prop := insV x q = o ++ (if p then q.drop i else insV x (q.drop i)) ∧ o.length ≤ i + 1
theorem InsI.past {x : Uv} {q o : List Uv} {i : Nat} (h : InsI x q i true o) (hi : i < q.length) : InsI x q (i + 1) true (o ++ [uvD q i]) := by
  refine ⟨?_, by rw [List.length_append]; have := h.2; simp; omega⟩
  rw [h.1, uvD_drop q i hi]
  simp
theorem InsI.put {x : Uv} {q o : List Uv} {i : Nat} (h : InsI x q i false o) (ho : o.length ≤ i) (hi : i < q.length) (hu : Dg.uOrd x.u (uvD q i).u < 0) : InsI x q (i + 1) true (o ++ [x] ++ [uvD q i]) := by
  refine ⟨?_, by simp; omega⟩
  rw [h.1, uvD_drop q i hi]
  simp [insV, hu]
theorem InsI.on {x : Uv} {q o : List Uv} {i : Nat} (h : InsI x q i false o) (hi : i < q.length) (hu : ¬ Dg.uOrd x.u (uvD q i).u < 0) : InsI x q (i + 1) false (o ++ [uvD q i]) := by
  refine ⟨?_, by rw [List.length_append]; have := h.2; simp; omega⟩
  rw [h.1, uvD_drop q i hi]
  simp [insV, hu]
theorem InsI.fin {x : Uv} {q o : List Uv} {i : Nat} {p : Bool} (h : InsI x q i p o) (hi : ¬ i < q.length) : insV x q = if p then o else o ++ [x] := by
  rw [h.1, List.drop_of_length_le (by omega)]
  cases p <;> simp [insV]
def insT (X b f n c i o : Nat) (ua un va vn r : Int) (tQ : Nat) (vQ : Value) (_ : World) : Prop :=
  match tQ with
  | 14 => vQ = .bool false
  | 15 => vQ = .bool true
  | 16 => vQ = .bool true
  | 17 => vQ = .pointer (some ⟨X, 0, none⟩)
  | 18 => vQ = .agg #[.int .i64 ua, .int .i64 un]
  | 19 => vQ = .slice (some ⟨b, f, none⟩) n c
  | 20 => vQ = .int .i64 i
  | 21 => vQ = .pointer (some ⟨b, o, none⟩)
  | 22 => vQ = .pointer (some ⟨b, o, none⟩)
  | 23 => vQ = .agg #[.int .i64 va, .int .i64 vn]
  | 24 => vQ = .int .i64 r
  | 25 => vQ = .bool (decide (r < 0))
  | 26 => vQ = .bool (decide (r < 0))
  | _ => True
theorem insT_mono (X b f n c i o : Nat) (ua un va vn r : Int) (tQ : Nat) (vQ : Value) (W W' : World) (_ : Below W.heap.size W W') (h : insT X b f n c i o ua un va vn r tQ vQ W) : insT X b f n c i o ua un va vn r tQ vQ W' := by
  revert h
  unfold insT
  split <;> (intro h; first | exact h)

set_option maxRecDepth 100000 in
set_option maxHeartbeats 4000000 in
theorem inOrder_any (q : List Uv) (vq : Value) (x : Uv) (w : World) (hV : UpsV w vq q) (hq : q.length ≤ 1000) (hok : ∀ x, x ∈ q → UvOk w x) (hx : UvOk w x) :
    Calls Tryz.prog 50 #[vq, uvVal x] w fun e w' => ∃ v', e = .returned v' ∧ URow w' w.heap.size v' (insV x q) ∧ Below w.heap.size w w' := by
  obtain ⟨i0, hi, hz0, hz1, hz2⟩ := info_parts up_info
  have HOK : Hid (∀ x, x ∈ q → UvOk w x) := hok
  obtain ⟨ao, cap, rfl, _, hA⟩ := hV
  have HA : Hid (UpsAt w ao q) := hA
  obtain ⟨a1, n1, d1, a2, n2, d2, a3, n3, d3, e1, e2, e3⟩ := hx.forms
  have HX : Hid (UvOk w x) := hx
  clear hx hok hA
  obtain ⟨⟨⟨ua, un⟩, ps, says, ts⟩, vp, vs, vt⟩ := x
  dsimp only at *
  subst e1 e2 e3
  have HB1 : Hid (Below w.heap.size w (w.alloc (.cells #[.int .i64 ua, .int .i64 un, .slice a1 n1 d1, .slice a2 n2 d2, .slice a3 n3 d3] 30))) := (Below.refl _ _).alloc (Nat.le_refl _) _
  have HH1 : Hid ((w.alloc (.cells #[.int .i64 ua, .int .i64 un, .slice a1 n1 d1, .slice a2 n2 d2, .slice a3 n3 d3] 30)).heap[w.heap.size]? = some (.cells #[.int .i64 ua, .int .i64 un, .slice a1 n1 d1, .slice a2 n2 d2, .slice a3 n3 d3] 30)) := rl_new w _
  go_enter Tryz.func50, Tryz.ntmps50
  go_upto_region 1 with fail
  generalize w.alloc (.cells #[.int .i64 ua, .int .i64 un, .slice a1 n1 d1, .slice a2 n2 d2, .slice a3 n3 d3] 30) = w1 at *
  have HBX : Hid (∀ z, Below w1.heap.size w1 z → z.cell? ⟨w.heap.size, 0, none⟩ = some (.int .i64 ua) ∧ z.cell? ⟨w.heap.size, 1, none⟩ = some (.int .i64 un) ∧ z.cell? ⟨w.heap.size, 2, none⟩ = some (.slice a1 n1 d1) ∧ z.cell? ⟨w.heap.size, 3, none⟩ = some (.slice a2 n2 d2) ∧ z.cell? ⟨w.heap.size, 4, none⟩ = some (.slice a3 n3 d3)) := fun z hz => by
    have hh1 := (hz.block _ (Array.getElem?_eq_some_iff.1 HH1.out).1).trans HH1.out
    exact ⟨by rw [Lib.cell_of_heap hh1]; rfl, by rw [Lib.cell_of_heap hh1]; rfl, by rw [Lib.cell_of_heap hh1]; rfl, by rw [Lib.cell_of_heap hh1]; rfl, by rw [Lib.cell_of_heap hh1]; rfl⟩
  have HT : Hid (∀ z, Below w1.heap.size w1 z → Below w.heap.size w z) := fun z hz => HB1.out.trans (hz.mono HB1.out.size)
  have hsz1 : w.heap.size ≤ w1.heap.size := HB1.out.size
  clear HH1
  go_wp2_with fail
  go_loopw [5, 6, 7] (fun ov pv iv wr => ∃ (i : Nat) (p : Bool) (o : List Uv), i ≤ q.length ∧ o.length ≤ i + 1 ∧ (p = false → o.length ≤ i) ∧ iv = .int .i64 i ∧ pv = .bool p ∧ Hid (InsI ⟨⟨⟨ua, un⟩, ps, says, ts⟩, .slice a1 n1 d1, .slice a2 n2 d2, .slice a3 n3 d3⟩ q i p o) ∧ URow wr w1.heap.size ov o ∧ Hid (Below w1.heap.size w1 wr)) (fun _ _ iv _ => q.length - (intOf iv).toNat)
  case atStart => exact ⟨0, false, [], Nat.zero_le _, by simp, (fun _ => by simp), rfl, rfl, ⟨rfl, by simp⟩, World.ownsRow_nil _ _ _ _, Below.refl _ _⟩
  case round =>
    obtain ⟨i, p, o, hi', hol, hop, rfl, rfl, HI, hrow, HG⟩ := hrel
    obtain ⟨av, cv, rfl⟩ := own_slice hrow
    have R0 : wr.ownsRow w1.heap.size 30 5 (.slice av o.length cv) o.length (o.map uvCells).flatten := hrow
    clear hrow
    by_cases hlt : i < q.length
    · have g1 : decide (i < q.length) = true := decide_eq_true hlt
      obtain ⟨b, off, rfl, p0, p1, p2, p3, p4⟩ := ups_at (HA.out.kc (Kc.below (HB1.out.trans ((Below.refl _ _).mono HB1.out.size)))) i hlt
      have hy := HOK.out _ (uvD_mem q i hlt)
      have HPA : Hid (p = true → InsI ⟨⟨⟨ua, un⟩, ps, says, ts⟩, .slice a1 n1 d1, .slice a2 n2 d2, .slice a3 n3 d3⟩ q (i + 1) true (o ++ [uvD q i])) := fun e => by subst e; exact HI.out.past hlt
      have HPU : Hid (p = false → Dg.uOrd ⟨⟨ua, un⟩, ps, says, ts⟩ (uvD q i).u < 0 → InsI ⟨⟨⟨ua, un⟩, ps, says, ts⟩, .slice a1 n1 d1, .slice a2 n2 d2, .slice a3 n3 d3⟩ q (i + 1) true (o ++ [⟨⟨⟨ua, un⟩, ps, says, ts⟩, .slice a1 n1 d1, .slice a2 n2 d2, .slice a3 n3 d3⟩] ++ [uvD q i])) := fun e h => by subst e; exact HI.out.put (hop rfl) hlt h
      have HPO : Hid (p = false → ¬ Dg.uOrd ⟨⟨ua, un⟩, ps, says, ts⟩ (uvD q i).u < 0 → InsI ⟨⟨⟨ua, un⟩, ps, says, ts⟩, .slice a1 n1 d1, .slice a2 n2 d2, .slice a3 n3 d3⟩ q (i + 1) false (o ++ [uvD q i])) := fun e h => by subst e; exact HI.out.on hlt h
      obtain ⟨b1, m1, f1, b2, m2, f2, b3, m3, f3, e1, e2, e3⟩ := hy.forms
      have HY : Hid (UvOk w (uvD q i)) := hy
      clear HI hy
      generalize uvD q i = y at *
      obtain ⟨⟨⟨va, vn⟩, ps2, says2, ts2⟩, vp, vs, vt⟩ := y
      dsimp only at *
      subst e1 e2 e3
      have HYC : Hid (∀ z, Below w1.heap.size w1 z → z.cell? ⟨b, off + i * 5, none⟩ = some (.int .i64 va) ∧ z.cell? ⟨b, off + i * 5 + 1, none⟩ = some (.int .i64 vn) ∧ z.cell? ⟨b, off + i * 5 + 2, none⟩ = some (.slice b1 m1 f1) ∧ z.cell? ⟨b, off + i * 5 + 3, none⟩ = some (.slice b2 m2 f2) ∧ z.cell? ⟨b, off + i * 5 + 4, none⟩ = some (.slice b3 m3 f3)) := fun z hz => ⟨cell_below hz p0, cell_below hz p1, cell_below hz p2, cell_below hz p3, cell_below hz p4⟩
      clear p0 p1 p2 p3 p4
      cases p
      · have HU : Hid (∀ z, Below wr.heap.size wr z → z.cell? ⟨w.heap.size, 0, none⟩ = some (.int .i64 ua) ∧ z.cell? ⟨w.heap.size, 1, none⟩ = some (.int .i64 un) ∧ z.cell? ⟨b, off + i * 5, none⟩ = some (.int .i64 va) ∧ z.cell? ⟨b, off + i * 5 + 1, none⟩ = some (.int .i64 vn)) := fun z hz => by
          have h1 := HG.out.trans (hz.mono HG.out.size)
          exact ⟨(HBX.out z h1).1, (HBX.out z h1).2.1, (HYC.out z h1).1, (HYC.out z h1).2.1⟩
        obtain ⟨r9, HR9⟩ : ∃ r, Hid (Wr.idOrd ⟨ua, un⟩ ⟨va, vn⟩ = r) := ⟨_, rfl⟩
        have HPU2 : Hid (r9 < 0 → InsI ⟨⟨⟨ua, un⟩, ps, says, ts⟩, .slice a1 n1 d1, .slice a2 n2 d2, .slice a3 n3 d3⟩ q (i + 1) true (o ++ [⟨⟨⟨ua, un⟩, ps, says, ts⟩, .slice a1 n1 d1, .slice a2 n2 d2, .slice a3 n3 d3⟩] ++ [⟨⟨⟨va, vn⟩, ps2, says2, ts2⟩, .slice b1 m1 f1, .slice b2 m2 f2, .slice b3 m3 f3⟩])) := fun h => HPU.out rfl (by show Wr.idOrd _ _ < 0; rw [HR9.out]; exact h)
        have HPO2 : Hid (¬ r9 < 0 → InsI ⟨⟨⟨ua, un⟩, ps, says, ts⟩, .slice a1 n1 d1, .slice a2 n2 d2, .slice a3 n3 d3⟩ q (i + 1) false (o ++ [⟨⟨⟨va, vn⟩, ps2, says2, ts2⟩, .slice b1 m1 f1, .slice b2 m2 f2, .slice b3 m3 f3⟩])) := fun h => HPO.out rfl (by show ¬ Wr.idOrd _ _ < 0; rw [HR9.out]; exact h)
        have hop2 := hop rfl
        clear HPA HPU HPO hop
        go_upto_region 6 with fail
        refine wp_region_tabA (insT w.heap.size b off q.length cap i (off + i * 5) ua un va vn r9) (by kernel_rfl) (by kernel_rfl) (insT_mono _ _ _ _ _ _ _ _ _ _ _ _) ?hop6 ?hend6
        case hop6 =>
          refine AllOps.cons (fun a y h => ?_) ?_
          · have e6 : a.eval (.tmp 6) = (.bool false : Value) := h.old 6 (by kernel_rfl)
            refine opOk_val (v := .bool false) (w' := y) (wanted_none rfl) ?_ (fun t ht => by cases ht; exact rfl) (Below.refl _ _)
            have ec : ∀ v, a.eval (.const v) = v := fun _ => rfl
            generalize a.eval = ev at *
            clear h
            go_simp
          refine AllOps.cons (fun a y h => ?_) ?_
          · have e14 : a.eval (.tmp 14) = (.bool false : Value) := h.of 14 (by kernel_rfl)
            refine opOk_val (v := .bool true) (w' := y) (wanted_none rfl) ?_ (fun t ht => by cases ht; exact rfl) (Below.refl _ _)
            have ec : ∀ v, a.eval (.const v) = v := fun _ => rfl
            generalize a.eval = ev at *
            clear h
            go_simp
          refine AllOps.cons (fun a y h => ?_) ?_
          · have e15 : a.eval (.tmp 15) = (.bool true : Value) := h.of 15 (by kernel_rfl)
            refine opOk_val (v := .bool true) (w' := y) (wanted_none rfl) ?_ (fun t ht => by cases ht; exact rfl) (Below.refl _ _)
            have ec : ∀ v, a.eval (.const v) = v := fun _ => rfl
            generalize a.eval = ev at *
            clear h
            go_simp
          refine AllOps.cons (fun a y h => ?_) ?_
          · have e3 : a.eval (.tmp 3) = (.pointer (some ⟨w.heap.size, 0, none⟩) : Value) := h.old 3 (by kernel_rfl)
            refine opOk_val (v := .pointer (some ⟨w.heap.size, 0, none⟩)) (w' := y) (wanted_some (j := 2) (t := 16) (b := true) rfl rfl rfl (h.of 16 (by kernel_rfl))) ?_ (fun t ht => by cases ht; exact rfl) (Below.refl _ _)
            have ec : ∀ v, a.eval (.const v) = v := fun _ => rfl
            generalize a.eval = ev at *
            clear h
            go_simp
          refine AllOps.cons (fun a y h => ?_) ?_
          · have e17 : a.eval (.tmp 17) = (.pointer (some ⟨w.heap.size, 0, none⟩) : Value) := h.of 17 (by kernel_rfl)
            obtain ⟨u0, u1, _⟩ := HU.out y h.below
            refine opOk_val (v := .agg #[.int .i64 ua, .int .i64 un]) (w' := y) (wanted_some (j := 2) (t := 16) (b := true) rfl rfl rfl (h.of 16 (by kernel_rfl))) ?_ (fun t ht => by cases ht; exact rfl) (Below.refl _ _)
            have ec : ∀ v, a.eval (.const v) = v := fun _ => rfl
            generalize a.eval = ev at *
            clear h
            go_simp
          refine AllOps.cons (fun a y h => ?_) ?_
          · have e0 : a.eval (.tmp 0) = (.slice (some ⟨b, off, none⟩) q.length cap : Value) := h.old 0 (by kernel_rfl)
            refine opOk_val (v := .slice (some ⟨b, off, none⟩) q.length cap) (w' := y) (wanted_some (j := 2) (t := 16) (b := true) rfl rfl rfl (h.of 16 (by kernel_rfl))) ?_ (fun t ht => by cases ht; exact rfl) (Below.refl _ _)
            have ec : ∀ v, a.eval (.const v) = v := fun _ => rfl
            generalize a.eval = ev at *
            clear h
            go_simp
          refine AllOps.cons (fun a y h => ?_) ?_
          · have e7 : a.eval (.tmp 7) = (.int .i64 i : Value) := h.old 7 (by kernel_rfl)
            refine opOk_val (v := .int .i64 i) (w' := y) (wanted_some (j := 2) (t := 16) (b := true) rfl rfl rfl (h.of 16 (by kernel_rfl))) ?_ (fun t ht => by cases ht; exact rfl) (Below.refl _ _)
            have ec : ∀ v, a.eval (.const v) = v := fun _ => rfl
            generalize a.eval = ev at *
            clear h
            go_simp
          refine AllOps.cons (fun a y h => ?_) ?_
          · have e19 : a.eval (.tmp 19) = (.slice (some ⟨b, off, none⟩) q.length cap : Value) := h.of 19 (by kernel_rfl)
            have e20 : a.eval (.tmp 20) = (.int .i64 i : Value) := h.of 20 (by kernel_rfl)
            refine opOk_val (v := .pointer (some ⟨b, off + i * 5, none⟩)) (w' := y) (wanted_some (j := 2) (t := 16) (b := true) rfl rfl rfl (h.of 16 (by kernel_rfl))) ?_ (fun t ht => by cases ht; exact rfl) (Below.refl _ _)
            have ec : ∀ v, a.eval (.const v) = v := fun _ => rfl
            generalize a.eval = ev at *
            clear h
            go_simp
          refine AllOps.cons (fun a y h => ?_) ?_
          · have e21 : a.eval (.tmp 21) = (.pointer (some ⟨b, off + i * 5, none⟩) : Value) := h.of 21 (by kernel_rfl)
            refine opOk_val (v := .pointer (some ⟨b, off + i * 5, none⟩)) (w' := y) (wanted_some (j := 2) (t := 16) (b := true) rfl rfl rfl (h.of 16 (by kernel_rfl))) ?_ (fun t ht => by cases ht; exact rfl) (Below.refl _ _)
            have ec : ∀ v, a.eval (.const v) = v := fun _ => rfl
            generalize a.eval = ev at *
            clear h
            go_simp
          refine AllOps.cons (fun a y h => ?_) ?_
          · have e22 : a.eval (.tmp 22) = (.pointer (some ⟨b, off + i * 5, none⟩) : Value) := h.of 22 (by kernel_rfl)
            obtain ⟨_, _, u0, u1⟩ := HU.out y h.below
            refine opOk_val (v := .agg #[.int .i64 va, .int .i64 vn]) (w' := y) (wanted_some (j := 2) (t := 16) (b := true) rfl rfl rfl (h.of 16 (by kernel_rfl))) ?_ (fun t ht => by cases ht; exact rfl) (Below.refl _ _)
            have ec : ∀ v, a.eval (.const v) = v := fun _ => rfl
            generalize a.eval = ev at *
            clear h
            go_simp
          refine AllOps.cons (fun a y h => ?_) ?_
          · have e18 : a.eval (.tmp 18) = (.agg #[.int .i64 ua, .int .i64 un] : Value) := h.of 18 (by kernel_rfl)
            have e23 : a.eval (.tmp 23) = (.agg #[.int .i64 va, .int .i64 vn] : Value) := h.of 23 (by kernel_rfl)
            refine opOk_call (f := 40) (args := #[.agg #[.int .i64 ua, .int .i64 un], .agg #[.int .i64 va, .int .i64 vn]]) (wanted_some (j := 2) (t := 16) (b := true) rfl rfl rfl (h.of 16 (by kernel_rfl))) ?_ ?_
            · have ec : ∀ v, a.eval (.const v) = v := fun _ => rfl
              have ef : ∀ f, a.eval (.func f) = .func (.func f) #[] #[] := fun _ => rfl
              generalize a.eval = ev at *
              clear h
              go_simp
            · refine (IdOrder_any ⟨ua, un⟩ ⟨va, vn⟩ y).mono ?_
              rintro e w' ⟨rfl, hb⟩
              exact ⟨_, rfl, fun t ht => by cases ht; show Value.int .i64 _ = Value.int .i64 r9; rw [HR9.out], hb.below⟩
          refine AllOps.cons (fun a y h => ?_) ?_
          · have e24 : a.eval (.tmp 24) = (.int .i64 r9 : Value) := h.of 24 (by kernel_rfl)
            refine opOk_val (v := .bool (decide (r9 < 0))) (w' := y) (wanted_some (j := 2) (t := 16) (b := true) rfl rfl rfl (h.of 16 (by kernel_rfl))) ?_ (fun t ht => by cases ht; exact rfl) (Below.refl _ _)
            have ec : ∀ v, a.eval (.const v) = v := fun _ => rfl
            generalize a.eval = ev at *
            clear h
            go_simp
          refine AllOps.cons (fun a y h => ?_) ?_
          · have e16 : a.eval (.tmp 16) = (.bool true : Value) := h.of 16 (by kernel_rfl)
            have e25 : a.eval (.tmp 25) = (.bool (decide (r9 < 0)) : Value) := h.of 25 (by kernel_rfl)
            refine opOk_val (v := .bool (decide (r9 < 0))) (w' := y) (wanted_none rfl) ?_ (fun t ht => by cases ht; exact rfl) (Below.refl _ _)
            have ec : ∀ v, a.eval (.const v) = v := fun _ => rfl
            generalize a.eval = ev at *
            clear h
            go_simp
          exact AllOps.nil
        rintro ⟨tm, df⟩ wE hbE hdE hszE hstE hTE
        have k26 : tm.getD 26 undef = .bool (decide (r9 < 0)) := ends_at (T := insT w.heap.size b off q.length cap i (off + i * 5) ua un va vn r9) (w := wE) (a := ⟨tm, df⟩) (t := 26) hTE (by kernel_rfl)
        obtain rfl : df = [] := hdE
        clear hTE
        have hF8 := tmps_fold [14, 15, 16, 17, 18, 19, 20, 21, 22, 23, 24, 25, 26] tm _ hszE hstE
        clear hszE hstE
        simp only [List.foldl_cons, List.foldl_nil, k26] at hF8
        clear k26
        generalize tm.getD 14 undef = x14 at hF8
        generalize tm.getD 15 undef = x15 at hF8
        generalize tm.getD 16 undef = x16 at hF8
        generalize tm.getD 17 undef = x17 at hF8
        generalize tm.getD 18 undef = x18 at hF8
        generalize tm.getD 19 undef = x19 at hF8
        generalize tm.getD 20 undef = x20 at hF8
        generalize tm.getD 21 undef = x21 at hF8
        generalize tm.getD 22 undef = x22 at hF8
        generalize tm.getD 23 undef = x23 at hF8
        generalize tm.getD 24 undef = x24 at hF8
        generalize tm.getD 25 undef = x25 at hF8
        simp only [List.setIfInBounds_toArray, List.set_cons_zero, List.set_cons_succ] at hF8
        subst hF8
        have HGE : Hid (Below w1.heap.size w1 wE) := HG.out.trans (hbE.mono HG.out.size)
        have RE := ownsRow_below R0 hbE
        clear hbE HU HG R0 HR9
        obtain ⟨s0, s1, s2, s3, s4⟩ := HBX.out wE HGE.out
        by_cases hr : r9 < 0
        · have g5 : decide (r9 < 0) = true := decide_eq_true hr
          have HE : Hid _ := HPU2.out hr
          clear HPU2 HPO2
          go_upto_region 8 with (at_builtin; refine wp_append_ups (W := w) rfl _ _ rfl w1.heap.size (HGE.out.alloc HGE.out.size _).size _ o rfl (RE.alloc _) (some ⟨wE.heap.size, 0, none⟩) 1 [(⟨⟨⟨ua, un⟩, ps, says, ts⟩, .slice a1 n1 d1, .slice a2 n2 d2, .slice a3 n3 d3⟩ : Uv)] rfl (fun h => by cases h) (ups_one _ _) (one_ok HX.out) (by rw [List.length_singleton]; (try rw [List.length_append, List.length_singleton]); omega) ?_; intro vs8 z8 hown8 hgrow8)
          have hB8 : Below w1.heap.size w1 z8 := (HGE.out.alloc HGE.out.size _).grown hgrow8 (HGE.out.alloc HGE.out.size _).size (fun j e => (RE.lt j e).1)
          obtain ⟨ao8, cap8, rfl⟩ := own_slice hown8
          have R8 : z8.ownsRow w1.heap.size 30 5 (.slice ao8 (o ++ [(⟨⟨⟨ua, un⟩, ps, says, ts⟩, .slice a1 n1 d1, .slice a2 n2 d2, .slice a3 n3 d3⟩ : Uv)]).length cap8) (o ++ [(⟨⟨⟨ua, un⟩, ps, says, ts⟩, .slice a1 n1 d1, .slice a2 n2 d2, .slice a3 n3 d3⟩ : Uv)]).length ((o ++ [(⟨⟨⟨ua, un⟩, ps, says, ts⟩, .slice a1 n1 d1, .slice a2 n2 d2, .slice a3 n3 d3⟩ : Uv)]).map uvCells).flatten := hown8
          have B8 : Hid (Below w1.heap.size w1 z8) := hB8
          clear hB8 hown8 hgrow8
          obtain ⟨t0, t1, t2, t3, t4⟩ := HYC.out z8 B8.out
          clear s0 s1 s2 s3 s4 RE HGE
          go_wp2_with (at_builtin; refine wp_append_ups (W := w) rfl _ _ rfl w1.heap.size (B8.out.alloc B8.out.size _).size _ (o ++ [(⟨⟨⟨ua, un⟩, ps, says, ts⟩, .slice a1 n1 d1, .slice a2 n2 d2, .slice a3 n3 d3⟩ : Uv)]) rfl (R8.alloc _) (some ⟨z8.heap.size, 0, none⟩) 1 [(⟨⟨⟨va, vn⟩, ps2, says2, ts2⟩, .slice b1 m1 f1, .slice b2 m2 f2, .slice b3 m3 f3⟩ : Uv)] rfl (fun h => by cases h) (ups_one _ _) (one_ok HY.out) (by rw [List.length_singleton]; (try rw [List.length_append, List.length_singleton]); omega) ?_; intro vs9 z9 hown9 hgrow9)
          have hB9 : Below w1.heap.size w1 z9 := (B8.out.alloc B8.out.size _).grown hgrow9 (B8.out.alloc B8.out.size _).size (fun j e => (R8.lt j e).1)
          obtain ⟨ao9, cap9, rfl⟩ := own_slice hown9
          have R9 : z9.ownsRow w1.heap.size 30 5 (.slice ao9 ((o ++ [(⟨⟨⟨ua, un⟩, ps, says, ts⟩, .slice a1 n1 d1, .slice a2 n2 d2, .slice a3 n3 d3⟩ : Uv)]) ++ [(⟨⟨⟨va, vn⟩, ps2, says2, ts2⟩, .slice b1 m1 f1, .slice b2 m2 f2, .slice b3 m3 f3⟩ : Uv)]).length cap9) ((o ++ [(⟨⟨⟨ua, un⟩, ps, says, ts⟩, .slice a1 n1 d1, .slice a2 n2 d2, .slice a3 n3 d3⟩ : Uv)]) ++ [(⟨⟨⟨va, vn⟩, ps2, says2, ts2⟩, .slice b1 m1 f1, .slice b2 m2 f2, .slice b3 m3 f3⟩ : Uv)]).length (((o ++ [(⟨⟨⟨ua, un⟩, ps, says, ts⟩, .slice a1 n1 d1, .slice a2 n2 d2, .slice a3 n3 d3⟩ : Uv)]) ++ [(⟨⟨⟨va, vn⟩, ps2, says2, ts2⟩, .slice b1 m1 f1, .slice b2 m2 f2, .slice b3 m3 f3⟩ : Uv)]).map uvCells).flatten := hown9
          have B9 : Hid (Below w1.heap.size w1 z9) := hB9
          clear hB9 hown9 hgrow9
          have RF : Hid (URow z9 w1.heap.size (.slice ao9 (o ++ [(⟨⟨⟨ua, un⟩, ps, says, ts⟩, .slice a1 n1 d1, .slice a2 n2 d2, .slice a3 n3 d3⟩ : Uv)] ++ [(⟨⟨⟨va, vn⟩, ps2, says2, ts2⟩, .slice b1 m1 f1, .slice b2 m2 f2, .slice b3 m3 f3⟩ : Uv)]).length cap9) (o ++ [(⟨⟨⟨ua, un⟩, ps, says, ts⟩, .slice a1 n1 d1, .slice a2 n2 d2, .slice a3 n3 d3⟩ : Uv)] ++ [(⟨⟨⟨va, vn⟩, ps2, says2, ts2⟩, .slice b1 m1 f1, .slice b2 m2 f2, .slice b3 m3 f3⟩ : Uv)])) := R9
          clear R9 R8 B8 t0 t1 t2 t3 t4
          go_wp2_with fail
          go_roundw
          case rel => exact ⟨i + 1, true, _, hlt, by simp; omega, (fun e => by cases e), by go_num, rfl, HE.out, RF.out, B9.out⟩
          case measure => simp [intOf]; omega
        · have g5 : decide (r9 < 0) = false := decide_eq_false hr
          have HE : Hid _ := HPO2.out hr
          clear HPU2 HPO2 s0 s1 s2 s3 s4
          obtain ⟨t0, t1, t2, t3, t4⟩ := HYC.out wE HGE.out
          go_wp2_with (at_builtin; refine wp_append_ups (W := w) rfl _ _ rfl w1.heap.size (HGE.out.alloc HGE.out.size _).size _ o rfl (RE.alloc _) (some ⟨wE.heap.size, 0, none⟩) 1 [(⟨⟨⟨va, vn⟩, ps2, says2, ts2⟩, .slice b1 m1 f1, .slice b2 m2 f2, .slice b3 m3 f3⟩ : Uv)] rfl (fun h => by cases h) (ups_one _ _) (one_ok HY.out) (by rw [List.length_singleton]; (try rw [List.length_append, List.length_singleton]); omega) ?_; intro vs9 z9 hown9 hgrow9)
          have hB9 : Below w1.heap.size w1 z9 := (HGE.out.alloc HGE.out.size _).grown hgrow9 (HGE.out.alloc HGE.out.size _).size (fun j e => (RE.lt j e).1)
          obtain ⟨ao9, cap9, rfl⟩ := own_slice hown9
          have R9 : z9.ownsRow w1.heap.size 30 5 (.slice ao9 (o ++ [(⟨⟨⟨va, vn⟩, ps2, says2, ts2⟩, .slice b1 m1 f1, .slice b2 m2 f2, .slice b3 m3 f3⟩ : Uv)]).length cap9) (o ++ [(⟨⟨⟨va, vn⟩, ps2, says2, ts2⟩, .slice b1 m1 f1, .slice b2 m2 f2, .slice b3 m3 f3⟩ : Uv)]).length ((o ++ [(⟨⟨⟨va, vn⟩, ps2, says2, ts2⟩, .slice b1 m1 f1, .slice b2 m2 f2, .slice b3 m3 f3⟩ : Uv)]).map uvCells).flatten := hown9
          have B9 : Hid (Below w1.heap.size w1 z9) := hB9
          clear hB9 hown9 hgrow9
          have RF : Hid (URow z9 w1.heap.size (.slice ao9 (o ++ [(⟨⟨⟨va, vn⟩, ps2, says2, ts2⟩, .slice b1 m1 f1, .slice b2 m2 f2, .slice b3 m3 f3⟩ : Uv)]).length cap9) (o ++ [(⟨⟨⟨va, vn⟩, ps2, says2, ts2⟩, .slice b1 m1 f1, .slice b2 m2 f2, .slice b3 m3 f3⟩ : Uv)])) := R9
          clear R9 RE HGE t0 t1 t2 t3 t4
          go_wp2_with fail
          go_roundw
          case rel => exact ⟨i + 1, false, _, hlt, by simp; omega, (fun _ => by simp; omega), by go_num, rfl, HE.out, RF.out, B9.out⟩
          case measure => simp [intOf]; omega
      · have HE : Hid _ := HPA.out rfl
        clear HPA HPU HPO hop
        go_upto_region 6 with fail
        go_quiet (fail)
        have HGE : Hid (Below w1.heap.size w1 (wr.drewN nq)) := HG.out.trans ((blw_drewN wr _).mono HG.out.size)
        have RE := ownsRow_below R0 (blw_drewN wr nq)
        clear HG R0
        generalize wr.drewN nq = wE at *
        obtain ⟨t0, t1, t2, t3, t4⟩ := HYC.out wE HGE.out
        go_wp2_with (at_builtin; refine wp_append_ups (W := w) rfl _ _ rfl w1.heap.size (HGE.out.alloc HGE.out.size _).size _ o rfl (RE.alloc _) (some ⟨wE.heap.size, 0, none⟩) 1 [(⟨⟨⟨va, vn⟩, ps2, says2, ts2⟩, .slice b1 m1 f1, .slice b2 m2 f2, .slice b3 m3 f3⟩ : Uv)] rfl (fun h => by cases h) (ups_one _ _) (one_ok HY.out) (by rw [List.length_singleton]; (try rw [List.length_append, List.length_singleton]); omega) ?_; intro vs9 z9 hown9 hgrow9)
        have hB9 : Below w1.heap.size w1 z9 := (HGE.out.alloc HGE.out.size _).grown hgrow9 (HGE.out.alloc HGE.out.size _).size (fun j e => (RE.lt j e).1)
        obtain ⟨ao9, cap9, rfl⟩ := own_slice hown9
        have R9 : z9.ownsRow w1.heap.size 30 5 (.slice ao9 (o ++ [(⟨⟨⟨va, vn⟩, ps2, says2, ts2⟩, .slice b1 m1 f1, .slice b2 m2 f2, .slice b3 m3 f3⟩ : Uv)]).length cap9) (o ++ [(⟨⟨⟨va, vn⟩, ps2, says2, ts2⟩, .slice b1 m1 f1, .slice b2 m2 f2, .slice b3 m3 f3⟩ : Uv)]).length ((o ++ [(⟨⟨⟨va, vn⟩, ps2, says2, ts2⟩, .slice b1 m1 f1, .slice b2 m2 f2, .slice b3 m3 f3⟩ : Uv)]).map uvCells).flatten := hown9
        have B9 : Hid (Below w1.heap.size w1 z9) := hB9
        clear hB9 hown9 hgrow9
        have RF : Hid (URow z9 w1.heap.size (.slice ao9 (o ++ [(⟨⟨⟨va, vn⟩, ps2, says2, ts2⟩, .slice b1 m1 f1, .slice b2 m2 f2, .slice b3 m3 f3⟩ : Uv)]).length cap9) (o ++ [(⟨⟨⟨va, vn⟩, ps2, says2, ts2⟩, .slice b1 m1 f1, .slice b2 m2 f2, .slice b3 m3 f3⟩ : Uv)])) := R9
        clear R9 RE HGE t0 t1 t2 t3 t4
        go_wp2_with fail
        go_roundw
        case rel => exact ⟨i + 1, true, _, hlt, by simp; omega, (fun e => by cases e), by go_num, rfl, HE.out, RF.out, B9.out⟩
        case measure => simp [intOf]; omega
    · have g1 : decide (i < q.length) = false := decide_eq_false hlt
      have HF : Hid (insV ⟨⟨⟨ua, un⟩, ps, says, ts⟩, .slice a1 n1 d1, .slice a2 n2 d2, .slice a3 n3 d3⟩ q = if p then o else o ++ [⟨⟨⟨ua, un⟩, ps, says, ts⟩, .slice a1 n1 d1, .slice a2 n2 d2, .slice a3 n3 d3⟩]) := HI.out.fin hlt
      clear HI
      cases p
      · have HF2 : Hid (insV ⟨⟨⟨ua, un⟩, ps, says, ts⟩, .slice a1 n1 d1, .slice a2 n2 d2, .slice a3 n3 d3⟩ q = o ++ [⟨⟨⟨ua, un⟩, ps, says, ts⟩, .slice a1 n1 d1, .slice a2 n2 d2, .slice a3 n3 d3⟩]) := HF.out
        obtain ⟨s0, s1, s2, s3, s4⟩ := HBX.out wr HG.out
        go_wp2_with (at_builtin; refine wp_append_ups (W := w) rfl _ _ rfl w1.heap.size (HG.out.alloc HG.out.size _).size _ o rfl (R0.alloc _) (some ⟨wr.heap.size, 0, none⟩) 1 [(⟨⟨⟨ua, un⟩, ps, says, ts⟩, .slice a1 n1 d1, .slice a2 n2 d2, .slice a3 n3 d3⟩ : Uv)] rfl (fun h => by cases h) (ups_one _ _) (one_ok HX.out) (by rw [List.length_singleton]; (try rw [List.length_append, List.length_singleton]); omega) ?_; intro vs9 z9 hown9 hgrow9)
        have hB9 : Below w1.heap.size w1 z9 := (HG.out.alloc HG.out.size _).grown hgrow9 (HG.out.alloc HG.out.size _).size (fun j e => (R0.lt j e).1)
        obtain ⟨ao9, cap9, rfl⟩ := own_slice hown9
        have R9 : z9.ownsRow w1.heap.size 30 5 (.slice ao9 (o ++ [(⟨⟨⟨ua, un⟩, ps, says, ts⟩, .slice a1 n1 d1, .slice a2 n2 d2, .slice a3 n3 d3⟩ : Uv)]).length cap9) (o ++ [(⟨⟨⟨ua, un⟩, ps, says, ts⟩, .slice a1 n1 d1, .slice a2 n2 d2, .slice a3 n3 d3⟩ : Uv)]).length ((o ++ [(⟨⟨⟨ua, un⟩, ps, says, ts⟩, .slice a1 n1 d1, .slice a2 n2 d2, .slice a3 n3 d3⟩ : Uv)]).map uvCells).flatten := hown9
        have B9 : Hid (Below w1.heap.size w1 z9) := hB9
        clear hB9 hown9 hgrow9
        have RF : Hid (URow z9 w.heap.size (.slice ao9 (o ++ [(⟨⟨⟨ua, un⟩, ps, says, ts⟩, .slice a1 n1 d1, .slice a2 n2 d2, .slice a3 n3 d3⟩ : Uv)]).length cap9) (insV ⟨⟨⟨ua, un⟩, ps, says, ts⟩, .slice a1 n1 d1, .slice a2 n2 d2, .slice a3 n3 d3⟩ q)) := by
          show URow _ _ _ _
          rw [HF2.out]
          exact rl_own_le R9 hsz1
        clear R9 R0 HG s0 s1 s2 s3 s4
        go_wp2_with fail
        go_ret
        exact ⟨_, rfl, RF.out, HT.out _ B9.out⟩
      · have HF2 : Hid (insV ⟨⟨⟨ua, un⟩, ps, says, ts⟩, .slice a1 n1 d1, .slice a2 n2 d2, .slice a3 n3 d3⟩ q = o) := HF.out
        have RF : Hid (URow wr w.heap.size (.slice av o.length cv) (insV ⟨⟨⟨ua, un⟩, ps, says, ts⟩, .slice a1 n1 d1, .slice a2 n2 d2, .slice a3 n3 d3⟩ q)) := by
          show URow _ _ _ _
          rw [HF2.out]
          exact rl_own_le R0 hsz1
        clear R0
        go_wp2_with fail
        go_ret
        exact ⟨_, rfl, RF.out, HT.out _ HG.out⟩
end Go.Proofs.YtmfaodapofamfaaGreat

/- What the document's AddOf does, plain; and a box that is written. -/
namespace Go.Proofs.YtmfaodapofamfaaGreat
open Go.RowKit

namespace Dg
open Wr
def put (c : List Up) (x : Up) : List Up := ins x c
end Dg
/-- What one round has done so far. -/
structure PassJ (c q : List Uv) (k : Nat) (c' l' : List Uv) (mv : Bool) : Prop where
  pass : Dg.pass Dg.put (ups c) (ups q) = ((Dg.pass Dg.put (ups c') (ups (q.drop k))).1, ups l' ++ (Dg.pass Dg.put (ups c') (ups (q.drop k))).2)
  perm : (c' ++ l' ++ q.drop k).Perm (c ++ q)
  no : mv = false → l'.length = k
  yes : mv = true → l'.length < k
theorem PassJ.start (c q : List Uv) : PassJ c q 0 c [] false := ⟨rfl, by simp, fun _ => rfl, fun h => by cases h⟩
theorem PassJ.le {c q c' l' : List Uv} {k : Nat} {mv : Bool} (h : PassJ c q k c' l' mv) : l'.length ≤ k := by
  cases mv with
  | false => exact Nat.le_of_eq (h.no rfl)
  | true => exact Nat.le_of_lt (h.yes rfl)
theorem PassJ.move {c q c' l' : List Uv} {k : Nat} {mv : Bool} (h : PassJ c q k c' l' mv) (hk : k < q.length) (hc : Dg.carry (ups c') (uvD q k).u = true) : PassJ c q (k + 1) (insV (uvD q k) c') l' true := by
  refine ⟨?_, ?_, (fun e => by cases e), fun _ => by have := h.le; omega⟩
  · rw [h.pass, uvD_drop q k hk]
    have e : ups (uvD q k :: q.drop (k + 1)) = (uvD q k).u :: ups (q.drop (k + 1)) := rfl
    rw [e, Dg.pass_yes hc, ups_insV]
    rfl
  · refine List.Perm.trans ?_ h.perm
    rw [uvD_drop q k hk]
    generalize uvD q k = x
    generalize q.drop (k + 1) = r
    rw [List.append_assoc, List.append_assoc]
    refine ((insV_perm x c').append_right (l' ++ r)).trans ?_
    refine List.Perm.trans ?_ (List.Perm.append_left c' (List.perm_middle (a := x) (l₁ := l') (l₂ := r)).symm)
    exact (List.perm_middle (a := x) (l₁ := c') (l₂ := l' ++ r)).symm
theorem PassJ.stay {c q c' l' : List Uv} {k : Nat} {mv : Bool} (h : PassJ c q k c' l' mv) (hk : k < q.length) (hc : Dg.carry (ups c') (uvD q k).u = false) : PassJ c q (k + 1) c' (l' ++ [uvD q k]) mv := by
  refine ⟨?_, ?_, fun e => by rw [List.length_append, h.no e]; rfl, fun e => by rw [List.length_append]; have := h.yes e; simp; omega⟩
  · rw [h.pass, uvD_drop q k hk]
    have e : ups (uvD q k :: q.drop (k + 1)) = (uvD q k).u :: ups (q.drop (k + 1)) := rfl
    rw [e, Dg.pass_no hc, ups_append, List.append_assoc]
    rfl
  · refine List.Perm.trans ?_ h.perm
    rw [uvD_drop q k hk]
    simp only [List.append_assoc, List.cons_append, List.nil_append]
    exact List.Perm.refl _
/-- What stands between two rounds. -/
structure AddJ (h0 q0 c q : List Uv) (mv : Bool) : Prop where
  set : Dg.settle Dg.put (ups h0) (ups q0) = if mv then Dg.settle Dg.put (ups c) (ups q) else (ups c, ups q)
  perm : (c ++ q).Perm (h0 ++ q0)
theorem PassJ.fin {h0 q0 c q c' l' : List Uv} {k : Nat} {mv : Bool} (ha : AddJ h0 q0 c q true) (h : PassJ c q k c' l' mv) (hk : ¬ k < q.length) (hk2 : k ≤ q.length) : AddJ h0 q0 c' l' mv ∧ (mv = true → l'.length < q.length) ∧ l'.length ≤ q.length := by
  have e : q.drop k = [] := List.drop_of_length_le (by omega)
  have h1 := h.pass
  have h2 := h.perm
  rw [e] at h1 h2
  rw [List.append_nil] at h2
  have h3 : Dg.pass Dg.put (ups c) (ups q) = (ups c', ups l') := by
    rw [h1]
    show (ups c', ups l' ++ []) = _
    rw [List.append_nil]
  refine ⟨⟨?_, h2.trans ha.perm⟩, fun e => by have := h.yes e; omega, by have := h.le; omega⟩
  have h4 : Dg.settle Dg.put (ups h0) (ups q0) = Dg.settle Dg.put (ups c) (ups q) := ha.set
  cases mv with
  | false =>
    have h5 := h.no rfl
    rw [h4, Dg.settle_end (by rw [h3]; show (ups l').length = _; rw [ups_length, ups_length]; omega), h3]
    rfl
  | true =>
    have h5 := h.yes rfl
    rw [h4, Dg.settle_on (by rw [h3]; show ¬ (ups l').length = _; rw [ups_length, ups_length]; omega), h3]
    rfl
/-- What AddOf answers. -/
def AddR (hq wq : List Uv) (x : Uv) (c l : List Uv) (b : Bool) : Prop :=
  (Dg.hasU (ups hq ++ ups wq) x.u.id = true ∧ b = true ∧ c = hq ∧ l = wq) ∨
  (Dg.hasU (ups hq ++ ups wq) x.u.id = false ∧ 200 ≤ hq.length + wq.length ∧ b = false ∧ c = [] ∧ l = []) ∨
  (Dg.hasU (ups hq ++ ups wq) x.u.id = false ∧ hq.length + wq.length < 200 ∧ b = true ∧ Dg.settle Dg.put (ups hq) (Dg.ins x.u (ups wq)) = (ups c, ups l))
/-- All but two blocks stand. -/
def Kb (g r : Nat) (w z : World) : Prop := w.heap.size ≤ z.heap.size ∧ ∀ j, j < w.heap.size → j ≠ g → j ≠ r → z.heap[j]? = w.heap[j]?
theorem Kb.refl (g r : Nat) (w : World) : Kb g r w w := ⟨Nat.le_refl _, fun _ _ _ _ => rfl⟩
theorem Kb.trans {g r : Nat} {a b c : World} (h : Kb g r a b) (k : Kb g r b c) : Kb g r a c := ⟨Nat.le_trans h.1 k.1, fun j hj h1 h2 => (k.2 j (Nat.lt_of_lt_of_le hj h.1) h1 h2).trans (h.2 j hj h1 h2)⟩
theorem Kb.left {g r : Nat} {w z : World} (h : w.grownBy z (some g)) : Kb g r w z := ⟨h.size, fun j hj h1 _ => h.block j hj (fun e => h1 (by injection e))⟩
theorem Kb.right {g r : Nat} {w z : World} (h : w.grownBy z (some r)) : Kb g r w z := ⟨h.size, fun j hj _ h2 => h.block j hj (fun e => h2 (by injection e))⟩
theorem Kb.below {g r : Nat} {w z : World} (h : Below w.heap.size w z) : Kb g r w z := ⟨h.size, fun j hj _ _ => h.block j hj⟩
/-- A row that stands where the boxes g and r are written. -/
def RowS (g r : Nat) (wr : World) (v : Value) (c : List Uv) : Prop := ∀ z, Kb g r wr z → UpsV z v c
theorem RowS.here {g r : Nat} {wr : World} {v : Value} {c : List Uv} (h : RowS g r wr v c) : UpsV wr v c := h wr (Kb.refl _ _ _)
theorem RowS.on {g r : Nat} {wr z : World} {v : Value} {c : List Uv} (h : RowS g r wr v c) (hg : Kb g r wr z) : RowS g r z v c := fun y hy => h y (hg.trans hy)
theorem rowS_old {w wr : World} {g r : Nat} {v : Value} {c : List Uv} (h : UpsV w v c) (hb : Below w.heap.size w wr) (hg : w.heap.size ≤ g) (hr : w.heap.size ≤ r) : RowS g r wr v c := fun z hz => by
  refine h.kc (fun b o u e => ?_)
  have hlt := cell_lt e
  rw [cell_heap ((hz.2 b (Nat.lt_of_lt_of_le hlt hb.size) (by omega) (by omega)).trans (hb.block b hlt))]
  exact e
theorem rowS_own {wr : World} {B g r : Nat} {v : Value} {c : List Uv} {a a2 : Array Value} (h : URow wr B v c) (hg : wr.heap[g]? = some (.cells a 24)) (hr : wr.heap[r]? = some (.cells a2 24)) : RowS g r wr v c := fun z hz => by
  refine own_ups (B := B) ⟨h.1, ?_⟩
  rcases h.2 with e | ⟨k, cap, cur, e, hB, hk, hrest⟩
  · exact .inl e
  · have ne : ∀ (j : Nat) (u : Array Value), wr.heap[j]? = some (.cells u 24) → k ≠ j := fun j u hj e2 => by
      subst e2
      rw [hk] at hj
      injection hj with hj
      injection hj with _ h2
      cases h2
    exact .inr ⟨k, cap, cur, e, hB, (hz.2 k (Array.getElem?_eq_some_iff.1 hk).1 (ne g a hg) (ne r a2 hr)).trans hk, hrest⟩
theorem own_first {w : World} {B : Nat} {v : Value} {c : List Uv} (h : URow w B v c) (hc : c ≠ []) : ∃ k, v.ownBlock = some k ∧ w.cell? ⟨k, 0, none⟩ = some (.int .i64 (uvD c 0).u.id.a) ∧ w.cell? ⟨k, 1, none⟩ = some (.int .i64 (uvD c 0).u.id.n) := by
  have hl : 0 < c.length := List.length_pos_iff.mpr hc
  obtain ⟨ao, cap, e, _, hA⟩ := own_ups h
  rcases h.2 with ⟨_, e2⟩ | ⟨k, cap2, cur, e2, _, _, _⟩
  · omega
  · rw [e2] at e
    injection e with e3 _ _
    subst e3
    obtain ⟨b, off, e4, h0, h1, _⟩ := ups_at hA 0 hl
    injection e4 with e5
    injection e5 with e6 e7 _
    subst e6 e7
    exact ⟨k, by rw [e2]; rfl, h0, h1⟩
theorem own_apart {w : World} {B B' : Nat} {v v' : Value} {c l : List Uv} (h : URow w B v c) (h' : URow w B' v' l) (hc : c ≠ []) (hl : l ≠ []) (hn : ((ups (c ++ l)).map Wr.Up.id).Nodup) : v.ownBlock ≠ v'.ownBlock := by
  obtain ⟨k, e1, a0, a1⟩ := own_first h hc
  obtain ⟨k', e2, b0, b1⟩ := own_first h' hl
  intro e
  rw [e1, e2] at e
  injection e with e
  subst e
  rw [a0] at b0
  rw [a1] at b1
  injection b0 with b0
  injection b0 with _ b0
  injection b1 with b1
  injection b1 with _ b1
  rw [ups_append, List.map_append, List.nodup_append] at hn
  have m1 : (uvD c 0).u.id ∈ (ups c).map Wr.Up.id := List.mem_map.mpr ⟨_, List.mem_map.mpr ⟨_, uvD_mem c 0 (List.length_pos_iff.mpr hc), rfl⟩, rfl⟩
  have m2 : (uvD l 0).u.id ∈ (ups l).map Wr.Up.id := List.mem_map.mpr ⟨_, List.mem_map.mpr ⟨_, uvD_mem l 0 (List.length_pos_iff.mpr hl), rfl⟩, rfl⟩
  refine hn.2.2 _ m1 _ m2 ?_
  generalize (uvD c 0).u.id = x at *
  generalize (uvD l 0).u.id = y at *
  obtain ⟨xa, xn⟩ := x
  obtain ⟨ya, yn⟩ := y
  dsimp only at b0 b1
  rw [b0, b1]
/-- Has, while others are put behind another row. -/
def HasS (g r : Nat) (wO wr : World) (v : Value) (c : List Uv) : Prop := RowS g r wO v c ∨ (c ≠ [] ∧ URow wr wO.heap.size v c)
theorem HasS.row {g r : Nat} {wO wr : World} {v : Value} {c : List Uv} {a a2 : Array Value} (h : HasS g r wO wr v c) (hk : Kb g r wO wr) (hg : wr.heap[g]? = some (.cells a 24)) (hr : wr.heap[r]? = some (.cells a2 24)) : RowS g r wr v c := by
  rcases h with h | ⟨_, h⟩
  · exact h.on hk
  · exact rowS_own h hg hr
theorem HasS.on {g r : Nat} {wO wr z : World} {v : Value} {c : List Uv} (h : HasS g r wO wr v c) (hb : Below wr.heap.size wr z) : HasS g r wO z v c := by
  rcases h with h | ⟨h1, h⟩
  · exact .inl h
  · exact .inr ⟨h1, ownsRow_below h hb⟩
theorem HasS.app {g r B : Nat} {wO wr z : World} {v lv : Value} {c l : List Uv} (h : HasS g r wO wr v c) (hrow : URow wr B lv l) (hnil : l = [] → lv = .slice none 0 0) (hg : wr.grownBy z lv.ownBlock) (hn : ((ups (c ++ l)).map Wr.Up.id).Nodup) : HasS g r wO z v c := by
  rcases h with h | ⟨h1, h⟩
  · exact .inl h
  · refine .inr ⟨h1, h.kept hg (.inr ?_)⟩
    by_cases hl : l = []
    · rw [hnil hl]
      obtain ⟨k, e, _⟩ := own_first h h1
      rw [e]
      exact fun e2 => by cases e2
    · exact own_apart h hrow h1 hl hn
theorem Kb.app {g r : Nat} {wO wr z : World} {o : Option Nat} (h : Kb g r wO wr) (hg : wr.grownBy z o) (ho : ∀ j, o = some j → wO.heap.size ≤ j) : Kb g r wO z :=
  ⟨Nat.le_trans h.1 hg.size, fun j hj h1 h2 => (hg.block j (Nat.lt_of_lt_of_le hj h.1) (fun e => by have := ho j e.symm; omega)).trans (h.2 j hj h1 h2)⟩
def lenAt : Option Value → Nat
  | some (.slice _ n _) => n
  | _ => 0
end Go.Proofs.YtmfaodapofamfaaGreat

/- Add and AddOf answer the same, plain. -/
namespace Go.Proofs.YtmfaodapofamfaaGreat

theorem add_tells {hq wq : List Uv} {x : Uv} {c l R1 R2 : List Uv} {b : Bool} (o : Dg.Ok (ups hq) (ups wq)) (hu : Wr.check x.u = 0) (hA : AddR hq wq x c l b)
    (h0 : Dg.addErr (ups hq) (ups wq) x.u = 0 → Dg.Is (Dg.more (ups hq ++ ups wq) x.u) (ups R1) (ups R2)) :
    Dg.addErr (ups hq) (ups wq) x.u = (if b then 0 else 2) ∧ (b = true → ups R1 = ups c ∧ ups R2 = ups l) := by
  have hc : Dg.check (ups hq) (ups wq) = 0 := Dg.check_ok.mpr o
  have hm1 : Dg.hasU (ups hq ++ ups wq) x.u.id = true → (Dg.more (ups hq ++ ups wq) x.u).length = hq.length + wq.length := fun h => by
    unfold Dg.more
    rw [if_pos h, List.length_append, ups_length, ups_length]
  have hm2 : Dg.hasU (ups hq ++ ups wq) x.u.id = false → (Dg.more (ups hq ++ ups wq) x.u).length = hq.length + wq.length + 1 := fun h => by
    unfold Dg.more
    rw [if_neg (by simp [h]), List.length_append, List.length_append, ups_length, ups_length]
    rfl
  have hf := o.few
  rw [ups_length, ups_length] at hf
  rcases hA with ⟨ha, rfl, rfl, rfl⟩ | ⟨ha, hl, rfl, rfl, rfl⟩ | ⟨ha, hl, rfl, hs⟩
  · have e : Dg.addErr (ups c) (ups l) x.u = 0 := by
      have h9 := hm1 ha
      simp [Dg.addErr, hc, hu]
      omega
    refine ⟨e, fun _ => ?_⟩
    have h1 := h0 e
    have hm : Dg.more (ups c ++ ups l) x.u = ups c ++ ups l := by
      unfold Dg.more
      rw [ha]
      rfl
    rw [hm] at h1
    exact h1.one o.is
  · have e : Dg.addErr (ups hq) (ups wq) x.u = 2 := by
      have h9 := hm2 ha
      simp [Dg.addErr, hc, hu]
      omega
    exact ⟨e, fun h => by cases h⟩
  · have e : Dg.addErr (ups hq) (ups wq) x.u = 0 := by
      have h9 := hm2 ha
      simp [Dg.addErr, hc, hu]
      omega
    refine ⟨e, fun _ => ?_⟩
    have h1 := h0 e
    have h2 := Dg.is_add o ha
    have h3 : Dg.settle (fun c x => Dg.ins x c) (ups hq) (Dg.ins x.u (ups wq)) = (ups c, ups l) := hs
    rw [h3] at h2
    exact h1.one h2
end Go.Proofs.YtmfaodapofamfaaGreat

/- Many updates added, plain. -/
namespace Go.Proofs.YtmfaodapofamfaaGreat
namespace Dg
open Wr (Up)

def mores (l us : List Up) : List Up := us.foldl more l
theorem mores_snoc (l us : List Up) (u : Up) : mores l (us ++ [u]) = more (mores l us) u := by
  unfold mores
  rw [List.foldl_append]
  rfl
theorem hasU_congr {l m : List Up} (h : ∀ u, u ∈ l ↔ u ∈ m) (x : Wr.Id) : hasU l x = hasU m x := by
  rw [Bool.eq_iff_iff, hasU_iff, hasU_iff]
  exact ⟨fun ⟨u, h1, h2⟩ => ⟨u, (h u).mp h1, h2⟩, fun ⟨u, h1, h2⟩ => ⟨u, (h u).mpr h1, h2⟩⟩
theorem more_congr {l m : List Up} (h : ∀ u, u ∈ l ↔ u ∈ m) (u : Up) : ∀ v, v ∈ more l u ↔ v ∈ more m u := fun v => by
  rw [more_mem, more_mem, hasU_congr h, h]
theorem mores_nodup : ∀ {us l : List Up}, (l.map Up.id).Nodup → ((mores l us).map Up.id).Nodup
  | [], _, h => h
  | u :: us, l, h => mores_nodup (us := us) (l := more l u) (more_nodup h)
theorem more_len (l : List Up) (u : Up) : (more l u).length ≤ l.length + 1 := by
  unfold more
  split
  · omega
  · rw [List.length_append]; exact Nat.le_refl _
theorem mores_len : ∀ (us l : List Up), (mores l us).length ≤ l.length + us.length
  | [], _ => Nat.le_refl _
  | u :: us, l => by
    have h1 := mores_len us (more l u)
    have h2 := more_len l u
    rw [List.length_cons]
    show (mores (more l u) us).length ≤ _
    omega
theorem mores_mem : ∀ {us l : List Up}, (us.map Up.id).Nodup → ∀ v, v ∈ mores l us ↔ v ∈ l ∨ (hasU l v.id = false ∧ v ∈ us)
  | [], l, _, v => by simp [mores]
  | u :: us, l, hn, v => by
    rw [List.map_cons, List.nodup_cons] at hn
    show v ∈ mores (more l u) us ↔ _
    rw [mores_mem hn.2, more_mem]
    have hne : v ∈ us → v.id ≠ u.id := fun hv he => hn.1 (by rw [← he]; exact List.mem_map_of_mem hv)
    have hh : v.id ≠ u.id → hasU (more l u) v.id = hasU l v.id := fun hne => by
      rw [Bool.eq_iff_iff, hasU_iff, hasU_iff]
      constructor
      · rintro ⟨x, hx, e⟩
        rcases more_mem.mp hx with hx | ⟨_, rfl⟩
        · exact ⟨x, hx, e⟩
        · exact absurd e.symm hne
      · rintro ⟨x, hx, e⟩
        exact ⟨x, more_mem.mpr (.inl hx), e⟩
    rw [List.mem_cons]
    constructor
    · rintro ((h | ⟨h, rfl⟩) | ⟨h1, h2⟩)
      · exact .inl h
      · exact .inr ⟨h, .inl rfl⟩
      · exact .inr ⟨by rw [hh (hne h2)] at h1; exact h1, .inr h2⟩
    · rintro (h | ⟨h, rfl | h2⟩)
      · exact .inl (.inl h)
      · exact .inl (.inr ⟨h, rfl⟩)
      · exact .inr ⟨by rw [hh (hne h2)]; exact h, h2⟩
theorem mores_perm {us vs l : List Up} (hp : us.Perm vs) (hn : (us.map Up.id).Nodup) : ∀ v, v ∈ mores l us ↔ v ∈ mores l vs := fun v => by
  rw [mores_mem hn, mores_mem ((hp.map Up.id).nodup_iff.mp hn), hp.mem_iff]
theorem mores_check {us l : List Up} (h1 : ∀ u, u ∈ l → Wr.check u = 0) (h2 : ∀ u, u ∈ us → Wr.check u = 0) : ∀ u, u ∈ mores l us → Wr.check u = 0 := by
  induction us generalizing l with
  | nil => exact h1
  | cons x us ih =>
    refine ih (l := more l x) (fun u hu => ?_) (fun u hu => h2 u (List.mem_cons_of_mem _ hu))
    rcases more_mem.mp hu with h | ⟨_, rfl⟩
    · exact h1 u h
    · exact h2 u (by simp)
/-- What stands when the first of us have been added. -/
theorem Is.on {all h w : List Up} {u : Up} (hi : Is all h w) {h' w' : List Up} (hn : Is (more (h ++ w) u) h' w') : Is (more all u) h' w' :=
  hn.congr (more_congr (fun v => by rw [List.mem_append]; exact hi.parts.mem v) u)
theorem Is.len {all h w : List Up} (hi : Is all h w) (hn : (all.map Up.id).Nodup) (hA : ((h ++ w).map Up.id).Nodup) : h.length + w.length = all.length := by
  have hp : ((h ++ w).map Up.id).Perm (all.map Up.id) := (List.perm_ext_iff_of_nodup hA hn).mpr fun x => by
    simp only [List.mem_map]
    constructor
    · rintro ⟨u, hu, e⟩
      exact ⟨u, (hi.parts.mem u).mp (List.mem_append.mp hu), e⟩
    · rintro ⟨u, hu, e⟩
      exact ⟨u, List.mem_append.mpr ((hi.parts.mem u).mpr hu), e⟩
  have := hp.length_eq
  rw [List.length_map, List.length_map, List.length_append] at this
  exact this
theorem Is.nd {all h w : List Up} (hi : Is all h w) (hA : Apart all) : ((h ++ w).map Up.id).Nodup := by
  refine nodup_app hi.rh hi.rw_ fun u hu => ?_
  rcases hb : hasU h u.id with _ | _
  · rfl
  · obtain ⟨v, hv, e⟩ := hasU_iff.mp hb
    have h1 := (hi.parts.mem v).mp (.inl hv)
    have h2 := (hi.parts.mem u).mp (.inr hu)
    have e2 := hA v u h1 h2 e
    subst e2
    exact absurd ((hi.parts.1 v).mp hv).2 ((hi.parts.2 v).mp hu).2
theorem Is.okN {all h w : List Up} (hi : Is all h w) (hn : (all.map Up.id).Nodup) (he : ∀ u, u ∈ all → Wr.check u = 0) (hl : all.length ≤ 200) : Ok h w :=
  hi.ok (apart_of_nodup hn) he (by rw [hi.len hn (hi.nd (apart_of_nodup hn))]; exact hl)
theorem nodup_id {l : List Up} (h : (l.map Up.id).Nodup) : l.Nodup := by
  induction l with
  | nil => exact List.nodup_nil
  | cons a l ih =>
    rw [List.map_cons, List.nodup_cons] at h
    exact List.nodup_cons.mpr ⟨fun ha => h.1 (List.mem_map_of_mem ha), ih h.2⟩
theorem len_sub {α : Type} : ∀ {l m : List α}, l.Nodup → (∀ x, x ∈ l → x ∈ m) → l.length ≤ m.length
  | [], _, _, _ => Nat.zero_le _
  | a :: l, m, h, hs => by
    rw [List.nodup_cons] at h
    obtain ⟨p, q, rfl⟩ := List.append_of_mem (hs a (by simp))
    have := len_sub (l := l) (m := p ++ q) h.2 (fun x hx => by
      have h1 := hs x (List.mem_cons_of_mem _ hx)
      rcases List.mem_append.mp h1 with h2 | h2
      · exact List.mem_append.mpr (.inl h2)
      · rcases List.mem_cons.mp h2 with rfl | h3
        · exact absurd hx h.1
        · exact List.mem_append.mpr (.inr h3))
    rw [List.length_append] at this
    rw [List.length_append, List.length_cons, List.length_cons]
    omega
theorem perm_of {us vs : List Up} (hu : (us.map Up.id).Nodup) (hv : (vs.map Up.id).Nodup) (h1 : ∀ v, v ∈ vs → v ∈ us) (h2 : ∀ u, u ∈ us → hasU vs u.id = true) : us.Perm vs :=
  (List.perm_ext_iff_of_nodup (nodup_id hu) (nodup_id hv)).mpr fun u => ⟨fun h => by
    obtain ⟨v, hv, e⟩ := hasU_iff.mp (h2 u h)
    rw [← apart_of_nodup hu v u (h1 v hv) h e]
    exact hv, h1 u⟩
theorem nodup_snoc {l : List Up} {u : Up} (h : (l.map Up.id).Nodup) (hn : hasU l u.id = false) : ((l ++ [u]).map Up.id).Nodup := by
  have := more_nodup (u := u) h
  unfold more at this
  rw [if_neg (by rw [hn]; simp)] at this
  exact this
end Dg
end Go.Proofs.YtmfaodapofamfaaGreat

