/- Own texts, one behind the other (part 5). -/
import Derived.Test.YtmfaodapofamfaaBundleD
import Derived.Test.YtmfaodapofamfaaRows
import Derived.Laws.BitsAllLaws
import Derived.Lib.BufferMore
import Derived.Deep.RegionHeld3
import Derived.Laws.EntriesVeiled
import Derived.Deep.RegionWith
import Derived.Deep.Cut
import Derived.Laws.IdiomStrings
import Derived.Laws.Strings2
/- The search for an id. -/
namespace Go.Proofs.Ytmfaodapofamfaa
open Go.RowKit

set_option maxRecDepth 100000 in
set_option maxHeartbeats 1000000 in
theorem cmpId_any (x : Uv) (y : Wr.Id) (w : World) (hx : UvOk w x) : Calls Try.prog 31 #[uvVal x, idVal y] w fun e w' => e = .returned (.int .i64 (Wr.idOrd x.u.id y)) ∧ Below w.heap.size w w' := by
  obtain ⟨b1, m1, f1, b2, m2, f2, b3, m3, f3, e1, e2, e3⟩ := hx.forms
  obtain ⟨⟨⟨va, vn⟩, ps, says, ts⟩, vp, vs, vt⟩ := x
  obtain ⟨ya, yn⟩ := y
  dsimp only at e1 e2 e3 ⊢
  subst e1 e2 e3
  have HO : Hid (∀ z, Calls Try.prog 32 #[idVal ⟨va, vn⟩, idVal ⟨ya, yn⟩] z fun e w' => e = .returned (.int .i64 (Wr.idOrd ⟨va, vn⟩ ⟨ya, yn⟩)) ∧ Gr z w') := fun z => uOrder_any ⟨va, vn⟩ ⟨ya, yn⟩ z
  have hg : Gr w ((w.alloc (.cells #[.int .i64 va, .int .i64 vn, .slice b1 m1 f1, .slice b2 m2 f2, .slice b3 m3 f3] 34)).alloc (.cells #[.int .i64 ya, .int .i64 yn] 30)) := ((Gr.refl w).alloc _).alloc _
  clear hx
  go_enter Try.func31, Try.ntmps31
  go_wp2_with fail
  refine Calls.mono (HO.out _) ?_
  rintro _ w3 ⟨rfl, hg3⟩
  have hh := (hg.trans hg3).below
  clear hg hg3 HO
  go_wp2_with fail
  go_ret
  exact ⟨rfl, hh⟩
def bsT5 (b f n c m o : Nat) (va vn : Int) (b1 : Option Addr) (m1 f1 : Nat) (b2 : Option Addr) (m2 f2 : Nat) (b3 : Option Addr) (m3 f3 : Nat) (xa xn r : Int) (hb : Bool) (tQ : Nat) (vQ : Value) (_ : World) : Prop :=
  match tQ with
  | 24 => vQ = .func (.func 31) #[] #[]
  | 25 => vQ = .slice (some ⟨b, f, none⟩) n c
  | 26 => vQ = .int .i64 m
  | 27 => vQ = .pointer (some ⟨b, o, none⟩)
  | 28 => vQ = .agg #[.int .i64 va, .int .i64 vn, .slice b1 m1 f1, .slice b2 m2 f2, .slice b3 m3 f3]
  | 29 => vQ = .agg #[.int .i64 xa, .int .i64 xn]
  | 30 => vQ = .int .i64 r
  | 31 => vQ = .bool hb
  | _ => True
theorem bsT5_mono (b f n c m o : Nat) (va vn : Int) (b1 : Option Addr) (m1 f1 : Nat) (b2 : Option Addr) (m2 f2 : Nat) (b3 : Option Addr) (m3 f3 : Nat) (xa xn r : Int) (hb : Bool) (tQ : Nat) (vQ : Value) (W W' : World) (_ : Below W.heap.size W W') (h : bsT5 b f n c m o va vn b1 m1 f1 b2 m2 f2 b3 m3 f3 xa xn r hb tQ vQ W) : bsT5 b f n c m o va vn b1 m1 f1 b2 m2 f2 b3 m3 f3 xa xn r hb tQ vQ W' := by
  revert h
  unfold bsT5
  split <;> (intro h; first | exact h)
def bsT8 (b f n c m o : Nat) (va vn : Int) (b1 : Option Addr) (m1 f1 : Nat) (b2 : Option Addr) (m2 f2 : Nat) (b3 : Option Addr) (m3 f3 : Nat) (xa xn r : Int) (hb : Bool) (tQ : Nat) (vQ : Value) (_ : World) : Prop :=
  match tQ with
  | 35 => vQ = .int .i64 m
  | 36 => vQ = .int .i64 m
  | 37 => vQ = .int .i64 n
  | 38 => vQ = .bool true
  | 39 => vQ = .bool true
  | 40 => vQ = .func (.func 31) #[] #[]
  | 41 => vQ = .slice (some ⟨b, f, none⟩) n c
  | 42 => vQ = .int .i64 m
  | 43 => vQ = .pointer (some ⟨b, o, none⟩)
  | 44 => vQ = .agg #[.int .i64 va, .int .i64 vn, .slice b1 m1 f1, .slice b2 m2 f2, .slice b3 m3 f3]
  | 45 => vQ = .agg #[.int .i64 xa, .int .i64 xn]
  | 46 => vQ = .int .i64 r
  | 47 => vQ = .bool hb
  | 48 => vQ = .bool hb
  | 6 => vQ = .int .i64 m
  | 7 => vQ = .bool hb
  | _ => True
theorem bsT8_same {b f n c m o : Nat} {va vn : Int} {b1 : Option Addr} {m1 f1 : Nat} {b2 : Option Addr} {m2 f2 : Nat} {b3 : Option Addr} {m3 f3 : Nat} {xa xn r : Int} {hb : Bool} {t : Nat} {v : Value} {W W2 : World} (h : bsT8 b f n c m o va vn b1 m1 f1 b2 m2 f2 b3 m3 f3 xa xn r hb t v W) : bsT8 b f n c m o va vn b1 m1 f1 b2 m2 f2 b3 m3 f3 xa xn r hb t v W2 := h

set_option maxRecDepth 100000 in
set_option maxHeartbeats 4000000 in
theorem search_any (q : List Uv) (x : Wr.Id) (v : Value) (w : World) (hV : UpsV w v q) (hl : q.length ≤ 1000) (hok : ∀ y, y ∈ q → UvOk w y) (hr : Wr.rise Dg.uOrd (ups q) = true) :
    Calls Try.prog 30 #[v, idVal x, .func (.func 31) #[] #[]] w fun e w' => ∃ (r : Nat) (b : Bool), e = .returned (.tuple #[.int .i64 r, .bool b]) ∧ Gs.BsR q x r b ∧ Below w.heap.size w w' := by
  obtain ⟨ao, cap, rfl, _, hA⟩ := hV
  obtain ⟨xa, xn⟩ := x
  have HA : Hid (UpsAt w ao q) := hA
  have HK : Hid (∀ y, y ∈ q → UvOk w y) := hok
  have HRS : Hid (Wr.rise Dg.uOrd (ups q) = true) := hr
  have HB : Hid _ := heap_alloc_new w (.cells #[.int .i64 xa, .int .i64 xn] 30)
  have HG : Hid _ := new_below w (.cells #[.int .i64 xa, .int .i64 xn] 30)
  clear hA hok hr
  go_enter Try.func30, Try.ntmps30
  go_upto_region 1 with fail
  generalize w.alloc (.cells #[.int .i64 xa, .int .i64 xn] 30) = w1 at *
  have HT1 : Hid (∀ z, Below w1.heap.size w1 z → z.cell? ⟨w.heap.size, 0, none⟩ = some (.int .i64 xa) ∧ z.cell? ⟨w.heap.size, 1, none⟩ = some (.int .i64 xn)) := fun z hz => ⟨cell_below hz (by rw [Lib.cell_of_heap HB.out]; rfl), cell_below hz (by rw [Lib.cell_of_heap HB.out]; rfl)⟩
  clear HB
  go_wp2_with fail
  go_loopw [9, 10] (fun iv jv wr => ∃ i j : Nat, iv = .int .i64 i ∧ jv = .int .i64 j ∧ Hid (Gs.BsI q ⟨xa, xn⟩ i j) ∧ Hid (Below w1.heap.size w1 wr)) (fun iv jv _ => (intOf jv).toNat - (intOf iv).toNat)
  case atStart => exact ⟨0, q.length, rfl, rfl, Gs.BsI.start _ _, Below.refl _ _⟩
  case round =>
    obtain ⟨i, j, rfl, rfl, HI, HW⟩ := hrel
    have hij := HI.out.le
    have hjl := HI.out.lt
    have HBW : Hid (Below w.heap.size w wr) := HG.out.trans (HW.out.mono HG.out.size)
    have HTC : Hid (∀ z, Below wr.heap.size wr z → z.cell? ⟨w.heap.size, 0, none⟩ = some (.int .i64 xa) ∧ z.cell? ⟨w.heap.size, 1, none⟩ = some (.int .i64 xn)) := fun z hz => HT1.out z (HW.out.trans (hz.mono HW.out.size))
    by_cases hlt : i < j
    · have g1 : decide (i < j) = true := decide_eq_true hlt
      have g1' : decide ((i : Int) < (j : Int)) = true := decide_eq_true (by omega)
      obtain ⟨m, hm⟩ : ∃ m : Nat, m = (i + j) / 2 := ⟨_, rfl⟩
      have EM : Hid (((i : Int) + (j : Int)) / 2 = (m : Int)) := by show _ = _; omega
      have hml : m < q.length := by omega
      have hm1 : i ≤ m := by omega
      have hm2 : m < j := by omega
      clear hm
      go_upto_region 5 with fail
      rw [EM.out]
      clear EM
      have HUP : Hid (Wr.idOrd (uvD q m).u.id ⟨xa, xn⟩ < 0 → Gs.BsI q ⟨xa, xn⟩ (m + 1) j) := fun h => HI.out.up HRS.out hm1 hm2 h
      have HDN : Hid (¬ Wr.idOrd (uvD q m).u.id ⟨xa, xn⟩ < 0 → Gs.BsI q ⟨xa, xn⟩ i m) := fun h => HI.out.down HRS.out hm1 hm2 h
      obtain ⟨b, off, eb, p0, p1, p2, p3, p4⟩ := ups_at (HA.out.kc (Kc.below HBW.out)) m hml
      have hxo := (HK.out _ (uvD_mem q m hml)).below HBW.out
      generalize uvD q m = x at *
      obtain ⟨b1, m1, f1, b2, m2, f2, b3, m3, f3, e1, e2, e3⟩ := hxo.forms
      have HX : Hid (UvOk wr x) := hxo
      clear hxo
      obtain ⟨⟨⟨va, vn⟩, ps, says, ts⟩, vp, vs, vt⟩ := x
      dsimp only at *
      subst e1 e2 e3
      have HXU : Hid (∀ z, Below wr.heap.size wr z → z.cell? ⟨b, off + m * 5, none⟩ = some (.int .i64 va) ∧ z.cell? ⟨b, off + m * 5 + 1, none⟩ = some (.int .i64 vn) ∧ z.cell? ⟨b, off + m * 5 + 2, none⟩ = some (.slice b1 m1 f1) ∧ z.cell? ⟨b, off + m * 5 + 3, none⟩ = some (.slice b2 m2 f2) ∧ z.cell? ⟨b, off + m * 5 + 4, none⟩ = some (.slice b3 m3 f3)) := fun z hz => ⟨cell_below hz p0, cell_below hz p1, cell_below hz p2, cell_below hz p3, cell_below hz p4⟩
      clear p0 p1 p2 p3 p4
      subst eb
      obtain ⟨r, hr9⟩ : ∃ r, r = Wr.idOrd ⟨va, vn⟩ ⟨xa, xn⟩ := ⟨_, rfl⟩
      have HOR : Hid (∀ z, Below wr.heap.size wr z → Calls Try.prog 31 #[uvVal ⟨⟨⟨va, vn⟩, ps, says, ts⟩, .slice b1 m1 f1, .slice b2 m2 f2, .slice b3 m3 f3⟩, idVal ⟨xa, xn⟩] z fun e w' => e = .returned (.int .i64 r) ∧ Below z.heap.size z w') := fun z hz => by
        rw [hr9]
        exact cmpId_any ⟨⟨⟨va, vn⟩, ps, says, ts⟩, .slice b1 m1 f1, .slice b2 m2 f2, .slice b3 m3 f3⟩ ⟨xa, xn⟩ z (HX.out.below hz)
      rw [← hr9] at HUP HDN
      clear hr9
      obtain ⟨hb, HHB⟩ : ∃ hb, Hid (hb = decide (r < 0)) := ⟨_, rfl⟩
      refine wp_region_tabA (bsT5 b off q.length cap m (off + m * 5) va vn b1 m1 f1 b2 m2 f2 b3 m3 f3 xa xn r hb) (by kernel_rfl) (by kernel_rfl) (bsT5_mono _ _ _ _ _ _ _ _ _ _ _ _ _ _ _ _ _ _ _ _ _) ?hop5 ?hend5
      case hop5 =>
          refine AllOps.cons (fun a y h => ?_) ?_
          · have e2 : a.eval (.tmp 2) = (.func (.func 31) #[] #[] : Value) := h.old 2 (by kernel_rfl)
            refine opOk_val (v := .func (.func 31) #[] #[]) (w' := y) (wanted_none rfl) ?_ (fun t ht => by cases ht; exact rfl) (Below.refl _ _)
            have ec : ∀ v, a.eval (.const v) = v := fun _ => rfl
            generalize a.eval = ev at *
            clear h
            go_simp
          refine AllOps.cons (fun a y h => ?_) ?_
          · have e0 : a.eval (.tmp 0) = (.slice (some ⟨b, off, none⟩) q.length cap : Value) := h.old 0 (by kernel_rfl)
            refine opOk_val (v := .slice (some ⟨b, off, none⟩) q.length cap) (w' := y) (wanted_none rfl) ?_ (fun t ht => by cases ht; exact rfl) (Below.refl _ _)
            have ec : ∀ v, a.eval (.const v) = v := fun _ => rfl
            generalize a.eval = ev at *
            clear h
            go_simp
          refine AllOps.cons (fun a y h => ?_) ?_
          · have e11 : a.eval (.tmp 11) = (.int .i64 m : Value) := h.old 11 (by kernel_rfl)
            refine opOk_val (v := .int .i64 m) (w' := y) (wanted_none rfl) ?_ (fun t ht => by cases ht; exact rfl) (Below.refl _ _)
            have ec : ∀ v, a.eval (.const v) = v := fun _ => rfl
            generalize a.eval = ev at *
            clear h
            go_simp
          refine AllOps.cons (fun a y h => ?_) ?_
          · have e25 : a.eval (.tmp 25) = (.slice (some ⟨b, off, none⟩) q.length cap : Value) := h.of 25 (by kernel_rfl)
            have e26 : a.eval (.tmp 26) = (.int .i64 m : Value) := h.of 26 (by kernel_rfl)
            refine opOk_val (v := .pointer (some ⟨b, (off + m * 5), none⟩)) (w' := y) (wanted_none rfl) ?_ (fun t ht => by cases ht; exact rfl) (Below.refl _ _)
            have ec : ∀ v, a.eval (.const v) = v := fun _ => rfl
            generalize a.eval = ev at *
            clear h
            go_simp
          refine AllOps.cons (fun a y h => ?_) ?_
          · have e27 : a.eval (.tmp 27) = (.pointer (some ⟨b, (off + m * 5), none⟩) : Value) := h.of 27 (by kernel_rfl)
            obtain ⟨y0, y1, y2, y3, y4⟩ := HXU.out y h.below
            refine opOk_val (v := .agg #[.int .i64 va, .int .i64 vn, .slice b1 m1 f1, .slice b2 m2 f2, .slice b3 m3 f3]) (w' := y) (wanted_none rfl) ?_ (fun t ht => by cases ht; exact rfl) (Below.refl _ _)
            have ec : ∀ v, a.eval (.const v) = v := fun _ => rfl
            generalize a.eval = ev at *
            clear h
            go_simp
          refine AllOps.cons (fun a y h => ?_) ?_
          · have e4 : a.eval (.tmp 4) = (.pointer (some ⟨w.heap.size, 0, none⟩) : Value) := h.old 4 (by kernel_rfl)
            obtain ⟨t0, t1⟩ := HTC.out y h.below
            refine opOk_val (v := .agg #[.int .i64 xa, .int .i64 xn]) (w' := y) (wanted_none rfl) ?_ (fun t ht => by cases ht; exact rfl) (Below.refl _ _)
            have ec : ∀ v, a.eval (.const v) = v := fun _ => rfl
            generalize a.eval = ev at *
            clear h
            go_simp
          refine AllOps.cons (fun a y h => ?_) ?_
          · have e24 : a.eval (.tmp 24) = (.func (.func 31) #[] #[] : Value) := h.of 24 (by kernel_rfl)
            have e28 : a.eval (.tmp 28) = (.agg #[.int .i64 va, .int .i64 vn, .slice b1 m1 f1, .slice b2 m2 f2, .slice b3 m3 f3] : Value) := h.of 28 (by kernel_rfl)
            have e29 : a.eval (.tmp 29) = (.agg #[.int .i64 xa, .int .i64 xn] : Value) := h.of 29 (by kernel_rfl)
            refine opOk_call (f := 31) (args := #[.agg #[.int .i64 va, .int .i64 vn, .slice b1 m1 f1, .slice b2 m2 f2, .slice b3 m3 f3], .agg #[.int .i64 xa, .int .i64 xn]]) (wanted_none rfl) ?_ ?_
            · have ec : ∀ v, a.eval (.const v) = v := fun _ => rfl
              have ef : ∀ f, a.eval (.func f) = .func (.func f) #[] #[] := fun _ => rfl
              generalize a.eval = ev at *
              clear h
              go_simp
            · refine Calls.mono (HOR.out y h.below) ?_
              rintro _ y2 ⟨rfl, hb2⟩
              exact ⟨_, rfl, fun t ht => by cases ht; exact rfl, hb2⟩
          refine AllOps.cons (fun a y h => ?_) ?_
          · have e30 : a.eval (.tmp 30) = (.int .i64 r : Value) := h.of 30 (by kernel_rfl)
            have hh := HHB.out
            refine opOk_val (v := .bool hb) (w' := y) (wanted_none rfl) ?_ (fun t ht => by cases ht; exact rfl) (Below.refl _ _)
            rw [hh]
            have ec : ∀ v, a.eval (.const v) = v := fun _ => rfl
            generalize a.eval = ev at *
            clear h
            go_simp
          exact AllOps.nil
      rintro ⟨tm, df⟩ wE hbE hdE hszE hstE hTE
      have k31 : tm.getD 31 undef = (.bool hb : Value) := ends_at (T := bsT5 b off q.length cap m (off + m * 5) va vn b1 m1 f1 b2 m2 f2 b3 m3 f3 xa xn r hb) (w := wE) (a := ⟨tm, df⟩) (t := 31) hTE (by kernel_rfl)
      obtain rfl : df = [] := hdE
      have HWE : Hid (Below w1.heap.size w1 wE) := HW.out.trans (hbE.mono HW.out.size)
      have hF8 := tmps_fold [24, 25, 26, 27, 28, 29, 30, 31] tm _ hszE hstE
      clear hszE hstE hTE hbE
      simp only [List.foldl_cons, List.foldl_nil, k31] at hF8
      clear k31
      generalize tm.getD 24 undef = x24 at hF8
      generalize tm.getD 25 undef = x25 at hF8
      generalize tm.getD 26 undef = x26 at hF8
      generalize tm.getD 27 undef = x27 at hF8
      generalize tm.getD 28 undef = x28 at hF8
      generalize tm.getD 29 undef = x29 at hF8
      generalize tm.getD 30 undef = x30 at hF8
      simp only [List.setIfInBounds_toArray, List.set_cons_zero, List.set_cons_succ] at hF8
      subst hF8
      clear HW HTC HXU HOR
      by_cases hc : r < 0
      · have HN : Hid _ := HUP.out hc
        obtain rfl : hb = true := by rw [HHB.out]; exact decide_eq_true hc
        clear HUP HDN HHB
        go_wp2_with fail
        go_roundw
        case rel => exact ⟨m + 1, j, by go_num, rfl, HN.out, HWE.out⟩
        case measure => simp [intOf]; omega
      · have HN : Hid _ := HDN.out hc
        obtain rfl : hb = false := by rw [HHB.out]; exact decide_eq_false hc
        clear HUP HDN HHB
        go_wp2_with fail
        go_roundw
        case rel => exact ⟨i, m, rfl, rfl, HN.out, HWE.out⟩
        case measure => simp [intOf]; omega
    · have g1 : decide (i < j) = false := decide_eq_false hlt
      have g1' : decide ((i : Int) < (j : Int)) = false := decide_eq_false (by omega)
      obtain rfl : j = i := by omega
      have HF : Hid _ := HI.out.fin HRS.out
      go_upto_region 8 with fail
      by_cases hin : j < q.length
      · have g2 : decide (j < q.length) = true := decide_eq_true hin
        have g2' : decide ((j : Int) < (q.length : Int)) = true := decide_eq_true (by omega)
        obtain ⟨b, off, eb, p0, p1, p2, p3, p4⟩ := ups_at (HA.out.kc (Kc.below HBW.out)) j hin
        have hxo := (HK.out _ (uvD_mem q j hin)).below HBW.out
        have HF2 : Hid (Gs.BsR q ⟨xa, xn⟩ j (decide (Wr.idOrd (uvD q j).u.id ⟨xa, xn⟩ = 0))) := by
          have := HF.out
          rw [g2, Bool.true_and] at this
          exact this
        clear HF
        generalize uvD q j = x at *
        obtain ⟨b1, m1, f1, b2, m2, f2, b3, m3, f3, e1, e2, e3⟩ := hxo.forms
        have HX : Hid (UvOk wr x) := hxo
        clear hxo
        obtain ⟨⟨⟨va, vn⟩, ps, says, ts⟩, vp, vs, vt⟩ := x
        dsimp only at *
        subst e1 e2 e3
        have HXU : Hid (∀ z, Below wr.heap.size wr z → z.cell? ⟨b, off + j * 5, none⟩ = some (.int .i64 va) ∧ z.cell? ⟨b, off + j * 5 + 1, none⟩ = some (.int .i64 vn) ∧ z.cell? ⟨b, off + j * 5 + 2, none⟩ = some (.slice b1 m1 f1) ∧ z.cell? ⟨b, off + j * 5 + 3, none⟩ = some (.slice b2 m2 f2) ∧ z.cell? ⟨b, off + j * 5 + 4, none⟩ = some (.slice b3 m3 f3)) := fun z hz => ⟨cell_below hz p0, cell_below hz p1, cell_below hz p2, cell_below hz p3, cell_below hz p4⟩
        clear p0 p1 p2 p3 p4
        subst eb
        obtain ⟨r, hr9⟩ : ∃ r, r = Wr.idOrd ⟨va, vn⟩ ⟨xa, xn⟩ := ⟨_, rfl⟩
        have HOR : Hid (∀ z, Below wr.heap.size wr z → Calls Try.prog 31 #[uvVal ⟨⟨⟨va, vn⟩, ps, says, ts⟩, .slice b1 m1 f1, .slice b2 m2 f2, .slice b3 m3 f3⟩, idVal ⟨xa, xn⟩] z fun e w' => e = .returned (.int .i64 r) ∧ Below z.heap.size z w') := fun z hz => by
          rw [hr9]
          exact cmpId_any ⟨⟨⟨va, vn⟩, ps, says, ts⟩, .slice b1 m1 f1, .slice b2 m2 f2, .slice b3 m3 f3⟩ ⟨xa, xn⟩ z (HX.out.below hz)
        rw [← hr9] at HF2
        clear hr9
        obtain ⟨hb, HHB⟩ : ∃ hb, Hid (hb = (r == 0)) := ⟨_, rfl⟩
        have ebd : decide (r = 0) = hb := by rw [HHB.out, Bool.eq_iff_iff]; simp
        rw [ebd] at HF2
        clear ebd
        refine wp_region_tabR (Below wr.heap.size) (fun _ _ _ => Below.trans) (fun z => (Below.refl wr.heap.size z).drew) (bsT8 b off q.length cap j (off + j * 5) va vn b1 m1 f1 b2 m2 f2 b3 m3 f3 xa xn r hb) 15 (fun _ _ => True) (by decide) (by kernel_rfl) (by kernel_rfl) (fun _ _ _ _ _ h => bsT8_same h) ?hop8 ?hend8
        case hop8 =>
          refine AllOpsI.cons (fun a y h => ?_) ?_
          · have e9 : a.eval (.tmp 9) = (.int .i64 j : Value) := h.old 9 (by kernel_rfl)
            refine opOkR_val (v := .int .i64 j) (w' := y) (wanted_none rfl) ?_ (fun t ht => by cases ht; exact rfl) (Below.refl _ _) (fun _ => trivial) (fun _ _ _ => trivial)
            have ec : ∀ v, a.eval (.const v) = v := fun _ => rfl
            generalize a.eval = ev at *
            clear h
            go_simp
          refine AllOpsI.cons (fun a y h => ?_) ?_
          · have e9 : a.eval (.tmp 9) = (.int .i64 j : Value) := h.old 9 (by kernel_rfl)
            refine opOkR_val (v := .int .i64 j) (w' := y) (wanted_none rfl) ?_ (fun t ht => by cases ht; exact rfl) (Below.refl _ _) (fun _ => trivial) (fun _ _ _ => trivial)
            have ec : ∀ v, a.eval (.const v) = v := fun _ => rfl
            generalize a.eval = ev at *
            clear h
            go_simp
          refine AllOpsI.cons (fun a y h => ?_) ?_
          · have e8 : a.eval (.tmp 8) = (.int .i64 q.length : Value) := h.old 8 (by kernel_rfl)
            refine opOkR_val (v := .int .i64 q.length) (w' := y) (wanted_none rfl) ?_ (fun t ht => by cases ht; exact rfl) (Below.refl _ _) (fun _ => trivial) (fun _ _ _ => trivial)
            have ec : ∀ v, a.eval (.const v) = v := fun _ => rfl
            generalize a.eval = ev at *
            clear h
            go_simp
          refine AllOpsI.cons (fun a y h => ?_) ?_
          · have e36 : a.eval (.tmp 36) = (.int .i64 j : Value) := h.of 36 (by kernel_rfl)
            have e37 : a.eval (.tmp 37) = (.int .i64 q.length : Value) := h.of 37 (by kernel_rfl)
            refine opOkR_val (v := .bool true) (w' := y) (wanted_none rfl) ?_ (fun t ht => by cases ht; exact rfl) (Below.refl _ _) (fun _ => trivial) (fun _ _ _ => trivial)
            have ec : ∀ v, a.eval (.const v) = v := fun _ => rfl
            generalize a.eval = ev at *
            clear h
            go_simp
          refine AllOpsI.cons (fun a y h => ?_) ?_
          · have e38 : a.eval (.tmp 38) = (.bool true : Value) := h.of 38 (by kernel_rfl)
            refine opOkR_val (v := .bool true) (w' := y) (wanted_none rfl) ?_ (fun t ht => by cases ht; exact rfl) (Below.refl _ _) (fun _ => trivial) (fun _ _ _ => trivial)
            have ec : ∀ v, a.eval (.const v) = v := fun _ => rfl
            generalize a.eval = ev at *
            clear h
            go_simp
          refine AllOpsI.cons (fun a y h => ?_) ?_
          · have e2 : a.eval (.tmp 2) = (.func (.func 31) #[] #[] : Value) := h.old 2 (by kernel_rfl)
            refine opOkR_val (v := .func (.func 31) #[] #[]) (w' := y) (wanted_some (j := 4) (t := 39) (b := true) rfl rfl rfl (h.of 39 (by kernel_rfl))) ?_ (fun t ht => by cases ht; exact rfl) (Below.refl _ _) (fun _ => trivial) (fun _ _ _ => trivial)
            have ec : ∀ v, a.eval (.const v) = v := fun _ => rfl
            generalize a.eval = ev at *
            clear h
            go_simp
          refine AllOpsI.cons (fun a y h => ?_) ?_
          · have e0 : a.eval (.tmp 0) = (.slice (some ⟨b, off, none⟩) q.length cap : Value) := h.old 0 (by kernel_rfl)
            refine opOkR_val (v := .slice (some ⟨b, off, none⟩) q.length cap) (w' := y) (wanted_some (j := 4) (t := 39) (b := true) rfl rfl rfl (h.of 39 (by kernel_rfl))) ?_ (fun t ht => by cases ht; exact rfl) (Below.refl _ _) (fun _ => trivial) (fun _ _ _ => trivial)
            have ec : ∀ v, a.eval (.const v) = v := fun _ => rfl
            generalize a.eval = ev at *
            clear h
            go_simp
          refine AllOpsI.cons (fun a y h => ?_) ?_
          · have e9 : a.eval (.tmp 9) = (.int .i64 j : Value) := h.old 9 (by kernel_rfl)
            refine opOkR_val (v := .int .i64 j) (w' := y) (wanted_some (j := 4) (t := 39) (b := true) rfl rfl rfl (h.of 39 (by kernel_rfl))) ?_ (fun t ht => by cases ht; exact rfl) (Below.refl _ _) (fun _ => trivial) (fun _ _ _ => trivial)
            have ec : ∀ v, a.eval (.const v) = v := fun _ => rfl
            generalize a.eval = ev at *
            clear h
            go_simp
          refine AllOpsI.cons (fun a y h => ?_) ?_
          · have e41 : a.eval (.tmp 41) = (.slice (some ⟨b, off, none⟩) q.length cap : Value) := h.of 41 (by kernel_rfl)
            have e42 : a.eval (.tmp 42) = (.int .i64 j : Value) := h.of 42 (by kernel_rfl)
            refine opOkR_val (v := .pointer (some ⟨b, (off + j * 5), none⟩)) (w' := y) (wanted_some (j := 4) (t := 39) (b := true) rfl rfl rfl (h.of 39 (by kernel_rfl))) ?_ (fun t ht => by cases ht; exact rfl) (Below.refl _ _) (fun _ => trivial) (fun _ _ _ => trivial)
            have ec : ∀ v, a.eval (.const v) = v := fun _ => rfl
            generalize a.eval = ev at *
            clear h
            go_simp
          refine AllOpsI.cons (fun a y h => ?_) ?_
          · have e43 : a.eval (.tmp 43) = (.pointer (some ⟨b, (off + j * 5), none⟩) : Value) := h.of 43 (by kernel_rfl)
            obtain ⟨y0, y1, y2, y3, y4⟩ := HXU.out y h.below
            refine opOkR_val (v := .agg #[.int .i64 va, .int .i64 vn, .slice b1 m1 f1, .slice b2 m2 f2, .slice b3 m3 f3]) (w' := y) (wanted_some (j := 4) (t := 39) (b := true) rfl rfl rfl (h.of 39 (by kernel_rfl))) ?_ (fun t ht => by cases ht; exact rfl) (Below.refl _ _) (fun _ => trivial) (fun _ _ _ => trivial)
            have ec : ∀ v, a.eval (.const v) = v := fun _ => rfl
            generalize a.eval = ev at *
            clear h
            go_simp
          refine AllOpsI.cons (fun a y h => ?_) ?_
          · have e4 : a.eval (.tmp 4) = (.pointer (some ⟨w.heap.size, 0, none⟩) : Value) := h.old 4 (by kernel_rfl)
            obtain ⟨t0, t1⟩ := HTC.out y h.below
            refine opOkR_val (v := .agg #[.int .i64 xa, .int .i64 xn]) (w' := y) (wanted_some (j := 4) (t := 39) (b := true) rfl rfl rfl (h.of 39 (by kernel_rfl))) ?_ (fun t ht => by cases ht; exact rfl) (Below.refl _ _) (fun _ => trivial) (fun _ _ _ => trivial)
            have ec : ∀ v, a.eval (.const v) = v := fun _ => rfl
            generalize a.eval = ev at *
            clear h
            go_simp
          refine AllOpsI.cons (fun a y h => ?_) ?_
          · have e40 : a.eval (.tmp 40) = (.func (.func 31) #[] #[] : Value) := h.of 40 (by kernel_rfl)
            have e44 : a.eval (.tmp 44) = (.agg #[.int .i64 va, .int .i64 vn, .slice b1 m1 f1, .slice b2 m2 f2, .slice b3 m3 f3] : Value) := h.of 44 (by kernel_rfl)
            have e45 : a.eval (.tmp 45) = (.agg #[.int .i64 xa, .int .i64 xn] : Value) := h.of 45 (by kernel_rfl)
            refine opOkR_call (f := 31) (args := #[.agg #[.int .i64 va, .int .i64 vn, .slice b1 m1 f1, .slice b2 m2 f2, .slice b3 m3 f3], .agg #[.int .i64 xa, .int .i64 xn]]) (wanted_some (j := 4) (t := 39) (b := true) rfl rfl rfl (h.of 39 (by kernel_rfl))) ?_ ?_
            · have ec : ∀ v, a.eval (.const v) = v := fun _ => rfl
              have ef : ∀ f, a.eval (.func f) = .func (.func f) #[] #[] := fun _ => rfl
              generalize a.eval = ev at *
              clear h
              go_simp
            · refine Calls.mono (HOR.out y h.below) ?_
              rintro _ y2 ⟨rfl, hb2⟩
              exact ⟨_, rfl, fun t ht => by cases ht; exact rfl, hb2.mono h.below.size, (fun h9 => absurd h9 (by decide)), (fun _ _ _ => trivial)⟩
          refine AllOpsI.cons (fun a y h => ?_) ?_
          · have e46 : a.eval (.tmp 46) = (.int .i64 r : Value) := h.of 46 (by kernel_rfl)
            have hh := HHB.out
            refine opOkR_val (v := .bool hb) (w' := y) (wanted_some (j := 4) (t := 39) (b := true) rfl rfl rfl (h.of 39 (by kernel_rfl))) ?_ (fun t ht => by cases ht; exact rfl) (Below.refl _ _) (fun _ => trivial) (fun _ _ _ => trivial)
            rw [hh]
            have ec : ∀ v, a.eval (.const v) = v := fun _ => rfl
            generalize a.eval = ev at *
            clear h
            go_simp
          refine AllOpsI.cons (fun a y h => ?_) ?_
          · have e39 : a.eval (.tmp 39) = (.bool true : Value) := h.of 39 (by kernel_rfl)
            have e47 : a.eval (.tmp 47) = (.bool hb : Value) := h.of 47 (by kernel_rfl)
            refine opOkR_val (v := .bool hb) (w' := y) (wanted_none rfl) ?_ (fun t ht => by cases ht; exact rfl) (Below.refl _ _) (fun _ => trivial) (fun _ _ _ => trivial)
            have ec : ∀ v, a.eval (.const v) = v := fun _ => rfl
            generalize a.eval = ev at *
            clear h
            go_simp
          refine AllOpsI.cons (fun a y h => ?_) ?_
          · have e35 : a.eval (.tmp 35) = (.int .i64 j : Value) := h.of 35 (by kernel_rfl)
            refine opOkR_val (v := .int .i64 j) (w' := y) (wanted_none rfl) ?_ (fun t ht => by cases ht; exact rfl) (Below.refl _ _) (fun _ => trivial) (fun _ _ _ => trivial)
            have ec : ∀ v, a.eval (.const v) = v := fun _ => rfl
            generalize a.eval = ev at *
            clear h
            go_simp
          refine AllOpsI.cons (fun a y h => ?_) ?_
          · have e48 : a.eval (.tmp 48) = (.bool hb : Value) := h.of 48 (by kernel_rfl)
            refine opOkR_val (v := .bool hb) (w' := y) (wanted_none rfl) ?_ (fun t ht => by cases ht; exact rfl) (Below.refl _ _) (fun _ => trivial) (fun _ _ _ => trivial)
            have ec : ∀ v, a.eval (.const v) = v := fun _ => rfl
            generalize a.eval = ev at *
            clear h
            go_simp
          exact AllOpsI.nil
        rintro ⟨tm, df⟩ wE hbE _ hdE hszE hstE hTE
        have k6 : tm.getD 6 undef = (.int .i64 j : Value) := hTE 6 (by decide)
        have k7 : tm.getD 7 undef = (.bool hb : Value) := hTE 7 (by decide)
        obtain rfl : df = [] := hdE
        have HWE : Hid (Below w.heap.size w wE) := HBW.out.trans (hbE.mono HBW.out.size)
        have hF8 := tmps_fold [35, 36, 37, 38, 39, 40, 41, 42, 43, 44, 45, 46, 47, 48, 6, 7] tm _ hszE hstE
        clear hszE hstE hTE hbE
        simp only [List.foldl_cons, List.foldl_nil, k6, k7] at hF8
        clear k6 k7
        generalize tm.getD 35 undef = x35 at hF8
        generalize tm.getD 36 undef = x36 at hF8
        generalize tm.getD 37 undef = x37 at hF8
        generalize tm.getD 38 undef = x38 at hF8
        generalize tm.getD 39 undef = x39 at hF8
        generalize tm.getD 40 undef = x40 at hF8
        generalize tm.getD 41 undef = x41 at hF8
        generalize tm.getD 42 undef = x42 at hF8
        generalize tm.getD 43 undef = x43 at hF8
        generalize tm.getD 44 undef = x44 at hF8
        generalize tm.getD 45 undef = x45 at hF8
        generalize tm.getD 46 undef = x46 at hF8
        generalize tm.getD 47 undef = x47 at hF8
        generalize tm.getD 48 undef = x48 at hF8
        simp only [List.setIfInBounds_toArray, List.set_cons_zero, List.set_cons_succ] at hF8
        subst hF8
        go_wp2_with fail
        go_ret2
        exact ⟨j, hb, rfl, HF2.out, HWE.out⟩
      · have g2 : decide (j < q.length) = false := decide_eq_false hin
        obtain rfl : j = q.length := by omega
        have HF2 : Hid (Gs.BsR q ⟨xa, xn⟩ q.length false) := by
          have := HF.out
          rw [g2, Bool.false_and] at this
          exact this
        clear HF
        go_quiet (fail)
        go_wp2_with fail
        go_ret2
        exact ⟨q.length, false, rfl, HF2.out, HBW.out.trans ((blw_drewN wr _).mono HBW.out.size)⟩
end Go.Proofs.Ytmfaodapofamfaa

/- What stands where a box of two slices is written: all blocks that hold a number. -/
namespace Go.Proofs.Ytmfaodapofamfaa
open Go.RowKit

def Kn (w w' : World) : Prop := ∀ b, (∃ o n, w.cell? ⟨b, o, none⟩ = some (.int .i64 n)) → ∀ o v, w.cell? ⟨b, o, none⟩ = some v → w'.cell? ⟨b, o, none⟩ = some v
theorem Kn.trans {a b c : World} (h : Kn a b) (k : Kn b c) : Kn a c := fun i hi o v e => k i (by obtain ⟨p, n, q⟩ := hi; exact ⟨p, n, h i ⟨p, n, q⟩ p _ q⟩) o v (h i hi o v e)
theorem Kn.below {w w' : World} (h : Below w.heap.size w w') : Kn w w' := fun _ _ _ _ e => cell_below h e
theorem Kn.ints {w w' : World} (k : Kn w w') {v : Value} {l : List Int} (h : IntsV w v l) : IntsV w' v l := by
  obtain ⟨ao, cap, rfl, h⟩ := h
  refine ⟨ao, cap, rfl, ?_⟩
  rcases h with h | ⟨b, off, rfl, h⟩
  · exact .inl h
  · exact .inr ⟨b, off, rfl, fun i hi => k _ ⟨_, _, h i hi⟩ _ _ (h i hi)⟩
theorem Kn.ids {w w' : World} (k : Kn w w') {v : Value} {l : List Wr.Id} (h : IdsV w v l) : IdsV w' v l := by
  obtain ⟨ao, cap, rfl, hc, h⟩ := h
  refine ⟨ao, cap, rfl, hc, ?_⟩
  rcases h with h | ⟨b, off, rfl, h⟩
  · exact .inl h
  · exact .inr ⟨b, off, rfl, fun i hi => ⟨k _ ⟨_, _, (h i hi).1⟩ _ _ (h i hi).1, k _ ⟨_, _, (h i hi).1⟩ _ _ (h i hi).2⟩⟩
theorem Kn.fact {w w' : World} (k : Kn w w') {b off : Nat} {f : Rl.Fc} (h : FactIn w b off f) : FactIn w' b off f := by
  obtain ⟨h1, u, h2, h3⟩ := h
  exact ⟨k _ ⟨_, _, h1⟩ _ _ h1, u, k _ ⟨_, _, h1⟩ _ _ h2, k.ints h3⟩
theorem Kn.facts {w w' : World} (k : Kn w w') {v : Value} {l : List Rl.Fc} (h : FactsV w v l) : FactsV w' v l := by
  obtain ⟨ao, cap, rfl, hc, h⟩ := h
  refine ⟨ao, cap, rfl, hc, ?_⟩
  rcases h with h | ⟨b, off, rfl, h⟩
  · exact .inl h
  · exact .inr ⟨b, off, rfl, fun i hi => k.fact (h i hi)⟩
theorem UvOk.kn {w w' : World} {x : Uv} (h : UvOk w x) (k : Kn w w') : UvOk w' x := ⟨k.ids h.p, k.facts h.s, k.ids h.t, h.f, h.l⟩
theorem UpsV.kn {w w' : World} {v : Value} {q : List Uv} (h : UpsV w v q) (k : Kn w w') : UpsV w' v q := by
  obtain ⟨ao, cap, e, hc, h⟩ := h
  refine ⟨ao, cap, e, hc, ?_⟩
  rcases h with h | ⟨b, off, rfl, h⟩
  · exact .inl h
  · refine .inr ⟨b, off, rfl, fun i hi => ?_⟩
    obtain ⟨h0, h1, h2, h3, h4⟩ := h i hi
    exact ⟨k _ ⟨_, _, h0⟩ _ _ h0, k _ ⟨_, _, h0⟩ _ _ h1, k _ ⟨_, _, h0⟩ _ _ h2, k _ ⟨_, _, h0⟩ _ _ h3, k _ ⟨_, _, h0⟩ _ _ h4⟩
/-- .. a box of two slices, one after the other. -/
def two (z : World) (F : Nat) (u v : Value) : World := (z.setCell ⟨F, 0, none⟩ u).setCell ⟨F, 1, none⟩ v
theorem two_heap {z : World} {F : Nat} {x y u v : Value} {t : TypeId} (h : z.heap[F]? = some (.cells #[x, y] t)) : (two z F u v).heap[F]? = some (.cells #[u, v] t) := by
  unfold two
  have h1 : (z.setCell ⟨F, 0, none⟩ u).heap[F]? = some (.cells #[u, y] t) := by rw [Lib.heap_setCell_same h]; rfl
  rw [Lib.heap_setCell_same h1]
  rfl
theorem two_other {z : World} {F : Nat} {u v : Value} {b : Nat} (h : b ≠ F) : (two z F u v).heap[b]? = z.heap[b]? := by
  unfold two
  rw [Below.heap_setCell _ _ _ _ h, Below.heap_setCell _ _ _ _ h]
theorem two_kn {z : World} {F : Nat} {ax ay : Option Addr} {nx cx ny cy : Nat} {u v : Value} {t : TypeId} (h : z.heap[F]? = some (.cells #[.slice ax nx cx, .slice ay ny cy] t)) : Kn z (two z F u v) := fun b hb o x e => by
  have hne : b ≠ F := fun e2 => by
    subst e2
    obtain ⟨p, n, hp⟩ := hb
    rw [Lib.cell_of_heap h] at hp
    match p with
    | 0 => cases hp
    | 1 => cases hp
    | _ + 2 => cases hp
  rw [cell_heap (two_other hne)]
  exact e
theorem two_below {w z : World} {F : Nat} (h : Below w.heap.size w z) (hF : w.heap.size ≤ F) (u v : Value) : Below w.heap.size w (two z F u v) := (h.setCell (p := ⟨F, 0, none⟩) hF u).setCell (p := ⟨F, 1, none⟩) hF v
/-- A box of two slices stands there. -/
def Bx (w : World) (b : Nat) : Prop := ∃ a1 n1 c1 a2 n2 c2, w.heap[b]? = some (.cells #[.slice a1 n1 c1, .slice a2 n2 c2] 24)
theorem Bx.below {w w' : World} {b : Nat} (h : Bx w b) (hb : Below w.heap.size w w') : Bx w' b := by
  obtain ⟨a1, n1, c1, a2, n2, c2, h⟩ := h
  exact ⟨a1, n1, c1, a2, n2, c2, (hb.block _ (Array.getElem?_eq_some_iff.1 h).1).trans h⟩
/-- From world to world: all below B stands, all blocks with numbers, and a box stays a box. -/
def Rb (B : Nat) (w w' : World) : Prop := Below B w w' ∧ Kn w w' ∧ ∀ b, Bx w b → Bx w' b
theorem Rb.trans {B : Nat} {a b c : World} (h : Rb B a b) (k : Rb B b c) : Rb B a c := ⟨h.1.trans k.1, h.2.1.trans k.2.1, fun i hi => k.2.2 i (h.2.2 i hi)⟩
theorem Rb.of {B : Nat} {w w' : World} (h : Below w.heap.size w w') (hB : B ≤ w.heap.size) : Rb B w w' := ⟨h.mono hB, Kn.below h, fun _ hb => hb.below h⟩
theorem Rb.two {B : Nat} {z : World} {F : Nat} {a1 a2 b1 b2 : Option Addr} {n1 c1 n2 c2 m1 d1 m2 d2 : Nat} (h : z.heap[F]? = some (.cells #[.slice a1 n1 c1, .slice a2 n2 c2] 24)) (hF : B ≤ F) : Rb B z (two z F (.slice b1 m1 d1) (.slice b2 m2 d2)) := by
  refine ⟨((Below.refl B z).setCell (p := ⟨F, 0, none⟩) hF _).setCell (p := ⟨F, 1, none⟩) hF _, two_kn h, fun b hb => ?_⟩
  by_cases e : b = F
  · subst e
    exact ⟨_, _, _, _, _, _, two_heap h⟩
  · obtain ⟨p1, q1, r1, p2, q2, r2, hb⟩ := hb
    exact ⟨p1, q1, r1, p2, q2, r2, (two_other e).trans hb⟩
end Go.Proofs.Ytmfaodapofamfaa

/- A region by a table with a tail, where the tail writes what the table reads. -/
namespace Go.Proofs.Ytmfaodapofamfaa
open Go.RowKit

section
variable {P : Program} {ops : Array Oper} {Q : Exit → Act → World → Prop}
theorem wp_region_tail2 (T : Nat → Value → World → Prop) (L : Nat) {id : Nat} {a0 : Act} {w0 : World} (hL : L < ops.size) (htf : tailFine ops L = true) (hm : P.follows .mixedOrders = true)
    (hf : tabFine ops a0.tmps.size = true)
    (hmono : ∀ t v w w', Below w.heap.size w w' → T t v w → T t v w')
    (hop : AllOps (fun o => ∀ a w, OpIn ops T a0 w0 o a w → (∀ t, t ∉ (ops.toList.take L).filterMap (·.dst) → a.tmps.getD t undef = a0.tmps.getD t undef) → OpOk P ops Q T o a w) (ops.toList.take L))
    (htail : ∀ a w, OpInT ops T a0 w0 L a w → (∀ t, t ∉ (ops.toList.take L).filterMap (·.dst) → a.tmps.getD t undef = a0.tmps.getD t undef) → wpOps P ops Q (List.range' L (ops.size - L)) a w) :
    (Code.region id ops true).wp P Q a0 w0 := by
  unfold tailFine at htf
  rw [Bool.and_eq_true] at htf
  have ht1 : ∀ j, j < L → reach ops 12 L j = true := fun j hj => List.all_eq_true.mp htf.1 j (List.mem_range.mpr hj)
  have ht2 : ∀ i, i < ops.size → L < i → reach ops 12 i (i - 1) = true := fun i hi hLi => by
    have h := List.all_eq_true.mp htf.2 i (List.mem_range.mpr hi)
    rw [decide_eq_true hLi] at h
    simpa using h
  unfold tabFine at hf
  rw [Bool.and_eq_true, Bool.and_eq_true] at hf
  obtain ⟨⟨hnd, hlt⟩, hah⟩ := hf
  have hnd := of_decide_eq_true hnd
  have hlt' : ∀ t, t ∈ ops.toList.filterMap (·.dst) → t < a0.tmps.size := fun t ht => of_decide_eq_true (List.all_eq_true.mp hlt t ht)
  have hah' : ∀ (i : Nat) (o : Oper), ops[i]? = some o → ∀ e, e ∈ o.after → e.on < i := fun i o ho e he => by
    have hi : i < ops.size := (Array.getElem?_eq_some_iff.mp ho).1
    have h := List.all_eq_true.mp hah i (List.mem_range.mpr hi)
    rw [ho, Option.map_some, Option.getD_some] at h
    exact of_decide_eq_true (List.all_eq_true.mp h e (by simpa using he))
  refine wp_region_inv (fun s a w => (s.size = ops.size ∧ Closed ops s) ∧ (((∀ i, L ≤ i → i < ops.size → s[i]? = some false) ∧ (∀ t, t ∉ (ops.toList.take L).filterMap (·.dst) → a.tmps.getD t undef = a0.tmps.getD t undef) ∧ Tabbed ops T a0 w0 s a w) ∨
    (∃ m, L ≤ m ∧ m ≤ ops.size ∧ (∀ i, i < m → s[i]? = some true) ∧ (∀ i, m ≤ i → i < ops.size → s[i]? = some false) ∧ wpOps P ops Q (List.range' m (ops.size - m)) a w))) hm ?_ ?_ ?_
  · rintro s a w hr ⟨⟨hs, hC⟩, hI⟩
    have hall : ∀ n : Nat, n ≤ ops.size → ∀ i : Nat, i < n → s[i]? = some true := by
      intro n
      induction n with
      | zero => intro _ i hi; exact absurd hi (Nat.not_lt_zero _)
      | succ n ih =>
        intro hn i hi
        have ih := ih (by omega)
        by_cases hin : i < n
        · exact ih i hin
        · have hin : i = n := by omega
          subst hin
          cases hsi : s[i]? with
          | none => rw [Array.getElem?_eq_none_iff] at hsi; omega
          | some b =>
            cases b with
            | true => rfl
            | false =>
              exfalso
              have hio : i < ops.size := by omega
              have : i ∈ Region.ready .any ops s := by
                unfold Region.ready
                refine List.mem_filter.mpr ⟨List.mem_range.mpr hio, ?_⟩
                rw [Bool.and_eq_true]
                refine ⟨by simp [Array.getD_eq_getD_getElem?, hsi], ?_⟩
                have ho : ops[i]? = some ops[i] := Array.getElem?_eq_getElem hio
                rw [ho, Option.map_some, Option.getD_some, Array.all_eq_true_iff_forall_mem]
                intro e he
                have h1 := ih e.on (hah' i _ ho e he)
                simp [Array.getD_eq_getD_getElem?, h1]
              rw [hr] at this
              exact absurd this (by simp)
    have hd := hall ops.size (Nat.le_refl _)
    rcases hI with ⟨hF, _, _⟩ | ⟨m, _, hm1, _, hF, hW⟩
    · have h1 := hF L (Nat.le_refl _) hL
      rw [hd L hL] at h1
      cases h1
    · by_cases hme : m = ops.size
      · subst hme
        rw [Nat.sub_self] at hW
        exact hW
      · have h1 := hF m (Nat.le_refl _) (by omega)
        rw [hd m (by omega)] at h1
        cases h1
  · rintro s a w i hi ⟨⟨hs, hC⟩, hI⟩
    obtain ⟨hsi, o, ho, haf⟩ := ready_mem hi
    have his : i < ops.size := (Array.getElem?_eq_some_iff.mp ho).1
    have hup : ∀ j, s[j]? = some true → (s.setIfInBounds i true)[j]? = some true := fun j hj => by
      rw [Array.getElem?_setIfInBounds]
      by_cases hij : i = j
      · rw [if_pos hij, if_pos (by omega)]
      · rw [if_neg hij]; exact hj
    have hss : (s.setIfInBounds i true).size = ops.size ∧ Closed ops (s.setIfInBounds i true) := by
      refine ⟨by simp [hs], fun i' o' hi' ho' e he hb => ?_⟩
      by_cases hii : i = i'
      · subst hii
        rw [ho] at ho'
        cases ho'
        exact hup _ (haf e he hb)
      · rw [Array.getElem?_setIfInBounds, if_neg hii] at hi'
        exact hup _ (hC i' o' hi' ho' e he hb)
    have go : ∀ m, L ≤ m → m < ops.size → i = m → (∀ j, j < m → s[j]? = some true) → (∀ j, m ≤ j → j < ops.size → s[j]? = some false) → wpOps P ops Q (List.range' m (ops.size - m)) a w →
        wpOp P ops Q i (fun a' w' => ((s.setIfInBounds i true).size = ops.size ∧ Closed ops (s.setIfInBounds i true)) ∧ (((∀ j, L ≤ j → j < ops.size → (s.setIfInBounds i true)[j]? = some false) ∧ (∀ t, t ∉ (ops.toList.take L).filterMap (·.dst) → a'.tmps.getD t undef = a0.tmps.getD t undef) ∧ Tabbed ops T a0 w0 (s.setIfInBounds i true) a' w') ∨
          (∃ m, L ≤ m ∧ m ≤ ops.size ∧ (∀ j, j < m → (s.setIfInBounds i true)[j]? = some true) ∧ (∀ j, m ≤ j → j < ops.size → (s.setIfInBounds i true)[j]? = some false) ∧ wpOps P ops Q (List.range' m (ops.size - m)) a' w'))) a w := by
      intro m hLm hms him hT hF hW
      subst him
      obtain ⟨d, hd⟩ : ∃ d, ops.size - i = d + 1 := ⟨ops.size - i - 1, by omega⟩
      rw [hd, List.range'_succ, wpOps_cons] at hW
      refine wpOp_mono (fun a' w' h' => ⟨hss, .inr ⟨i + 1, by omega, by omega, fun j hj => ?_, fun j hj hjs => ?_, ?_⟩⟩) hW
      · by_cases hji : j = i
        · subst hji
          rw [Array.getElem?_setIfInBounds, if_pos rfl, if_pos (by omega)]
        · exact hup j (hT j (by omega))
      · rw [Array.getElem?_setIfInBounds, if_neg (by omega)]
        exact hF j (by omega) hjs
      · rw [show ops.size - (i + 1) = d by omega]
        exact h'
    rcases hI with ⟨hF, hO, hI⟩ | ⟨m, hLm, hm1, hT, hF, hW⟩
    · by_cases hiL : L ≤ i
      · have hiL2 : i = L := by
          rcases Nat.lt_or_ge L i with h | h
          · have h1 := reach_done hC 12 i (i - 1) o ho haf (ht2 i his h)
            rw [hF (i - 1) (by omega) (by omega)] at h1
            cases h1
          · omega
        subst hiL2
        have hdn : ∀ j, j < i → s[j]? = some true := fun j hj => reach_done hC 12 i j o ho haf (ht1 j hj)
        exact go i (Nat.le_refl _) his rfl hdn (fun j hj hjs => hF j hj hjs) (htail a w ⟨hI.below, hI.defers, hI.size, hI.still, fun j oj t hj hoj hd => hI.done j oj t (hdn j hj) hoj hd⟩ hO)
      · have hmo : o ∈ ops.toList.take L := by
          rw [← Array.getElem?_toList] at ho
          refine List.mem_of_getElem? (i := i) ?_
          rw [List.getElem?_take, if_pos (by omega)]
          exact ho
        have hop' : OpOk P ops Q T o a w := AllOps.mem _ hop o hmo a w ⟨hI.below, hI.still, fun e he hb o' t ho' hd => hI.done e.on o' t (haf e he hb) ho' hd⟩ hO
        have hOset : ∀ (v : Value) t, t ∉ (ops.toList.take L).filterMap (·.dst) → (a.put o.dst v).tmps.getD t undef = a0.tmps.getD t undef := fun v t ht => by
          cases hd : o.dst with
          | none => exact hO t ht
          | some u =>
            have hne : t ≠ u := fun h => ht (h ▸ List.mem_filterMap.mpr ⟨o, hmo, hd⟩)
            rw [put_get_ne hne]
            exact hO t ht
        have hset : ∀ {v : Value} {w' : World}, (∀ t, o.dst = some t → T t v w') → Below w.heap.size w w' → Tabbed ops T a0 w0 (s.setIfInBounds i true) (a.put o.dst v) w' := by
          intro v w' hv hb
          refine ⟨hI.below.trans (hb.mono hI.below.size), by rw [put_defers]; exact hI.defers, by rw [put_size]; exact hI.size, fun t ht => ?_, fun j oj t hj hoj hd => ?_⟩
          · cases hd : o.dst with
            | none => exact hI.still t ht
            | some u =>
              have hne : t ≠ u := fun h => ht (h ▸ dst_mem ho hd)
              rw [put_get_ne hne]
              exact hI.still t ht
          · by_cases hij : j = i
            · subst hij
              rw [ho] at hoj
              cases hoj
              rw [hd, put_get_self (by rw [hI.size]; exact hlt' t (dst_mem ho hd))]
              exact hv t hd
            · have hj' : s[j]? = some true := by
                rw [Array.getElem?_setIfInBounds, if_neg (fun h => hij h.symm)] at hj
                exact hj
              have h1 := hmono t _ w w' hb (hI.done j oj t hj' hoj hd)
              cases hd2 : o.dst with
              | none => exact h1
              | some u =>
                have hne : t ≠ u := fun h => hij (dst_inj ops.toList hnd j i oj o t (by rw [Array.getElem?_toList]; exact hoj) (by rw [Array.getElem?_toList]; exact ho) hd (h ▸ hd2))
                rw [put_get_ne hne]
                exact h1
        have hF' : ∀ j, L ≤ j → j < ops.size → (s.setIfInBounds i true)[j]? = some false := fun j hj hjs => by
          rw [Array.getElem?_setIfInBounds, if_neg (by omega)]
          exact hF j hj hjs
        unfold OpOk at hop'
        unfold wpOp
        rw [ho]
        dsimp only
        by_cases hw : Region.wanted o (yielded ops a.tmps) = true
        · rw [if_pos hw] at hop' ⊢
          refine hop'.imp (Oper.wp_mono ?_) (fun h => h)
          rintro a' w' ⟨v, rfl, hv, hb⟩
          exact ⟨hss, .inl ⟨hF', hOset v, hset hv hb⟩⟩
        · rw [if_neg hw] at hop' ⊢
          exact ⟨hss, .inl ⟨hF', hOset _, hset hop' (Below.refl _ _)⟩⟩
    · have him : m ≤ i := by
        rcases Nat.lt_or_ge i m with h | h
        · have h1 := hT i h
          rw [hsi] at h1
          cases h1
        · exact h
      have him2 : i = m := by
        rcases Nat.lt_or_ge m i with h | h
        · have h1 := reach_done hC 12 i (i - 1) o ho haf (ht2 i his (by omega))
          rw [hF (i - 1) (by omega) (by omega)] at h1
          cases h1
        · omega
      exact go m hLm (by omega) him2 hT hF hW
  · refine ⟨⟨by simp, fun i o h => ?_⟩, .inl ⟨fun i _ hi => ?_, fun _ _ => rfl, ⟨⟨rfl, rfl, rfl, Nat.le_refl _, fun _ _ => rfl⟩, rfl, rfl, fun _ _ => rfl, fun i o t h _ _ => ?_⟩⟩⟩
    · rw [Array.getElem?_replicate] at h
      split at h <;> simp at h
    · rw [Array.getElem?_replicate, if_pos hi]
    · rw [Array.getElem?_replicate] at h
      split at h <;> simp at h
end

end Go.Proofs.Ytmfaodapofamfaa

/- One operation of a tail. -/
namespace Go.Proofs.Ytmfaodapofamfaa
open Go.RowKit

section
variable {P : Program} {ops : Array Oper} {Q : Exit → Act → World → Prop} {i : Nat} {o : Oper} {K : Act → World → Prop} {a : Act} {w w' : World}
theorem wpOp_val {v : Value} (ho : ops[i]? = some o) (hw : Region.wanted o (yielded ops a.tmps) = true) (hr : (execOp a.eval o).run P w = .ok (.value v) w') (h : K (a.put o.dst v) w') : wpOp P ops Q i K a w := by
  unfold wpOp
  rw [ho]
  dsimp only
  rw [if_pos hw]
  left
  unfold Oper.wp
  rw [hr, Oper.upon_value]
  exact h
theorem wpOp_void (ho : ops[i]? = some o) (hw : Region.wanted o (yielded ops a.tmps) = true) (hd : o.dst = none) (hr : (execOp a.eval o).run P w = .ok .skip w') (h : K a w') : wpOp P ops Q i K a w := by
  unfold wpOp
  rw [ho]
  dsimp only
  rw [if_pos hw]
  left
  unfold Oper.wp
  rw [hr, Oper.upon_skip, hd]
  exact h
theorem wpOp_wp (ho : ops[i]? = some o) (hw : Region.wanted o (yielded ops a.tmps) = true) (h : o.wp P a w K Q) : wpOp P ops Q i K a w := by
  unfold wpOp
  rw [ho]
  dsimp only
  rw [if_pos hw]
  exact .inl h
theorem wpOps_end {tm : Array Value} {ds : List Deferred} {t : Nat} {v : Value} (h : Q .normal ⟨tm.setIfInBounds t v, ds⟩ w) : wpOps P ops Q [] (Act.put ⟨tm, ds⟩ (some t) v) w := h
end

end Go.Proofs.Ytmfaodapofamfaa

/- The document's Under: what an update hangs on. -/
namespace Go.Proofs.Ytmfaodapofamfaa
open Go.RowKit

end Go.Proofs.Ytmfaodapofamfaa

/- The document's IsReady. -/
namespace Go.Proofs.Ytmfaodapofamfaa
open Go.RowKit

end Go.Proofs.Ytmfaodapofamfaa

/- Is one behind itself? What the document does, plain; and rows of truths. -/
namespace Go.Proofs.Ytmfaodapofamfaa
open Go.RowKit

def boolRow (l : List Bool) : Array Value := (l.map Value.bool).toArray
theorem boolRow_cell {w : World} {b : Nat} {l : List Bool} (h : w.heap[b]? = some (.cells (boolRow l) 4)) {i : Nat} (hi : i < l.length) : w.cell? ⟨b, i, none⟩ = some (.bool (l.getD i false)) := by
  rw [Lib.cell_of_heap h]
  unfold boolRow
  simp [hi]
theorem boolRow_set {w : World} {b : Nat} {l : List Bool} (h : w.heap[b]? = some (.cells (boolRow l) 4)) (i : Nat) (v : Bool) : (w.setCell ⟨b, i, none⟩ (.bool v)).heap[b]? = some (.cells (boolRow (l.set i v)) 4) := by
  rw [Lib.heap_setCell_same h]
  unfold boolRow
  simp [List.map_set]
theorem made_boolRow (n : Nat) : madeCells #[Value.bool false] n = boolRow (List.replicate n false) := by
  unfold boolRow
  apply Array.ext
  · simp [size_madeCells]
  · intro i h1 h2
    simp [madeCells, Nat.mod_one]
theorem heap_set_other {w : World} {b c i : Nat} {v : Value} (h : ¬ c = b) : (w.setCell ⟨b, i, none⟩ v).heap[c]? = w.heap[c]? := Below.heap_setCell _ _ _ _ h
theorem below_row {w wr w5 : World} {LB : Nat} (hb : Below w.heap.size w wr) (hg : wr.grownBy w5 (some LB)) (h : w.heap.size ≤ LB) : Below w.heap.size w w5 :=
  ⟨hg.os.trans hb.os, hg.tape.trans hb.tape, hg.output.trans hb.output, Nat.le_trans hb.size hg.size, fun j hj => (hg.block j (Nat.lt_of_lt_of_le hj hb.size) (fun e => by injection e with e; omega)).trans (hb.block j hj)⟩
namespace Dg
end Dg
end Go.Proofs.Ytmfaodapofamfaa

/- The document's IsRound. -/
namespace Go.Proofs.Ytmfaodapofamfaa
open Go.RowKit

end Go.Proofs.Ytmfaodapofamfaa

/- One who marks what is behind some ids; knownBy. -/
namespace Go.Proofs.Ytmfaodapofamfaa
open Go.RowKit

section
variable {P : Program} {ops : Array Oper} {Q : Exit → Act → World → Prop} {a : Act} {w : World} {i : Nat} {o : Oper} {K : Act → World → Prop}
theorem wpOp_call {f : FuncId} {args : Array Value} (ho : ops[i]? = some o) (hw : Region.wanted o (yielded ops a.tmps) = true) (hr : (execOp a.eval o).run P w = .ok (.enter f args) w) (hc : Calls P f args w fun e w' => ∃ v, e = .returned v ∧ K (a.put o.dst v) w') : wpOp P ops Q i K a w := by
  refine wpOp_wp ho hw ?_
  unfold Oper.wp
  rw [hr, Oper.upon_enter]
  refine Calls.mono hc ?_
  rintro e w' ⟨v, rfl, h⟩
  exact h
end
/-- Where all but a row of truths stands, all blocks with a number stand. -/
theorem kn_row {w w' : World} {K : Nat} {f : List Bool} (hK : w.heap[K]? = some (.cells (boolRow f) 4)) (hg : w.grownBy w' (some K)) : Kn w w' := fun b hb o v e => by
  have hne : b ≠ K := fun e2 => by
    subst e2
    obtain ⟨p, n, hp⟩ := hb
    rw [Lib.cell_of_heap hK] at hp
    unfold boolRow at hp
    simp only [List.getElem?_toArray, List.getElem?_map] at hp
    cases hf : f[p]? with
    | none => rw [hf] at hp; cases hp
    | some x => rw [hf] at hp; cases hp
  rw [cell_heap (hg.block b (cell_lt e) (fun e2 => hne (by cases e2; rfl)))]
  exact e
namespace Gs
def fnV (BL BK BF : Nat) : Value := .func (.func 29) #[] #[.pointer (some ⟨BL, 0, none⟩), .pointer (some ⟨BK, 0, none⟩), .pointer (some ⟨BF, 0, none⟩)]
/-- The boxes of one who marks, and what is marked. -/
structure Kst (BL BK BF K n : Nat) (lv : Value) (w : World) (f : List Bool) : Prop where
  row : w.heap[K]? = some (.cells (boolRow f) 4)
  bl : w.heap[BL]? = some (.cells #[lv] 22)
  bk : w.heap[BK]? = some (.cells #[.slice (some ⟨K, 0, none⟩) n n] 53)
  bf : w.heap[BF]? = some (.cells #[fnV BL BK BF] 64)
theorem Kst.below {BL BK BF K n : Nat} {lv : Value} {w w' : World} {f : List Bool} (h : Kst BL BK BF K n lv w f) (hb : Below w.heap.size w w') : Kst BL BK BF K n lv w' f :=
  have k : ∀ {b : Nat} {x : Obj}, w.heap[b]? = some x → w'.heap[b]? = some x := fun e => (hb.block _ (Array.getElem?_eq_some_iff.1 e).1).trans e
  ⟨k h.row, k h.bl, k h.bk, k h.bf⟩
theorem Kst.set {BL BK BF K n : Nat} {lv : Value} {w : World} {f : List Bool} (h : Kst BL BK BF K n lv w f) (i : Nat) : Kst BL BK BF K n lv (w.setCell ⟨K, i, none⟩ (.bool true)) (f.set i true) := by
  have k : ∀ {b : Nat} {c : Array Value} {t : TypeId}, t ≠ 4 → w.heap[b]? = some (.cells c t) → (w.setCell ⟨K, i, none⟩ (.bool true)).heap[b]? = some (.cells c t) := fun ht e => by
    rw [heap_set_other (fun e2 => by rw [e2, h.row] at e; injection e with e; injection e with _ e _; exact ht e.symm)]
    exact e
  exact ⟨boolRow_set h.row i true, k (by decide) h.bl, k (by decide) h.bk, k (by decide) h.bf⟩
theorem set_grown {BL BK BF K n : Nat} {lv : Value} {w : World} {f : List Bool} (_ : Kst BL BK BF K n lv w f) (i : Nat) : w.grownBy (w.setCell ⟨K, i, none⟩ (.bool true)) (some K) :=
  ⟨rfl, rfl, rfl, by simp, fun j _ hn => heap_set_other (fun e => hn (by rw [e]))⟩
end Gs
def mkT6 (BL BK BF b f nq c k o : Nat) (a : Option Addr) (m d : Nat) (tQ : Nat) (vQ : Value) (_ : World) : Prop :=
  match tQ with
  | 32 => vQ = .func (.func 29) #[] #[.pointer (some ⟨BL, 0, none⟩), .pointer (some ⟨BK, 0, none⟩), .pointer (some ⟨BF, 0, none⟩)]
  | 33 => vQ = .slice (some ⟨b, f, none⟩) nq c
  | 34 => vQ = .int .i64 k
  | 35 => vQ = .pointer (some ⟨b, o, none⟩)
  | 36 => vQ = .pointer (some ⟨b, o + 2, none⟩)
  | 37 => vQ = .slice a m d
  | _ => True
theorem mkT6_mono (BL BK BF b f nq c k o : Nat) (a : Option Addr) (m d : Nat) (tQ : Nat) (vQ : Value) (W W' : World) (_ : Below W.heap.size W W') (h : mkT6 BL BK BF b f nq c k o a m d tQ vQ W) : mkT6 BL BK BF b f nq c k o a m d tQ vQ W' := by
  revert h
  unfold mkT6
  split <;> (intro h; first | exact h)
def mkT7 (BL BK BF b f nq c k o : Nat) (a : Option Addr) (m d : Nat) (tQ : Nat) (vQ : Value) (_ : World) : Prop :=
  match tQ with
  | 39 => vQ = .func (.func 29) #[] #[.pointer (some ⟨BL, 0, none⟩), .pointer (some ⟨BK, 0, none⟩), .pointer (some ⟨BF, 0, none⟩)]
  | 40 => vQ = .slice (some ⟨b, f, none⟩) nq c
  | 41 => vQ = .int .i64 k
  | 42 => vQ = .pointer (some ⟨b, o, none⟩)
  | 43 => vQ = .pointer (some ⟨b, o + 4, none⟩)
  | 44 => vQ = .slice a m d
  | _ => True
theorem mkT7_mono (BL BK BF b f nq c k o : Nat) (a : Option Addr) (m d : Nat) (tQ : Nat) (vQ : Value) (W W' : World) (_ : Below W.heap.size W W') (h : mkT7 BL BK BF b f nq c k o a m d tQ vQ W) : mkT7 BL BK BF b f nq c k o a m d tQ vQ W' := by
  revert h
  unfold mkT7
  split <;> (intro h; first | exact h)

set_option maxRecDepth 100000 in
set_option maxHeartbeats 4000000 in
theorem mark_any (q : List Uv) (hr : Wr.rise Dg.uOrd (ups q) = true) (hl : q.length ≤ 1000) (BL BK BF K : Nat) (ao : Option Addr) (cap : Nat) : ∀ (n : Nat) (f : List Bool) (ids : List Wr.Id) (iv : Value) (w : World), Gs.left f = n → f.length = q.length → Gs.Kst BL BK BF K q.length (.slice ao q.length cap) w f → IdsV w iv ids → ids.length ≤ 1000 → UpsV w (.slice ao q.length cap) q → (∀ y, y ∈ q → UvOk w y ∧ y.u.ps.length ≤ 6 ∧ y.u.ts.length ≤ 6) →
    Calls Try.prog 29 #[iv, .pointer (some ⟨BL, 0, none⟩), .pointer (some ⟨BK, 0, none⟩), .pointer (some ⟨BF, 0, none⟩)] w fun e w' => e = .returned (.tuple #[]) ∧ ∃ g, Gs.MarkP q ids f g ∧ Gs.Kst BL BK BF K q.length (.slice ao q.length cap) w' g ∧ w.grownBy w' (some K) := by
  intro n
  induction n using Nat.strongRecOn with
  | _ n ih =>
  intro f ids iv w hn hfl hK hI hil hV hok
  have IH : Hid (∀ (g : List Bool), Gs.left g < n → g.length = q.length → ∀ (ids : List Wr.Id) (iv : Value) (w : World), Gs.Kst BL BK BF K q.length (.slice ao q.length cap) w g → IdsV w iv ids → ids.length ≤ 1000 → UpsV w (.slice ao q.length cap) q → (∀ y, y ∈ q → UvOk w y ∧ y.u.ps.length ≤ 6 ∧ y.u.ts.length ≤ 6) →
    Calls Try.prog 29 #[iv, .pointer (some ⟨BL, 0, none⟩), .pointer (some ⟨BK, 0, none⟩), .pointer (some ⟨BF, 0, none⟩)] w fun e w' => e = .returned (.tuple #[]) ∧ ∃ g', Gs.MarkP q ids g g' ∧ Gs.Kst BL BK BF K q.length (.slice ao q.length cap) w' g' ∧ w.grownBy w' (some K)) := fun g h1 h2 ids iv w h3 h4 h5 h6 h7 => ih (Gs.left g) h1 g ids iv w rfl h2 h3 h4 h5 h6 h7
  obtain ⟨ai, ci, rfl, _, hiA⟩ := hI
  have HIA : Hid (IdsAt w ai ids) := hiA
  have HV : Hid (UpsV w (.slice ao q.length cap) q) := hV
  have HOK : Hid (∀ y, y ∈ q → UvOk w y ∧ y.u.ps.length ≤ 6 ∧ y.u.ts.length ≤ 6) := hok
  have HRS : Hid (Wr.rise Dg.uOrd (ups q) = true) := hr
  have HKS : Hid (Gs.Kst BL BK BF K q.length (.slice ao q.length cap) w f) := hK
  have HLN : Hid (Gs.left f = n ∧ f.length = q.length) := ⟨hn, hfl⟩
  have HKN : Hid (∀ z, w.grownBy z (some K) → Kn w z) := fun z hz => kn_row hK.row hz
  clear ih hiA hV hok hr hK hn hfl
  go_enter Try.func29, Try.ntmps29
  go_wp2_with fail
  go_loopw [11] (fun iv wr => ∃ (k : Nat) (g : List Bool), k ≤ ids.length ∧ iv = .int .i64 k ∧ Hid (Gs.MarkP q (ids.take k) f g) ∧ Hid (Gs.Kst BL BK BF K q.length (.slice ao q.length cap) wr g) ∧ Hid (w.grownBy wr (some K))) (fun iv _ => ids.length - (intOf iv).toNat)
  case atStart => exact ⟨0, f, Nat.zero_le _, rfl, Gs.MarkP.refl _ _, HKS.out, grown_refl _ _⟩
  case round =>
    clear HKS
    obtain ⟨k, g, hk, rfl, HM, HK, HG⟩ := hrel
    have hgl : g.length = q.length := HM.out.len.trans HLN.out.2
    by_cases hlt : k < ids.length
    · have g1 : decide (k < ids.length) = true := decide_eq_true hlt
      have HTK : Hid (ids.take (k + 1) = ids.take k ++ [idD ids k]) := by
        show _ = _
        rw [List.take_add_one, List.getElem?_eq_getElem hlt]
        unfold idD
        rw [List.getD_eq_getElem?_getD, List.getElem?_eq_getElem hlt]
        rfl
      obtain ⟨bi, oi, ei, i0, i1⟩ := ids_at HIA.out k hlt
      have hkn := HKN.out wr HG.out
      have j0 := hkn _ ⟨_, _, i0⟩ _ _ i0
      have j1 := hkn _ ⟨_, _, i0⟩ _ _ i1
      clear i0 i1 hkn
      generalize idD ids k = z at *
      obtain ⟨xa, xn⟩ := z
      dsimp only at j0 j1
      subst ei
      go_upto_region 3 with fail
      have b6 := heap_alloc_new wr (.cells #[.int .i64 xa, .int .i64 xn] 30)
      have g6 := new_below wr (.cells #[.int .i64 xa, .int .i64 xn] 30)
      generalize wr.alloc (.cells #[.int .i64 xa, .int .i64 xn] 30) = w2 at *
      have HK2 : Hid (Gs.Kst BL BK BF K q.length (.slice ao q.length cap) w2 g) := HK.out.below g6
      have HG2 : Hid (w.grownBy w2 (some K)) := grown_below HG.out g6
      have t0 : w2.cell? ⟨wr.heap.size, 0, none⟩ = some (.int .i64 xa) := by rw [Lib.cell_of_heap b6]; rfl
      have t1 : w2.cell? ⟨wr.heap.size, 1, none⟩ = some (.int .i64 xn) := by rw [Lib.cell_of_heap b6]; rfl
      have t2 : w2.cell? ⟨BL, 0, none⟩ = some (.slice ao q.length cap) := by rw [Lib.cell_of_heap HK2.out.bl]; rfl
      have HSE : Hid _ := search_any q ⟨xa, xn⟩ (.slice ao q.length cap) w2 (HV.out.kn (HKN.out _ HG2.out)) hl (fun y hy => (HOK.out y hy).1.kn (HKN.out _ HG2.out)) HRS.out
      clear b6 g6 HK HG j0 j1
      go_wp2_with fail
      refine Calls.mono HSE.out ?_
      rintro _ w3 ⟨r, bb, rfl, hbs, hb3⟩
      have HK3 : Hid (Gs.Kst BL BK BF K q.length (.slice ao q.length cap) w3 g) := HK2.out.below hb3
      have HG3 : Hid (w.grownBy w3 (some K)) := grown_below HG2.out hb3
      clear HSE HK2 HG2 hb3 t0 t1 t2
      rcases hbs with ⟨rfl, hrl, hre⟩ | ⟨rfl, hno⟩
      · have hgl2 : r < g.length := by omega
        have kc := boolRow_cell HK3.out.row hgl2
        have kb : w3.cell? ⟨BK, 0, none⟩ = some (.slice (some ⟨K, 0, none⟩) q.length q.length) := by rw [Lib.cell_of_heap HK3.out.bk]; rfl
        have hone : ∀ i, i < q.length → (uvD q i).u.id = ⟨xa, xn⟩ → i = r := fun i hi e => Gs.rise_id HRS.out hi hrl (e.trans hre.symm)
        cases hgr : g.getD r false with
        | true =>
          rw [hgr] at kc
          have HN : Hid (Gs.MarkP q (ids.take (k + 1)) f g) := by
            rw [HTK.out]
            exact HM.out.skip (fun i hi e => by rw [hone i hi e]; exact hgr)
          clear hone hre hgr HM HTK
          go_wp2_with fail
          go_roundw
          case rel => exact ⟨k + 1, g, hlt, by go_num, HN.out, HK3.out, HG3.out⟩
          case measure => simp [intOf]; omega
        | false =>
          rw [hgr] at kc
          have kf := Lib.frozen_of_heap HK3.out.row r
          have HK4 : Hid (Gs.Kst BL BK BF K q.length (.slice ao q.length cap) (w3.setCell ⟨K, r, none⟩ (.bool true)) (g.set r true)) := HK3.out.set r
          have HG4 : Hid (w.grownBy (w3.setCell ⟨K, r, none⟩ (.bool true)) (some K)) := grown_trans HG3.out (Gs.set_grown HK3.out r)
          have hll := Gs.left_set hgl2 hgr
          have hlm := Gs.left_mono HM.out.len HM.out.mono
          have HL4 : Hid (Gs.left (g.set r true) < n ∧ (g.set r true).length = q.length) := ⟨by have := HLN.out.1; omega, by rw [Gs.set_len]; exact hgl⟩
          have HVS : Hid (∀ g2 g3, Gs.MarkP q (uvD q r).u.ps (g.set r true) g2 → Gs.MarkP q (uvD q r).u.ts g2 g3 → Gs.MarkP q (ids.take (k + 1)) f g3) := fun g2 g3 h2 h3 => by
            rw [HTK.out, ← hre]
            exact HM.out.visit hrl hgl (fun i hi e => hone i hi (e.trans hre)) h2 h3
          clear hone hre hgr HM HTK hll hlm hgl2
          go_upto_region 6 with fail
          clear kc kb kf HK3 HG3
          generalize w3.setCell ⟨K, r, none⟩ (.bool true) = w4 at *
          generalize g.set r true = g4 at *
          have hxo := HOK.out _ (uvD_mem q r hrl)
          obtain ⟨ao', cap', ea, _, hA⟩ := HV.out
          cases ea
          obtain ⟨b, off, eb, p0, p1, p2, p3, p4⟩ := ups_at hA r hrl
          subst eb
          clear hA
          generalize uvD q r = x at *
          obtain ⟨b1, m1, f1, b2, m2, f2, b3, m3, f3, e1, e2, e3⟩ := hxo.1.forms
          have HX : Hid (UvOk w x ∧ x.u.ps.length ≤ 6 ∧ x.u.ts.length ≤ 6) := hxo
          clear hxo
          obtain ⟨⟨⟨va, vn⟩, ps, says, ts⟩, vp, vs, vt⟩ := x
          dsimp only at *
          subst e1 e2 e3
          have HPC : Hid (∀ z, Kn w z → z.cell? ⟨b, off + r * 5 + 2, none⟩ = some (.slice b1 m1 f1) ∧ z.cell? ⟨b, off + r * 5 + 4, none⟩ = some (.slice b3 m3 f3)) := fun z hz => ⟨hz _ ⟨_, _, p0⟩ _ _ p2, hz _ ⟨_, _, p0⟩ _ _ p4⟩
          clear p0 p1 p2 p3 p4
          have HSC6 : Hid (∀ z, Below w4.heap.size w4 z → z.cell? ⟨BF, 0, none⟩ = some (.func (.func 29) #[] #[.pointer (some ⟨BL, 0, none⟩), .pointer (some ⟨BK, 0, none⟩), .pointer (some ⟨BF, 0, none⟩)]) ∧ z.cell? ⟨BL, 0, none⟩ = some (.slice (some ⟨b, off, none⟩) q.length cap)) := fun z hz => ⟨cell_below hz (by rw [Lib.cell_of_heap HK4.out.bf]; rfl), cell_below hz (by rw [Lib.cell_of_heap HK4.out.bl]; rfl)⟩
          have HSI6 : Hid (∀ z, Below w4.heap.size w4 z → z.cell? ⟨b, off + r * 5 + 2, none⟩ = some (.slice b1 m1 f1)) := fun z hz => cell_below hz (HPC.out _ (HKN.out _ HG4.out)).1
          have HMK6 : Hid (∀ z, Below w4.heap.size w4 z → Calls Try.prog 29 #[.slice b1 m1 f1, .pointer (some ⟨BL, 0, none⟩), .pointer (some ⟨BK, 0, none⟩), .pointer (some ⟨BF, 0, none⟩)] z fun e w' => e = .returned (.tuple #[]) ∧ ∃ g', Gs.MarkP q ps g4 g' ∧ Gs.Kst BL BK BF K q.length (.slice (some ⟨b, off, none⟩) q.length cap) w' g' ∧ z.grownBy w' (some K)) := fun z hz => by
            have hkz := HKN.out z (grown_below HG4.out hz)
            exact IH.out g4 HL4.out.1 HL4.out.2 ps _ z (HK4.out.below hz) (HX.out.1.kn hkz).p (Nat.le_trans HX.out.2.1 (by decide)) (HV.out.kn hkz) (fun y hy => ⟨(HOK.out y hy).1.kn hkz, (HOK.out y hy).2⟩)
          refine wp_region_tail2 (mkT6 BL BK BF b off q.length cap r (off + r * 5) b1 m1 f1) 6 (by decide) (by kernel_rfl) (by kernel_rfl) (by kernel_rfl) (mkT6_mono _ _ _ _ _ _ _ _ _ _ _ _) ?hop6 ?hend6
          case hop6 =>
            refine AllOps.cons (fun a y h hpre => ?_) ?_
            · have e3 : a.eval (.tmp 3) = (.pointer (some ⟨BF, 0, none⟩) : Value) := h.old 3 (by kernel_rfl)
              obtain ⟨s0, s1⟩ := HSC6.out y h.below
              refine opOk_val (v := .func (.func 29) #[] #[.pointer (some ⟨BL, 0, none⟩), .pointer (some ⟨BK, 0, none⟩), .pointer (some ⟨BF, 0, none⟩)]) (w' := y) (wanted_none rfl) ?_ (fun t ht => by cases ht; exact rfl) (Below.refl _ _)
              have ec : ∀ v, a.eval (.const v) = v := fun _ => rfl
              generalize a.eval = ev at *
              clear h hpre
              go_simp
            refine AllOps.cons (fun a y h hpre => ?_) ?_
            · have e1 : a.eval (.tmp 1) = (.pointer (some ⟨BL, 0, none⟩) : Value) := h.old 1 (by kernel_rfl)
              obtain ⟨s0, s1⟩ := HSC6.out y h.below
              refine opOk_val (v := .slice (some ⟨b, off, none⟩) q.length cap) (w' := y) (wanted_none rfl) ?_ (fun t ht => by cases ht; exact rfl) (Below.refl _ _)
              have ec : ∀ v, a.eval (.const v) = v := fun _ => rfl
              generalize a.eval = ev at *
              clear h hpre
              go_simp
            refine AllOps.cons (fun a y h hpre => ?_) ?_
            · have e7 : a.eval (.tmp 7) = (.int .i64 r : Value) := h.old 7 (by kernel_rfl)
              refine opOk_val (v := .int .i64 r) (w' := y) (wanted_none rfl) ?_ (fun t ht => by cases ht; exact rfl) (Below.refl _ _)
              have ec : ∀ v, a.eval (.const v) = v := fun _ => rfl
              generalize a.eval = ev at *
              clear h hpre
              go_simp
            refine AllOps.cons (fun a y h hpre => ?_) ?_
            · have e33 : a.eval (.tmp 33) = (.slice (some ⟨b, off, none⟩) q.length cap : Value) := h.of 33 (by kernel_rfl)
              have e34 : a.eval (.tmp 34) = (.int .i64 r : Value) := h.of 34 (by kernel_rfl)
              refine opOk_val (v := .pointer (some ⟨b, (off + r * 5), none⟩)) (w' := y) (wanted_none rfl) ?_ (fun t ht => by cases ht; exact rfl) (Below.refl _ _)
              have ec : ∀ v, a.eval (.const v) = v := fun _ => rfl
              generalize a.eval = ev at *
              clear h hpre
              go_simp
            refine AllOps.cons (fun a y h hpre => ?_) ?_
            · have e35 : a.eval (.tmp 35) = (.pointer (some ⟨b, (off + r * 5), none⟩) : Value) := h.of 35 (by kernel_rfl)
              refine opOk_val (v := .pointer (some ⟨b, (off + r * 5) + 2, none⟩)) (w' := y) (wanted_none rfl) ?_ (fun t ht => by cases ht; exact rfl) (Below.refl _ _)
              have ec : ∀ v, a.eval (.const v) = v := fun _ => rfl
              generalize a.eval = ev at *
              clear h hpre
              go_simp
            refine AllOps.cons (fun a y h hpre => ?_) ?_
            · have e36 : a.eval (.tmp 36) = (.pointer (some ⟨b, (off + r * 5) + 2, none⟩) : Value) := h.of 36 (by kernel_rfl)
              have s2 := HSI6.out y h.below
              refine opOk_val (v := .slice b1 m1 f1) (w' := y) (wanted_none rfl) ?_ (fun t ht => by cases ht; exact rfl) (Below.refl _ _)
              have ec : ∀ v, a.eval (.const v) = v := fun _ => rfl
              generalize a.eval = ev at *
              clear h hpre
              go_simp
            exact AllOps.nil
          rintro ⟨tm0, df⟩ y hI _
          have e32 : Act.eval ⟨tm0, df⟩ (.tmp 32) = (.func (.func 29) #[] #[.pointer (some ⟨BL, 0, none⟩), .pointer (some ⟨BK, 0, none⟩), .pointer (some ⟨BF, 0, none⟩)] : Value) := hI.all 0 _ 32 (by decide) rfl rfl
          have e37 : Act.eval ⟨tm0, df⟩ (.tmp 37) = (.slice b1 m1 f1 : Value) := hI.all 5 _ 37 (by decide) rfl rfl
          have hsN : tm0.size = 47 := hI.size
          show wpOps Try.prog _ _ [6] _ _
          rw [wpOps_cons]
          refine wpOp_call (f := 29) (args := #[.slice b1 m1 f1, .pointer (some ⟨BL, 0, none⟩), .pointer (some ⟨BK, 0, none⟩), .pointer (some ⟨BF, 0, none⟩)]) rfl (wanted_none rfl) ?_ ?_
          · generalize Act.eval ⟨tm0, df⟩ = ev at *
            clear hI
            go_simp
          refine Calls.mono (HMK6.out y hI.below) ?_
          rintro _ y6 ⟨rfl, g6, hM6, hK6, hG6⟩
          refine ⟨_, rfl, ?_⟩
          have hstE : ∀ t, t ∉ [32, 33, 34, 35, 36, 37, 38] → (tm0.setIfInBounds 38 (.tuple #[])).getD t undef = _ := fun t ht => by
            have hC : t ≠ 38 := fun e => ht (by rw [e]; decide)
            exact (put_get_ne (a := ⟨tm0, df⟩) hC).trans (hI.still t ht)
          have hszE : (tm0.setIfInBounds 38 (.tuple #[])).size = 47 := by simp [hsN]
          obtain rfl : df = [] := hI.defers
          have HG6 : Hid (w4.grownBy y6 (some K)) := grown_trans (grownBy_of_below hI.below _) hG6
          have HM6 : Hid _ := hM6
          have HK6 : Hid _ := hK6
          clear hI hsN e32 e37 hG6 hM6 hK6 HMK6 HSC6 HSI6
          refine wpOps_end (t := 38) ?_
          generalize tm0.setIfInBounds 38 (.tuple #[]) = tm at *
          have hF8 := tmps_fold [32, 33, 34, 35, 36, 37, 38] tm _ (hszE.trans (by rfl)) hstE
          clear hszE hstE
          simp only [List.foldl_cons, List.foldl_nil] at hF8
          generalize tm.getD 32 undef = x32 at hF8
          generalize tm.getD 33 undef = x33 at hF8
          generalize tm.getD 34 undef = x34 at hF8
          generalize tm.getD 35 undef = x35 at hF8
          generalize tm.getD 36 undef = x36 at hF8
          generalize tm.getD 37 undef = x37 at hF8
          generalize tm.getD 38 undef = x38 at hF8
          simp only [List.setIfInBounds_toArray, List.set_cons_zero, List.set_cons_succ] at hF8
          subst hF8
          have HG6' : Hid (w.grownBy y6 (some K)) := grown_trans HG4.out HG6.out
          have HL6 : Hid (Gs.left g6 < n ∧ g6.length = q.length) := ⟨Nat.lt_of_le_of_lt (Gs.left_mono HM6.out.len HM6.out.mono) HL4.out.1, HM6.out.len.trans HL4.out.2⟩
          have HSC7 : Hid (∀ z, Below y6.heap.size y6 z → z.cell? ⟨BF, 0, none⟩ = some (.func (.func 29) #[] #[.pointer (some ⟨BL, 0, none⟩), .pointer (some ⟨BK, 0, none⟩), .pointer (some ⟨BF, 0, none⟩)]) ∧ z.cell? ⟨BL, 0, none⟩ = some (.slice (some ⟨b, off, none⟩) q.length cap)) := fun z hz => ⟨cell_below hz (by rw [Lib.cell_of_heap HK6.out.bf]; rfl), cell_below hz (by rw [Lib.cell_of_heap HK6.out.bl]; rfl)⟩
          have HSI7 : Hid (∀ z, Below y6.heap.size y6 z → z.cell? ⟨b, off + r * 5 + 4, none⟩ = some (.slice b3 m3 f3)) := fun z hz => cell_below hz (HPC.out _ (HKN.out _ HG6'.out)).2
          have HMK7 : Hid (∀ z, Below y6.heap.size y6 z → Calls Try.prog 29 #[.slice b3 m3 f3, .pointer (some ⟨BL, 0, none⟩), .pointer (some ⟨BK, 0, none⟩), .pointer (some ⟨BF, 0, none⟩)] z fun e w' => e = .returned (.tuple #[]) ∧ ∃ g', Gs.MarkP q ts g6 g' ∧ Gs.Kst BL BK BF K q.length (.slice (some ⟨b, off, none⟩) q.length cap) w' g' ∧ z.grownBy w' (some K)) := fun z hz => by
            have hkz := HKN.out z (grown_below HG6'.out hz)
            exact IH.out g6 HL6.out.1 HL6.out.2 ts _ z (HK6.out.below hz) (HX.out.1.kn hkz).t (Nat.le_trans HX.out.2.2 (by decide)) (HV.out.kn hkz) (fun y hy => ⟨(HOK.out y hy).1.kn hkz, (HOK.out y hy).2⟩)
          go_upto_region 7 with fail
          refine wp_region_tail2 (mkT7 BL BK BF b off q.length cap r (off + r * 5) b3 m3 f3) 6 (by decide) (by kernel_rfl) (by kernel_rfl) (by kernel_rfl) (mkT7_mono _ _ _ _ _ _ _ _ _ _ _ _) ?hop7 ?hend7
          case hop7 =>
            refine AllOps.cons (fun a y h hpre => ?_) ?_
            · have e3 : a.eval (.tmp 3) = (.pointer (some ⟨BF, 0, none⟩) : Value) := h.old 3 (by kernel_rfl)
              obtain ⟨s0, s1⟩ := HSC7.out y h.below
              refine opOk_val (v := .func (.func 29) #[] #[.pointer (some ⟨BL, 0, none⟩), .pointer (some ⟨BK, 0, none⟩), .pointer (some ⟨BF, 0, none⟩)]) (w' := y) (wanted_none rfl) ?_ (fun t ht => by cases ht; exact rfl) (Below.refl _ _)
              have ec : ∀ v, a.eval (.const v) = v := fun _ => rfl
              generalize a.eval = ev at *
              clear h hpre
              go_simp
            refine AllOps.cons (fun a y h hpre => ?_) ?_
            · have e1 : a.eval (.tmp 1) = (.pointer (some ⟨BL, 0, none⟩) : Value) := h.old 1 (by kernel_rfl)
              obtain ⟨s0, s1⟩ := HSC7.out y h.below
              refine opOk_val (v := .slice (some ⟨b, off, none⟩) q.length cap) (w' := y) (wanted_none rfl) ?_ (fun t ht => by cases ht; exact rfl) (Below.refl _ _)
              have ec : ∀ v, a.eval (.const v) = v := fun _ => rfl
              generalize a.eval = ev at *
              clear h hpre
              go_simp
            refine AllOps.cons (fun a y h hpre => ?_) ?_
            · have e7 : a.eval (.tmp 7) = (.int .i64 r : Value) := h.old 7 (by kernel_rfl)
              refine opOk_val (v := .int .i64 r) (w' := y) (wanted_none rfl) ?_ (fun t ht => by cases ht; exact rfl) (Below.refl _ _)
              have ec : ∀ v, a.eval (.const v) = v := fun _ => rfl
              generalize a.eval = ev at *
              clear h hpre
              go_simp
            refine AllOps.cons (fun a y h hpre => ?_) ?_
            · have e40 : a.eval (.tmp 40) = (.slice (some ⟨b, off, none⟩) q.length cap : Value) := h.of 40 (by kernel_rfl)
              have e41 : a.eval (.tmp 41) = (.int .i64 r : Value) := h.of 41 (by kernel_rfl)
              refine opOk_val (v := .pointer (some ⟨b, (off + r * 5), none⟩)) (w' := y) (wanted_none rfl) ?_ (fun t ht => by cases ht; exact rfl) (Below.refl _ _)
              have ec : ∀ v, a.eval (.const v) = v := fun _ => rfl
              generalize a.eval = ev at *
              clear h hpre
              go_simp
            refine AllOps.cons (fun a y h hpre => ?_) ?_
            · have e42 : a.eval (.tmp 42) = (.pointer (some ⟨b, (off + r * 5), none⟩) : Value) := h.of 42 (by kernel_rfl)
              refine opOk_val (v := .pointer (some ⟨b, (off + r * 5) + 4, none⟩)) (w' := y) (wanted_none rfl) ?_ (fun t ht => by cases ht; exact rfl) (Below.refl _ _)
              have ec : ∀ v, a.eval (.const v) = v := fun _ => rfl
              generalize a.eval = ev at *
              clear h hpre
              go_simp
            refine AllOps.cons (fun a y h hpre => ?_) ?_
            · have e43 : a.eval (.tmp 43) = (.pointer (some ⟨b, (off + r * 5) + 4, none⟩) : Value) := h.of 43 (by kernel_rfl)
              have s2 := HSI7.out y h.below
              refine opOk_val (v := .slice b3 m3 f3) (w' := y) (wanted_none rfl) ?_ (fun t ht => by cases ht; exact rfl) (Below.refl _ _)
              have ec : ∀ v, a.eval (.const v) = v := fun _ => rfl
              generalize a.eval = ev at *
              clear h hpre
              go_simp
            exact AllOps.nil
          rintro ⟨tm0, df⟩ y hI _
          have e39 : Act.eval ⟨tm0, df⟩ (.tmp 39) = (.func (.func 29) #[] #[.pointer (some ⟨BL, 0, none⟩), .pointer (some ⟨BK, 0, none⟩), .pointer (some ⟨BF, 0, none⟩)] : Value) := hI.all 0 _ 39 (by decide) rfl rfl
          have e44 : Act.eval ⟨tm0, df⟩ (.tmp 44) = (.slice b3 m3 f3 : Value) := hI.all 5 _ 44 (by decide) rfl rfl
          have hsN : tm0.size = 47 := hI.size
          show wpOps Try.prog _ _ [6] _ _
          rw [wpOps_cons]
          refine wpOp_call (f := 29) (args := #[.slice b3 m3 f3, .pointer (some ⟨BL, 0, none⟩), .pointer (some ⟨BK, 0, none⟩), .pointer (some ⟨BF, 0, none⟩)]) rfl (wanted_none rfl) ?_ ?_
          · generalize Act.eval ⟨tm0, df⟩ = ev at *
            clear hI
            go_simp
          refine Calls.mono (HMK7.out y hI.below) ?_
          rintro _ y7 ⟨rfl, g7, hM7, hK7, hG7⟩
          refine ⟨_, rfl, ?_⟩
          have hstE : ∀ t, t ∉ [39, 40, 41, 42, 43, 44, 45] → (tm0.setIfInBounds 45 (.tuple #[])).getD t undef = _ := fun t ht => by
            have hC : t ≠ 45 := fun e => ht (by rw [e]; decide)
            exact (put_get_ne (a := ⟨tm0, df⟩) hC).trans (hI.still t ht)
          have hszE : (tm0.setIfInBounds 45 (.tuple #[])).size = 47 := by simp [hsN]
          obtain rfl : df = [] := hI.defers
          have HG7 : Hid (y6.grownBy y7 (some K)) := grown_trans (grownBy_of_below hI.below _) hG7
          have HM7 : Hid _ := hM7
          have HK7 : Hid _ := hK7
          clear hI hsN e39 e44 hG7 hM7 hK7 HMK7 HSC7 HSI7
          refine wpOps_end (t := 45) ?_
          generalize tm0.setIfInBounds 45 (.tuple #[]) = tm at *
          have hF8 := tmps_fold [39, 40, 41, 42, 43, 44, 45] tm _ (hszE.trans (by rfl)) hstE
          clear hszE hstE
          simp only [List.foldl_cons, List.foldl_nil] at hF8
          generalize tm.getD 39 undef = x39 at hF8
          generalize tm.getD 40 undef = x40 at hF8
          generalize tm.getD 41 undef = x41 at hF8
          generalize tm.getD 42 undef = x42 at hF8
          generalize tm.getD 43 undef = x43 at hF8
          generalize tm.getD 44 undef = x44 at hF8
          generalize tm.getD 45 undef = x45 at hF8
          simp only [List.setIfInBounds_toArray, List.set_cons_zero, List.set_cons_succ] at hF8
          subst hF8
          have HN : Hid _ := HVS.out g6 g7 HM6.out HM7.out
          have HG7' : Hid (w.grownBy y7 (some K)) := grown_trans HG6'.out HG7.out
          clear HVS HM6 HM7 HG6 HG7 HG6' HG4
          go_wp2_with fail
          go_roundw
          case rel => exact ⟨k + 1, g7, hlt, by go_num, HN.out, HK7.out, HG7'.out⟩
          case measure => simp [intOf]; omega
      · have HN : Hid (Gs.MarkP q (ids.take (k + 1)) f g) := by
          rw [HTK.out]
          refine HM.out.skip (fun i hi e => ?_)
          have h2 := Gs.has_uvD hi
          rw [e, hno] at h2
          cases h2
        clear hno HM HTK
        go_wp2_with fail
        go_roundw
        case rel => exact ⟨k + 1, g, hlt, by go_num, HN.out, HK3.out, HG3.out⟩
        case measure => simp [intOf]; omega
    · have g1 : decide (k < ids.length) = false := decide_eq_false hlt
      have HN : Hid (Gs.MarkP q ids f g) := by
        have := HM.out
        rw [List.take_of_length_le (by omega)] at this
        exact this
      go_wp2_with fail
      exact bodyPost_end (v := .tuple #[]) (by simp [results, Try.results29, go_sem]) rfl ⟨rfl, g, HN.out, HK.out, HG.out⟩
end Go.Proofs.Ytmfaodapofamfaa

/- knownBy: which of some updates are heads, or behind one. -/
namespace Go.Proofs.Ytmfaodapofamfaa
open Go.RowKit

set_option maxRecDepth 100000 in
set_option maxHeartbeats 2000000 in
theorem knownBy_any (q : List Uv) (ids : List Wr.Id) (iv lv : Value) (w : World) (hr : Wr.rise Dg.uOrd (ups q) = true) (hl : q.length ≤ 1000) (hI : IdsV w iv ids) (hil : ids.length ≤ 1000) (hV : UpsV w lv q) (hok : ∀ y, y ∈ q → UvOk w y ∧ y.u.ps.length ≤ 6 ∧ y.u.ts.length ≤ 6) :
    Calls Try.prog 20 #[iv, lv] w fun e w' => ∃ K, e = .returned (.slice (some ⟨K, 0, none⟩) q.length q.length) ∧ w'.heap[K]? = some (.cells (boolRow (Gs.known (ups q) ids)) 4) ∧ w.heap.size ≤ K ∧ Below w.heap.size w w' := by
  obtain ⟨ao, cap, rfl, hcp, hA⟩ := id hV
  obtain ⟨ai, ci, rfl, hci, hAi⟩ := id hI
  have hmk := run_make_row' (P := Try.prog) 53 4 (.bool false) 1 Try.underlying53 (by kernel_rfl) rfl .i64 .i64 q.length (by omega) (by omega)
  simp only [made_boolRow] at hmk
  go_enter Try.func20, Try.ntmps20
  go_upto_region 1 with fail
  have b0 := heap_alloc_new w (.cells #[.slice ao q.length cap] 22)
  have g0 := new_below w (.cells #[.slice ao q.length cap] 22)
  generalize w.alloc (.cells #[.slice ao q.length cap] 22) = w1 at *
  have c0 : w1.cell? ⟨w.heap.size, 0, none⟩ = some (.slice ao q.length cap) := by rw [Lib.cell_of_heap b0]; rfl
  go_upto_region 2 with fail
  have b1 := heap_alloc_new w1 (.cells (boolRow (List.replicate q.length false)) 4)
  have g1 := new_below w1 (.cells (boolRow (List.replicate q.length false)) 4)
  have z1 : (w1.alloc (.cells (boolRow (List.replicate q.length false)) 4)).heap.size = w1.heap.size + 1 := by simp
  have b2 := heap_alloc_new (w1.alloc (.cells (boolRow (List.replicate q.length false)) 4)) (.cells #[.slice (some ⟨w1.heap.size, 0, none⟩) q.length q.length] 53)
  have g2 := new_below (w1.alloc (.cells (boolRow (List.replicate q.length false)) 4)) (.cells #[.slice (some ⟨w1.heap.size, 0, none⟩) q.length q.length] 53)
  rw [z1] at b2
  have b1' := (g2.block _ (by rw [z1]; exact Nat.lt_succ_self _)).trans b1
  have hb12 := g1.trans (g2.mono g1.size)
  have z2 : ((w1.alloc (.cells (boolRow (List.replicate q.length false)) 4)).alloc (.cells #[.slice (some ⟨w1.heap.size, 0, none⟩) q.length q.length] 53)).heap.size = w1.heap.size + 2 := by simp
  generalize (w1.alloc (.cells (boolRow (List.replicate q.length false)) 4)).alloc (.cells #[.slice (some ⟨w1.heap.size, 0, none⟩) q.length q.length] 53) = w2 at *
  clear b1 g1 g2 z1 hmk
  go_upto_region 3 with fail
  have b3 := heap_alloc_new w2 (.cells #[.nilFunc] 64)
  have g3 := new_below w2 (.cells #[.nilFunc] 64)
  rw [z2] at b3
  generalize w2.alloc (.cells #[.nilFunc] 64) = w3 at *
  have f0 : w3.cell? ⟨w1.heap.size + 2, 0, none⟩ = some .nilFunc := by rw [Lib.cell_of_heap b3]; rfl
  have f1 := Lib.frozen_of_heap b3 0
  go_upto_region 4 with fail
  have k3 : (w3.setCell ⟨w1.heap.size + 2, 0, none⟩ (.func (.func 29) #[] #[.pointer (some ⟨w.heap.size, 0, none⟩), .pointer (some ⟨w1.heap.size + 1, 0, none⟩), .pointer (some ⟨w1.heap.size + 2, 0, none⟩)])).heap[w1.heap.size + 2]? = some (.cells #[.func (.func 29) #[] #[.pointer (some ⟨w.heap.size, 0, none⟩), .pointer (some ⟨w1.heap.size + 1, 0, none⟩), .pointer (some ⟨w1.heap.size + 2, 0, none⟩)]] 64) := by rw [Lib.heap_setCell_same b3]; rfl
  have ko : ∀ j, j < w1.heap.size + 2 → (w3.setCell ⟨w1.heap.size + 2, 0, none⟩ (.func (.func 29) #[] #[.pointer (some ⟨w.heap.size, 0, none⟩), .pointer (some ⟨w1.heap.size + 1, 0, none⟩), .pointer (some ⟨w1.heap.size + 2, 0, none⟩)])).heap[j]? = w2.heap[j]? := fun j hj => by rw [heap_set_other (by omega)]; exact g3.block j (by rw [z2]; exact hj)
  have hsz : w.heap.size < w1.heap.size := (Array.getElem?_eq_some_iff.1 b0).1
  have hKS : Gs.Kst w.heap.size (w1.heap.size + 1) (w1.heap.size + 2) w1.heap.size q.length (.slice ao q.length cap) (w3.setCell ⟨w1.heap.size + 2, 0, none⟩ (.func (.func 29) #[] #[.pointer (some ⟨w.heap.size, 0, none⟩), .pointer (some ⟨w1.heap.size + 1, 0, none⟩), .pointer (some ⟨w1.heap.size + 2, 0, none⟩)])) (List.replicate q.length false) :=
    ⟨(ko _ (by omega)).trans b1', (ko _ (by omega)).trans ((hb12.block _ hsz).trans b0), (ko _ (by omega)).trans b2, k3⟩
  have hB4 : Below w.heap.size w (w3.setCell ⟨w1.heap.size + 2, 0, none⟩ (.func (.func 29) #[] #[.pointer (some ⟨w.heap.size, 0, none⟩), .pointer (some ⟨w1.heap.size + 1, 0, none⟩), .pointer (some ⟨w1.heap.size + 2, 0, none⟩)])) := ((g0.trans (hb12.mono g0.size)).trans (g3.mono (g0.trans (hb12.mono g0.size)).size)).setCell (p := ⟨w1.heap.size + 2, 0, none⟩) (by show w.heap.size ≤ w1.heap.size + 2; omega) _
  clear f0 f1 k3 ko b3 g3 b2 b1' hb12 z2 b0 c0
  generalize w3.setCell ⟨w1.heap.size + 2, 0, none⟩ (.func (.func 29) #[] #[.pointer (some ⟨w.heap.size, 0, none⟩), .pointer (some ⟨w1.heap.size + 1, 0, none⟩), .pointer (some ⟨w1.heap.size + 2, 0, none⟩)]) = w4 at *
  have HB4 : Hid (Below w.heap.size w w4) := hB4
  have hkn : Kn w w4 := Kn.below hB4
  have HMK : Hid _ := mark_any q hr hl w.heap.size (w1.heap.size + 1) (w1.heap.size + 2) w1.heap.size ao cap _ (List.replicate q.length false) ids (.slice ai ids.length ci) w4 rfl (List.length_replicate) hKS (hkn.ids hI) hil (hV.kn hkn) (fun y hy => ⟨(hok y hy).1.kn hkn, (hok y hy).2⟩)
  have c0 : w4.cell? ⟨w1.heap.size + 2, 0, none⟩ = some (.func (.func 29) #[] #[.pointer (some ⟨w.heap.size, 0, none⟩), .pointer (some ⟨w1.heap.size + 1, 0, none⟩), .pointer (some ⟨w1.heap.size + 2, 0, none⟩)]) := by rw [Lib.cell_of_heap hKS.bf]; rfl
  clear hKS hB4 hkn hok hV hI hA hAi hr hcp hci g0
  go_wp2_with fail
  refine Calls.mono HMK.out ?_
  rintro _ w5 ⟨rfl, g, hM, hK, hG⟩
  have c1 : w5.cell? ⟨w1.heap.size + 1, 0, none⟩ = some (.slice (some ⟨w1.heap.size, 0, none⟩) q.length q.length) := by rw [Lib.cell_of_heap hK.bk]; rfl
  have hrow := hK.row
  rw [hM.known] at hrow
  have HB5 : Hid (Below w.heap.size w w5) := below_row HB4.out hG (by omega)
  clear HMK hK hM hG HB4 c0
  go_wp2_with fail
  go_ret
  exact ⟨w1.heap.size, rfl, hrow, by omega, HB5.out⟩
end Go.Proofs.Ytmfaodapofamfaa

/- What the document's CheckReplica answers, plain. -/
namespace Go.Proofs.Ytmfaodapofamfaa
open Go.RowKit

namespace Dg
open Wr
end Dg
end Go.Proofs.Ytmfaodapofamfaa

/- The document's SameUpdates, SameReplica, SameIds; replicaIs, factsAre: of what is the same. -/
namespace Go.Proofs.Ytmfaodapofamfaa
open Go.RowKit

def sameT (b f n c b9 f9 n9 c9 k o o9 : Nat) (X Y : Value) (tQ : Nat) (vQ : Value) (_ : World) : Prop :=
  match tQ with
  | 17 => vQ = .slice (some ⟨b, f, none⟩) n c
  | 18 => vQ = .int .i64 k
  | 19 => vQ = .pointer (some ⟨b, o, none⟩)
  | 20 => vQ = X
  | 21 => vQ = .slice (some ⟨b9, f9, none⟩) n9 c9
  | 22 => vQ = .int .i64 k
  | 23 => vQ = .pointer (some ⟨b9, o9, none⟩)
  | 24 => vQ = Y
  | 25 => vQ = .bool true
  | 26 => vQ = .bool false
  | _ => True
theorem sameT_mono (b f n c b9 f9 n9 c9 k o o9 : Nat) (X Y : Value) (tQ : Nat) (vQ : Value) (W W' : World) (_ : Below W.heap.size W W') (h : sameT b f n c b9 f9 n9 c9 k o o9 X Y tQ vQ W) : sameT b f n c b9 f9 n9 c9 k o o9 X Y tQ vQ W' := by
  revert h
  unfold sameT
  split <;> (intro h; first | exact h)

set_option maxRecDepth 100000 in
set_option maxHeartbeats 2000000 in
theorem SameUpdates_same (q r : List Uv) (vq vr : Value) (w : World) (hV : UpsV w vq q) (hR : UpsV w vr r) (he : ups q = ups r) (hq : q.length ≤ 1000) (hok : ∀ x, x ∈ q → UvOk w x) (hok2 : ∀ x, x ∈ r → UvOk w x) :
    Calls Try.prog 12 #[vq, vr] w fun e w' => e = .returned (.bool true) ∧ Below w.heap.size w w' := by
  have HO : Hid (∀ x, x ∈ q → UvOk w x) := hok
  have HO2 : Hid (∀ x, x ∈ r → UvOk w x) := hok2
  have HE : Hid (∀ k, k < q.length → (uvD q k).u = (uvD r k).u) := fun k hk => by
    have h1 := congrArg (fun l => l[k]?) he
    have hk2 : k < r.length := by have := congrArg List.length he; rw [ups_length, ups_length] at this; omega
    simpa [ups, uvD, hk, hk2] using h1
  have hl : q.length = r.length := by have := congrArg List.length he; rwa [ups_length, ups_length] at this
  obtain ⟨ao, cap, rfl, _, hA⟩ := hV
  obtain ⟨ao9, cap9, rfl, _, hA9⟩ := hR
  have HA : Hid (UpsAt w ao q) := hA
  have HA9 : Hid (UpsAt w ao9 r) := hA9
  clear hok hok2 hA hA9 he
  have g0 : ((q.length : Int) == (r.length : Int)) = true := by rw [hl]; simp
  have g1 : (q.length == r.length) = true := by rw [hl]; simp
  have g3 : (q.length : Int) = (r.length : Int) := by rw [hl]
  go_enter Try.func12, Try.ntmps12
  go_wp2_with fail
  go_loopw [5] (fun iv wr => ∃ k : Nat, k ≤ q.length ∧ iv = .int .i64 k ∧ Hid (Below w.heap.size w wr)) (fun iv _ => q.length - (intOf iv).toNat)
  case atStart => exact ⟨0, Nat.zero_le _, rfl, Below.refl _ _⟩
  case round =>
    obtain ⟨k, hk, rfl, HG⟩ := hrel
    by_cases hlt : k < q.length
    · have g2 : decide (k < q.length) = true := decide_eq_true hlt
      have hlt2 : k < r.length := by omega
      obtain ⟨b, off, rfl, p0, p1, p2, p3, p4⟩ := ups_at (HA.out.kc (Kc.below HG.out)) k hlt
      obtain ⟨b9, off9, rfl, s0, s1, s2, s3, s4⟩ := ups_at (HA9.out.kc (Kc.below HG.out)) k hlt2
      have hx := (HO.out _ (uvD_mem q k hlt)).below HG.out
      have hy := (HO2.out _ (uvD_mem r k hlt2)).below HG.out
      have hxy := HE.out k hlt
      have HCL : Hid (∀ z, Below wr.heap.size wr z → Calls Try.prog 6 #[uvVal (uvD q k), uvVal (uvD r k)] z fun e w' => e = .returned (.bool true) ∧ Below z.heap.size z w') := fun z hz => by
        have h1 := hx.below hz
        have h2 := hy.below hz
        refine (SameUpdate_any (uvD q k).u (uvD r k).u _ _ _ _ _ _ z h1.p h1.s h1.t h2.p h2.s h2.t h1.f h2.f h1.l).mono ?_
        rintro e w' ⟨t, rfl, ht, hb⟩
        exact ⟨by rw [ht.mpr hxy], hb⟩
      have HU : Hid (∀ z, Below wr.heap.size wr z → UpIn z b (off + k * 5) (uvD q k) ∧ UpIn z b9 (off9 + k * 5) (uvD r k)) := fun z hz => ⟨⟨cell_below hz p0, cell_below hz p1, cell_below hz p2, cell_below hz p3, cell_below hz p4⟩, ⟨cell_below hz s0, cell_below hz s1, cell_below hz s2, cell_below hz s3, cell_below hz s4⟩⟩
      obtain ⟨a1, n1, d1, a2, n2, d2, a3, n3, d3, e1, e2, e3⟩ := hx.forms
      obtain ⟨b1, m1, f1, b2, m2, f2, b3, m3, f3, e4, e5, e6⟩ := hy.forms
      clear p0 p1 p2 p3 p4 s0 s1 s2 s3 s4 hx hy hxy
      generalize uvD q k = x at *
      generalize uvD r k = y at *
      obtain ⟨⟨⟨ua, un⟩, ps, says, ts⟩, vp, vs, vt⟩ := x
      obtain ⟨⟨⟨va, vn⟩, ps2, says2, ts2⟩, vp2, vs2, vt2⟩ := y
      dsimp only at *
      subst e1 e2 e3 e4 e5 e6
      go_upto_region 6 with fail
      refine wp_region_tabA (sameT b off q.length cap b9 off9 r.length cap9 k (off + k * 5) (off9 + k * 5) (.agg #[.int .i64 ua, .int .i64 un, .slice a1 n1 d1, .slice a2 n2 d2, .slice a3 n3 d3]) (.agg #[.int .i64 va, .int .i64 vn, .slice b1 m1 f1, .slice b2 m2 f2, .slice b3 m3 f3])) (by kernel_rfl) (by kernel_rfl) (sameT_mono _ _ _ _ _ _ _ _ _ _ _ _ _) ?hop6 ?hend6
      case hop6 =>
        refine AllOps.cons (fun a y h => ?_) ?_
        · have e0 : a.eval (.tmp 0) = (.slice (some ⟨b, off, none⟩) q.length cap : Value) := h.old 0 (by kernel_rfl)
          refine opOk_val (v := .slice (some ⟨b, off, none⟩) q.length cap) (w' := y) (wanted_none rfl) ?_ (fun t ht => by cases ht; exact rfl) (Below.refl _ _)
          have ec : ∀ v, a.eval (.const v) = v := fun _ => rfl
          generalize a.eval = ev at *
          clear h
          go_simp
        refine AllOps.cons (fun a y h => ?_) ?_
        · have e5 : a.eval (.tmp 5) = (.int .i64 k : Value) := h.old 5 (by kernel_rfl)
          refine opOk_val (v := .int .i64 k) (w' := y) (wanted_none rfl) ?_ (fun t ht => by cases ht; exact rfl) (Below.refl _ _)
          have ec : ∀ v, a.eval (.const v) = v := fun _ => rfl
          generalize a.eval = ev at *
          clear h
          go_simp
        refine AllOps.cons (fun a y h => ?_) ?_
        · have e17 : a.eval (.tmp 17) = (.slice (some ⟨b, off, none⟩) q.length cap : Value) := h.of 17 (by kernel_rfl)
          have e18 : a.eval (.tmp 18) = (.int .i64 k : Value) := h.of 18 (by kernel_rfl)
          refine opOk_val (v := .pointer (some ⟨b, off + k * 5, none⟩)) (w' := y) (wanted_none rfl) ?_ (fun t ht => by cases ht; exact rfl) (Below.refl _ _)
          have ec : ∀ v, a.eval (.const v) = v := fun _ => rfl
          generalize a.eval = ev at *
          clear h
          go_simp
        refine AllOps.cons (fun a y h => ?_) ?_
        · have e19 : a.eval (.tmp 19) = (.pointer (some ⟨b, off + k * 5, none⟩) : Value) := h.of 19 (by kernel_rfl)
          obtain ⟨⟨u0, u1, u2, u3, u4⟩, _⟩ := HU.out y h.below
          refine opOk_val (v := .agg #[.int .i64 ua, .int .i64 un, .slice a1 n1 d1, .slice a2 n2 d2, .slice a3 n3 d3]) (w' := y) (wanted_none rfl) ?_ (fun t ht => by cases ht; exact rfl) (Below.refl _ _)
          have ec : ∀ v, a.eval (.const v) = v := fun _ => rfl
          generalize a.eval = ev at *
          clear h
          go_simp
        refine AllOps.cons (fun a y h => ?_) ?_
        · have e1 : a.eval (.tmp 1) = (.slice (some ⟨b9, off9, none⟩) r.length cap9 : Value) := h.old 1 (by kernel_rfl)
          refine opOk_val (v := .slice (some ⟨b9, off9, none⟩) r.length cap9) (w' := y) (wanted_none rfl) ?_ (fun t ht => by cases ht; exact rfl) (Below.refl _ _)
          have ec : ∀ v, a.eval (.const v) = v := fun _ => rfl
          generalize a.eval = ev at *
          clear h
          go_simp
        refine AllOps.cons (fun a y h => ?_) ?_
        · have e5 : a.eval (.tmp 5) = (.int .i64 k : Value) := h.old 5 (by kernel_rfl)
          refine opOk_val (v := .int .i64 k) (w' := y) (wanted_none rfl) ?_ (fun t ht => by cases ht; exact rfl) (Below.refl _ _)
          have ec : ∀ v, a.eval (.const v) = v := fun _ => rfl
          generalize a.eval = ev at *
          clear h
          go_simp
        refine AllOps.cons (fun a y h => ?_) ?_
        · have e21 : a.eval (.tmp 21) = (.slice (some ⟨b9, off9, none⟩) r.length cap9 : Value) := h.of 21 (by kernel_rfl)
          have e22 : a.eval (.tmp 22) = (.int .i64 k : Value) := h.of 22 (by kernel_rfl)
          refine opOk_val (v := .pointer (some ⟨b9, off9 + k * 5, none⟩)) (w' := y) (wanted_none rfl) ?_ (fun t ht => by cases ht; exact rfl) (Below.refl _ _)
          have ec : ∀ v, a.eval (.const v) = v := fun _ => rfl
          generalize a.eval = ev at *
          clear h
          go_simp
        refine AllOps.cons (fun a y h => ?_) ?_
        · have e23 : a.eval (.tmp 23) = (.pointer (some ⟨b9, off9 + k * 5, none⟩) : Value) := h.of 23 (by kernel_rfl)
          obtain ⟨_, ⟨u0, u1, u2, u3, u4⟩⟩ := HU.out y h.below
          refine opOk_val (v := .agg #[.int .i64 va, .int .i64 vn, .slice b1 m1 f1, .slice b2 m2 f2, .slice b3 m3 f3]) (w' := y) (wanted_none rfl) ?_ (fun t ht => by cases ht; exact rfl) (Below.refl _ _)
          have ec : ∀ v, a.eval (.const v) = v := fun _ => rfl
          generalize a.eval = ev at *
          clear h
          go_simp
        refine AllOps.cons (fun a y h => ?_) ?_
        · have e20 : a.eval (.tmp 20) = (.agg #[.int .i64 ua, .int .i64 un, .slice a1 n1 d1, .slice a2 n2 d2, .slice a3 n3 d3] : Value) := h.of 20 (by kernel_rfl)
          have e24 : a.eval (.tmp 24) = (.agg #[.int .i64 va, .int .i64 vn, .slice b1 m1 f1, .slice b2 m2 f2, .slice b3 m3 f3] : Value) := h.of 24 (by kernel_rfl)
          refine opOk_call (f := 6) (args := #[.agg #[.int .i64 ua, .int .i64 un, .slice a1 n1 d1, .slice a2 n2 d2, .slice a3 n3 d3], .agg #[.int .i64 va, .int .i64 vn, .slice b1 m1 f1, .slice b2 m2 f2, .slice b3 m3 f3]]) (wanted_none rfl) ?_ ?_
          · have ec : ∀ v, a.eval (.const v) = v := fun _ => rfl
            have ef : ∀ f, a.eval (.func f) = .func (.func f) #[] #[] := fun _ => rfl
            generalize a.eval = ev at *
            clear h
            go_simp
          · refine (HCL.out y h.below).mono ?_
            rintro e w' ⟨rfl, hb⟩
            exact ⟨_, rfl, fun t ht => by cases ht; exact rfl, hb⟩
        refine AllOps.cons (fun a y h => ?_) ?_
        · have e25 : a.eval (.tmp 25) = (.bool true : Value) := h.of 25 (by kernel_rfl)
          refine opOk_val (v := .bool false) (w' := y) (wanted_none rfl) ?_ (fun t ht => by cases ht; exact rfl) (Below.refl _ _)
          have ec : ∀ v, a.eval (.const v) = v := fun _ => rfl
          generalize a.eval = ev at *
          clear h
          go_simp
        exact AllOps.nil
      rintro ⟨tm, df⟩ wE hbE hdE hszE hstE hTE
      have k26 : tm.getD 26 undef = .bool false := ends_at (T := sameT b off q.length cap b9 off9 r.length cap9 k (off + k * 5) (off9 + k * 5) (.agg #[.int .i64 ua, .int .i64 un, .slice a1 n1 d1, .slice a2 n2 d2, .slice a3 n3 d3]) (.agg #[.int .i64 va, .int .i64 vn, .slice b1 m1 f1, .slice b2 m2 f2, .slice b3 m3 f3])) (w := wE) (a := ⟨tm, df⟩) (t := 26) hTE (by kernel_rfl)
      obtain rfl : df = [] := hdE
      clear hTE
      have hF8 := tmps_fold [17, 18, 19, 20, 21, 22, 23, 24, 25, 26] tm _ hszE hstE
      clear hszE hstE
      simp only [List.foldl_cons, List.foldl_nil, k26] at hF8
      clear k26
      generalize tm.getD 17 undef = x17 at hF8
      generalize tm.getD 18 undef = x18 at hF8
      generalize tm.getD 19 undef = x19 at hF8
      generalize tm.getD 20 undef = x20 at hF8
      generalize tm.getD 21 undef = x21 at hF8
      generalize tm.getD 22 undef = x22 at hF8
      generalize tm.getD 23 undef = x23 at hF8
      generalize tm.getD 24 undef = x24 at hF8
      generalize tm.getD 25 undef = x25 at hF8
      simp only [List.setIfInBounds_toArray, List.set_cons_zero, List.set_cons_succ] at hF8
      subst hF8
      have HG2 : Hid (Below w.heap.size w wE) := HG.out.trans (hbE.mono HG.out.size)
      clear hbE HU HG HCL
      go_wp2_with fail
      go_roundw
      case rel => exact ⟨k + 1, hlt, by go_num, HG2.out⟩
      case measure => simp [intOf]; omega
    · have g2 : decide (k < q.length) = false := decide_eq_false hlt
      go_wp2_with fail
      go_ret
      exact ⟨rfl, HG.out⟩
set_option maxRecDepth 100000 in
set_option maxHeartbeats 2000000 in
theorem SameReplica_same (hq wq hq2 wq2 : List Uv) (hv wv hv2 wv2 : Value) (w : World) (h1 : UpsV w hv hq) (h2 : UpsV w wv wq) (h3 : UpsV w hv2 hq2) (h4 : UpsV w wv2 wq2) (e1 : ups hq = ups hq2) (e2 : ups wq = ups wq2) (hl : hq.length ≤ 1000 ∧ wq.length ≤ 1000)
    (o1 : ∀ x, x ∈ hq ++ wq → UvOk w x) (o2 : ∀ x, x ∈ hq2 ++ wq2 → UvOk w x) :
    Calls Try.prog 8 #[repVal hv wv, repVal hv2 wv2] w fun e w' => e = .returned (.bool true) ∧ Below w.heap.size w w' := by
  have HC1 : Hid (∀ z, Below w.heap.size w z → Calls Try.prog 12 #[hv, hv2] z fun e w' => e = .returned (.bool true) ∧ Below z.heap.size z w') := fun z hz => SameUpdates_same hq hq2 _ _ z (h1.kc (Kc.below hz)) (h3.kc (Kc.below hz)) e1 hl.1 (fun x hx => (o1 x (List.mem_append_left _ hx)).below hz) (fun x hx => (o2 x (List.mem_append_left _ hx)).below hz)
  have HC2 : Hid (∀ z, Below w.heap.size w z → Calls Try.prog 12 #[wv, wv2] z fun e w' => e = .returned (.bool true) ∧ Below z.heap.size z w') := fun z hz => SameUpdates_same wq wq2 _ _ z (h2.kc (Kc.below hz)) (h4.kc (Kc.below hz)) e2 hl.2 (fun x hx => (o1 x (List.mem_append_right _ hx)).below hz) (fun x hx => (o2 x (List.mem_append_right _ hx)).below hz)
  obtain ⟨ah, ch, rfl, _⟩ := h1
  obtain ⟨aw, cw, rfl, _⟩ := h2
  obtain ⟨ah2, ch2, rfl, _⟩ := h3
  obtain ⟨aw2, cw2, rfl, _⟩ := h4
  clear o1 o2 e1 e2
  have hb1 : Below w.heap.size w (w.alloc (.cells #[.slice ah hq.length ch, .slice aw wq.length cw] 24)) := (Below.refl _ _).alloc (Nat.le_refl _) _
  have hh1 := rl_new w (.cells #[.slice ah hq.length ch, .slice aw wq.length cw] 24)
  have hb2 : Below (w.alloc (.cells #[.slice ah hq.length ch, .slice aw wq.length cw] 24)).heap.size (w.alloc (.cells #[.slice ah hq.length ch, .slice aw wq.length cw] 24)) ((w.alloc (.cells #[.slice ah hq.length ch, .slice aw wq.length cw] 24)).alloc (.cells #[.slice ah2 hq2.length ch2, .slice aw2 wq2.length cw2] 24)) := (Below.refl _ _).alloc (Nat.le_refl _) _
  have hh2 := rl_new (w.alloc (.cells #[.slice ah hq.length ch, .slice aw wq.length cw] 24)) (.cells #[.slice ah2 hq2.length ch2, .slice aw2 wq2.length cw2] 24)
  rw [World.size_alloc] at hh2
  have HB : Hid (Below w.heap.size w ((w.alloc (.cells #[.slice ah hq.length ch, .slice aw wq.length cw] 24)).alloc (.cells #[.slice ah2 hq2.length ch2, .slice aw2 wq2.length cw2] 24))) := hb1.trans (hb2.mono hb1.size)
  have hh3 := (hb2.block _ (Array.getElem?_eq_some_iff.1 hh1).1).trans hh1
  clear hb1 hb2 hh1
  go_enter Try.func8, Try.ntmps8
  go_upto_region 1 with fail
  generalize (w.alloc (.cells #[.slice ah hq.length ch, .slice aw wq.length cw] 24)).alloc (.cells #[.slice ah2 hq2.length ch2, .slice aw2 wq2.length cw2] 24) = w2 at *
  have HF : Hid (∀ z, Below w2.heap.size w2 z → (z.cell? ⟨w.heap.size, 0, none⟩ = some (.slice ah hq.length ch) ∧ z.cell? ⟨w.heap.size, 1, none⟩ = some (.slice aw wq.length cw)) ∧ z.cell? ⟨w.heap.size + 1, 0, none⟩ = some (.slice ah2 hq2.length ch2) ∧ z.cell? ⟨w.heap.size + 1, 1, none⟩ = some (.slice aw2 wq2.length cw2)) := fun z hz => by
    have k3 := (hz.block _ (Array.getElem?_eq_some_iff.1 hh3).1).trans hh3
    have k2 := (hz.block _ (Array.getElem?_eq_some_iff.1 hh2).1).trans hh2
    exact ⟨⟨by rw [Lib.cell_of_heap k3]; rfl, by rw [Lib.cell_of_heap k3]; rfl⟩, by rw [Lib.cell_of_heap k2]; rfl, by rw [Lib.cell_of_heap k2]; rfl⟩
  clear hh2 hh3
  obtain ⟨⟨c0, c1⟩, c2, c3⟩ := HF.out w2 (Below.refl _ _)
  go_wp2_with (first | ((with_reducible refine Calls.mono (HC1.out _ HB.out) ?_); rintro e w3 ⟨rfl, hb3⟩; obtain ⟨⟨t0, t1⟩, t2, t3⟩ := HF.out w3 hb3; have HB3 : Hid (Below w.heap.size w w3) := HB.out.trans (hb3.mono HB.out.size)) | ((with_reducible refine Calls.mono (HC2.out _ HB3.out) ?_); rintro e w4 ⟨rfl, hb4⟩))
  go_ret
  exact ⟨rfl, HB3.out.trans (hb4.mono HB3.out.size)⟩
end Go.Proofs.Ytmfaodapofamfaa

/- replicaIs and factsAre, of what is the same. -/
namespace Go.Proofs.Ytmfaodapofamfaa
open Go.RowKit

end Go.Proofs.Ytmfaodapofamfaa

/- What rows, facts and their order lean on. -/
/- of WrPut -/
namespace Go.Proofs.Ytmfaodapofamfaa
open Go.RowKit
end Go.Proofs.Ytmfaodapofamfaa
/- of WrEnc -/
namespace Go.Proofs.Ytmfaodapofamfaa
open Go.RowKit
end Go.Proofs.Ytmfaodapofamfaa
/- of WrNum -/
namespace Go.Proofs.Ytmfaodapofamfaa
open Go.RowKit
end Go.Proofs.Ytmfaodapofamfaa
/- of WrRead -/
namespace Go.Proofs.Ytmfaodapofamfaa
open Go.RowKit
theorem old_set {z : World} {b k o : Nat} {x : Obj} {a : Array Value} {t : TypeId} {fz : Nat × Nat} (hb : z.heap[b]? = some x) (hk : z.heap[k]? = some (.cells a t fz)) (ht : ∀ c f, x ≠ .cells c t f) (u : Value) : (z.setCell ⟨k, o, none⟩ u).heap[b]? = some x := by
  rw [heap_setCell_other z ⟨k, o, none⟩ b u (fun e => ?_)]
  · exact hb
  · subst e
    rw [hk] at hb
    exact ht a fz (Option.some.inj hb).symm
end Go.Proofs.Ytmfaodapofamfaa
/- of WrFact -/
namespace Go.Proofs.Ytmfaodapofamfaa
open Go.RowKit
end Go.Proofs.Ytmfaodapofamfaa
/- of WrFacts -/
namespace Go.Proofs.Ytmfaodapofamfaa
open Go.RowKit
/-- Each fact's numbers lie in a row of their own. -/
def ArgsP (B : Nat) (w : World) (q : List Fv) : Prop := ∀ p, p ∈ q → w.ownsRow B 3 1 p.2 p.1.args.length (p.1.args.map (Value.int .i64)) ∧ p.1.args.length ≤ 255
theorem ArgsP.type {B : Nat} {w w' : World} {q : List Fv} (h : ArgsP B w q) (hk : ∀ (k : Nat) (a : Array Value), w.heap[k]? = some (.cells a 3) → w'.heap[k]? = some (.cells a 3)) : ArgsP B w' q := fun p hp => ⟨own_type (h p hp).1 hk, (h p hp).2⟩
end Go.Proofs.Ytmfaodapofamfaa
/- of WrUpd -/
namespace Go.Proofs.Ytmfaodapofamfaa
open Go.RowKit
/-- What stands but the reader and boxes of updates. -/
def KD (z z' : World) : Prop := ∀ (k : Nat) (a : Array Value) (t : TypeId), t ≠ 34 → t ≠ 34 → z.heap[k]? = some (.cells a t) → z'.heap[k]? = some (.cells a t)
theorem KD.trans {a b c : World} (h : KD a b) (k : KD b c) : KD a c := fun i x t h1 h2 h3 => k i x t h1 h2 (h i x t h1 h2 h3)
theorem KD.own {z z' : World} (h : KD z z') {B e c n : Nat} {v : Value} {xs : List Value} (ho : z.ownsRow B e c v n xs) (h1 : e ≠ 34) (h2 : e ≠ 34) : z'.ownsRow B e c v n xs := own_type ho (fun k a hk => h k a e h1 h2 hk)
theorem KD.args {z z' : World} (h : KD z z') {B : Nat} {q : List Fv} (ho : ArgsP B z q) : ArgsP B z' q := ho.type (fun k a hk => h k a 3 (by decide) (by decide) hk)
theorem KD.set {z : World} {U o : Nat} {a : Array Value} {fz : Nat × Nat} (hU : z.heap[U]? = some (.cells a 34 fz)) (u : Value) : KD z (z.setCell ⟨U, o, none⟩ u) := fun _ _ t _ h2 hk => old_set hk hU (fun _ _ h => by injection h with _ h _; exact h2 h) u
abbrev zeroUp : Array Value := #[.int .i64 0, .int .i64 0, .slice none 0 0, .slice none 0 0, .slice none 0 0]
/-- A box of an update that is written whole. -/
abbrev five (z : World) (T : Nat) (v0 v1 v2 v3 v4 : Value) : World := ((((z.setCell ⟨T, 0, none⟩ v0).setCell ⟨T, 1, none⟩ v1).setCell ⟨T, 2, none⟩ v2).setCell ⟨T, 3, none⟩ v3).setCell ⟨T, 4, none⟩ v4
theorem five_set {z : World} {T : Nat} {x0 x1 x2 x3 x4 : Value} (hT : z.heap[T]? = some (.cells #[x0, x1, x2, x3, x4] 34)) (v0 v1 v2 v3 v4 : Value) :
    (five z T v0 v1 v2 v3 v4).heap[T]? = some (.cells #[v0, v1, v2, v3, v4] 34) ∧ KD z (five z T v0 v1 v2 v3 v4) := by
  have h1 := Lib.heap_setCell_same (i := 0) hT v0
  have h2 := Lib.heap_setCell_same (i := 1) h1 v1
  have h3 := Lib.heap_setCell_same (i := 2) h2 v2
  have h4 := Lib.heap_setCell_same (i := 3) h3 v3
  have h5 := Lib.heap_setCell_same (i := 4) h4 v4
  refine ⟨h5, (((((KD.set hT v0).trans (KD.set h1 v1)).trans (KD.set h2 v2)).trans (KD.set h3 v3)).trans (KD.set h4 v4))⟩
end Go.Proofs.Ytmfaodapofamfaa
/- of WrDec -/
namespace Go.Proofs.Ytmfaodapofamfaa
open Go.RowKit
theorem flat2 {α : Type} (f : α → List Value) (hf : ∀ x, (f x).length = 2) : ∀ (l : List α) (i : Nat) (h : i < l.length) (j : Nat), j < 2 → ((l.map f).flatten)[i * 2 + j]? = (f l[i])[j]?
  | x :: l, 0, h, j, hj => by
    rw [List.map_cons, List.flatten_cons, Nat.zero_mul, Nat.zero_add, List.getElem?_append_left (by rw [hf]; exact hj)]
    rfl
  | x :: l, i + 1, h, j, hj => by
    rw [List.map_cons, List.flatten_cons, List.getElem?_append_right (by rw [hf]; omega), hf]
    have e : (i + 1) * 2 + j - 2 = i * 2 + j := by omega
    rw [e, flat2 f hf l i (by simpa using h) j hj]
    rfl
theorem own_fcs {w : World} {B : Nat} {v : Value} {q : List Fv} (h : w.ownsRow B 51 2 v q.length (q.map fcCells).flatten) (ha : ArgsP B w q) : FactsV w v (q.map (·.1)) := by
  rcases ownsRow_forms9 h with ⟨rfl, h0⟩ | ⟨g, cap, rfl⟩
  · have : q = [] := List.eq_nil_of_length_eq_zero h0
    subst this
    exact ⟨none, 0, rfl, ⟨Nat.le_refl _, fun _ => rfl⟩, .inl rfl⟩
  · obtain ⟨ao, cap', hv, hc, hcs⟩ := own_cells h
    injection hv with h1 h2 h3
    subst h1 h3
    refine ⟨_, cap, by rw [List.length_map], ⟨by rw [List.length_map]; exact hc, fun h => by cases h⟩, ?_⟩
    rcases hcs with h0 | ⟨g', hg, hcs⟩
    · exact .inl (by rw [List.eq_nil_of_length_eq_zero h0]; rfl)
    · cases hg
      refine .inr ⟨g, 0, rfl, fun i hi => ?_⟩
      rw [List.length_map] at hi
      have hd : Rl.factD (q.map (·.1)) i = q[i].1 := by simp [Rl.factD, hi]
      have a := flat2 fcCells (fun _ => rfl) q i hi
      rw [Nat.zero_add, hd]
      exact ⟨(hcs (i * 2) (by omega)).trans (a 0 (by decide)), q[i].2, (hcs (i * 2 + 1) (by omega)).trans (a 1 (by decide)), own_ints (ha _ (List.getElem_mem hi)).1⟩
/-- An update as it lies in memory. -/
def UpV (w : World) (u : Wr.Up) (vp vs vt : Value) : Prop := IdsV w vp u.ps ∧ FactsV w vs u.says ∧ IdsV w vt u.ts ∧ (∀ f, f ∈ u.says → FFit f) ∧ (u.ps.length ≤ 255 ∧ u.says.length ≤ 255 ∧ u.ts.length ≤ 255)
theorem five_below {w z : World} (h : Below w.heap.size w z) {v0 v1 v2 v3 v4 : Value} : Below w.heap.size w (five z w.heap.size v0 v1 v2 v3 v4) := by
  have s : ∀ {y : World} (i : Nat) (v : Value), Below w.heap.size w y → Below w.heap.size w (y.setCell ⟨w.heap.size, i, none⟩ v) := fun i v hy => hy.setCell (Nat.le_refl _) v
  exact s 4 _ (s 3 _ (s 2 _ (s 1 _ (s 0 _ h))))
end Go.Proofs.Ytmfaodapofamfaa
/- of WrTwo -/
namespace Go.Proofs.Ytmfaodapofamfaa
open Go.RowKit
def Wr.firstU : Wr.Up := ⟨⟨0, 1⟩, [], [⟨0, [1, 2]⟩, ⟨0, [2, 3]⟩], []⟩
def Wr.secondU : Wr.Up := ⟨⟨1, 1⟩, [⟨0, 1⟩], [⟨0, [4, 5]⟩], [⟨0, 1⟩]⟩
theorem own_new (w : World) (cur : Array Value) (e c n B : Nat) (hB : B ≤ w.heap.size) (hs : cur.size = n * c) (hn : n ≤ maxLen) : (w.alloc (.cells cur e)).ownsRow B e c (.slice (some ⟨w.heap.size, 0, none⟩) n n) n cur.toList :=
  ⟨by rw [Array.length_toList, hs], .inr ⟨w.heap.size, n, cur, rfl, hB, heap_alloc_new w _, Nat.le_refl _, hn, hs, by rw [← hs, ← Array.length_toList, List.take_length]⟩⟩
set_option maxRecDepth 100000 in
set_option maxHeartbeats 1000000 in
theorem pairsW_any (w : World) : Calls Try.prog 18 #[] w fun e w' => ∃ (q : List Fv) (v : Value), e = .returned v ∧ q.map (·.1) = Wr.firstU.says ∧ w'.ownsRow w.heap.size 51 2 v q.length (q.map fcCells).flatten ∧ ArgsP w.heap.size w' q ∧ Below w.heap.size w w' := by
  have HFC : Hid (∀ (p : Int) (a : Option Addr) (n c : Nat) (w : World), Calls Try.prog 19 #[.int .i64 p, .slice a n c] w fun e w' => e = .returned (fcVal p (.slice a n c)) ∧ Below w.heap.size w w') := fact_any
  go_enter Try.func18, Try.ntmps18
  go_wp2_with fail
  have H1 : Hid _ := own_new w #[.int .i64 1, .int .i64 2] 3 1 2 w.heap.size (Nat.le_refl _) rfl (by unfold maxLen; omega)
  have B1 : Hid _ := new_below w (.cells #[.int .i64 1, .int .i64 2] 3)
  generalize hX1 : w.heap.size = X1 at *
  generalize w.alloc (.cells #[.int .i64 1, .int .i64 2] 3) = w1 at *
  refine Calls.mono (HFC.out _ _ _ _ _) ?_
  rintro _ y1 ⟨rfl, hb1⟩
  have J1 : Hid _ := ownsRow_below H1.out hb1
  have D1 : Hid (Below X1 w y1) := B1.out.trans (hb1.mono (by rw [← hX1]; rw [← hX1] at B1; exact B1.out.size))
  clear hb1 H1 B1
  go_wp2_with fail
  have H2 : Hid _ := own_new y1 #[.int .i64 2, .int .i64 3] 3 1 2 X1 (by have := D1.out.size; omega) rfl (by unfold maxLen; omega)
  have K1 : Hid _ := ownsRow_below J1.out (new_below y1 (.cells #[.int .i64 2, .int .i64 3] 3))
  have D2 : Hid (Below X1 w (y1.alloc (.cells #[.int .i64 2, .int .i64 3] 3))) := D1.out.trans ((new_below y1 _).mono (by have := D1.out.size; omega))
  clear J1 D1
  generalize hX2 : y1.heap.size = X2 at *
  generalize y1.alloc (.cells #[.int .i64 2, .int .i64 3] 3) = w2 at *
  refine Calls.mono (HFC.out _ _ _ _ _) ?_
  rintro _ y5 ⟨rfl, hb5⟩
  have D9 : Hid (Below X1 w y5) := D2.out.trans (hb5.mono (by have := D2.out.size; omega))
  have HR : Hid _ := own_new y5 #[.int .i64 0, .slice (some ⟨X1, 0, none⟩) 2 2, .int .i64 0, .slice (some ⟨X2, 0, none⟩) 2 2] 51 2 2 X1 (by have := D9.out.size; omega) rfl (by unfold maxLen; omega)
  have nb := new_below y5 (.cells #[.int .i64 0, .slice (some ⟨X1, 0, none⟩) 2 2, .int .i64 0, .slice (some ⟨X2, 0, none⟩) 2 2] 51)
  have HR1 : Hid _ := ownsRow_below (ownsRow_below K1.out hb5) nb
  have HR2 : Hid _ := ownsRow_below (ownsRow_below H2.out hb5) nb
  have D10 : Hid _ := D9.out.trans (nb.mono (by have := D9.out.size; omega))
  clear hb5 H2 K1 D2 nb D9
  go_wp2_with fail
  go_ret
  exact ⟨[(⟨0, [1, 2]⟩, .slice (some ⟨X1, 0, none⟩) 2 2), (⟨0, [2, 3]⟩, .slice (some ⟨X2, 0, none⟩) 2 2)], _, rfl, rfl, by rw [hX1]; exact HR.out, by
    rw [hX1]
    intro p hp
    rcases List.mem_cons.mp hp with rfl | hp
    · exact ⟨HR1.out, (by decide : 2 ≤ 255)⟩
    · obtain rfl : p = (⟨0, [2, 3]⟩, .slice (some ⟨X2, 0, none⟩) 2 2) := by simpa using hp
      exact ⟨HR2.out, (by decide : 2 ≤ 255)⟩, by rw [hX1]; exact D10.out⟩
theorem UpV.own {w : World} {B : Nat} {x : Wr.Id} {ps ts : List Wr.Id} {q : List Fv} {vp vs vt : Value} (hp : w.ownsRow B 30 2 vp ps.length (ps.map idCells).flatten) (hs : w.ownsRow B 51 2 vs q.length (q.map fcCells).flatten) (ha : ArgsP B w q) (ht : w.ownsRow B 30 2 vt ts.length (ts.map idCells).flatten) (hl : ps.length ≤ 255 ∧ q.length ≤ 255 ∧ ts.length ≤ 255) : UpV w ⟨x, ps, q.map (·.1), ts⟩ vp vs vt := by
  refine ⟨own_ids hp, own_fcs hs ha, own_ids ht, fun f hf => ?_, ?_⟩
  · obtain ⟨p, hp, rfl⟩ := List.mem_map.mp hf
    exact Nat.le_trans (ha p hp).2 (by decide)
  · dsimp only
    rw [List.length_map]
    exact hl
set_option maxRecDepth 100000 in
set_option maxHeartbeats 1000000 in
theorem first_any (w : World) : Calls Try.prog 9 #[] w fun e w' => ∃ vp vs vt, e = .returned (upVal Wr.firstU vp vs vt) ∧ UpV w' Wr.firstU vp vs vt ∧ Below w.heap.size w w' := by
  have hT := heap_alloc_new w (.cells zeroUp 34)
  have hG := new_below w (.cells zeroUp 34)
  go_enter Try.func9, Try.ntmps9
  go_upto_region 1 with fail
  generalize w.alloc (.cells zeroUp 34) = w1 at *
  have HT : Hid (w1.heap[w.heap.size]? = some (.cells zeroUp 34)) := hT
  have HG : Hid (Below w.heap.size w w1) := hG
  have HP : Hid _ := pairsW_any w1
  clear hT hG
  go_wp2_with fail
  refine Calls.mono HP.out ?_
  rintro e y ⟨q, v, rfl, hq, ho, ha, hb⟩
  obtain ⟨ao, cap, rfl⟩ := own_slice ho
  have HT4 : Hid (y.heap[w.heap.size]? = some (.cells zeroUp 34)) := (hb.block _ (Array.getElem?_eq_some_iff.1 HT.out).1).trans HT.out
  have HB4 : Hid (Below w.heap.size w y) := HG.out.trans (hb.mono HG.out.size)
  have HQ : Hid _ := hq
  have HO : Hid _ := ho
  have HA : Hid (ArgsP w1.heap.size y q) := ha
  clear hq ho ha hb HT HG HP
  have t0 : y.cell? ⟨w.heap.size, 0, none⟩ = some (.int .i64 0) := by rw [Lib.cell_of_heap HT4.out]; rfl
  have t1 : y.cell? ⟨w.heap.size, 1, none⟩ = some (.int .i64 0) := by rw [Lib.cell_of_heap HT4.out]; rfl
  have t2 : y.cell? ⟨w.heap.size, 2, none⟩ = some (.slice none 0 0) := by rw [Lib.cell_of_heap HT4.out]; rfl
  have t3 : y.cell? ⟨w.heap.size, 3, none⟩ = some (.slice none 0 0) := by rw [Lib.cell_of_heap HT4.out]; rfl
  have t4 : y.cell? ⟨w.heap.size, 4, none⟩ = some (.slice none 0 0) := by rw [Lib.cell_of_heap HT4.out]; rfl
  have f0 : y.frozen? ⟨w.heap.size, 0, none⟩ = false := Lib.frozen_of_heap HT4.out 0
  have f1 : y.frozen? ⟨w.heap.size, 1, none⟩ = false := Lib.frozen_of_heap HT4.out 1
  have f2 : y.frozen? ⟨w.heap.size, 2, none⟩ = false := Lib.frozen_of_heap HT4.out 2
  have f3 : y.frozen? ⟨w.heap.size, 3, none⟩ = false := Lib.frozen_of_heap HT4.out 3
  have f4 : y.frozen? ⟨w.heap.size, 4, none⟩ = false := Lib.frozen_of_heap HT4.out 4
  have HE : Hid _ := five_set HT4.out (.int .i64 0) (.int .i64 1) (.slice none 0 0) (.slice ao q.length cap) (.slice none 0 0)
  have HBF : Hid (Below w.heap.size w (five y w.heap.size (.int .i64 0) (.int .i64 1) (.slice none 0 0) (.slice ao q.length cap) (.slice none 0 0))) := five_below HB4.out
  go_wp2_with fail
  clear t0 t1 t2 t3 t4 f0 f1 f2 f3 f4
  obtain ⟨k1, k2⟩ := HE.out
  have hq2 : q.length ≤ 255 := by
    have := congrArg List.length HQ.out
    rw [List.length_map] at this
    rw [this]
    decide
  have hU := UpV.own (x := ⟨0, 1⟩) (ps := []) (ts := []) (World.ownsRow_nil _ _ _ _) (k2.own HO.out (by decide) (by decide)) (k2.args HA.out) (World.ownsRow_nil _ _ _ _) ⟨by decide, hq2, by decide⟩
  have e0 : (⟨⟨0, 1⟩, [], q.map (·.1), []⟩ : Wr.Up) = Wr.firstU := by rw [HQ.out]; rfl
  rw [e0] at hU
  change bodyPost _ _ _ _ _ (five _ _ _ _ _ _ _)
  clear HE k2
  generalize five y w.heap.size (.int .i64 0) (.int .i64 1) (.slice none 0 0) (.slice ao q.length cap) (.slice none 0 0) = w11 at *
  have t0 : w11.cell? ⟨w.heap.size, 0, none⟩ = some (.int .i64 0) := by rw [Lib.cell_of_heap k1]; rfl
  have t1 : w11.cell? ⟨w.heap.size, 1, none⟩ = some (.int .i64 1) := by rw [Lib.cell_of_heap k1]; rfl
  have t2 : w11.cell? ⟨w.heap.size, 2, none⟩ = some (.slice none 0 0) := by rw [Lib.cell_of_heap k1]; rfl
  have t3 : w11.cell? ⟨w.heap.size, 3, none⟩ = some (.slice ao q.length cap) := by rw [Lib.cell_of_heap k1]; rfl
  have t4 : w11.cell? ⟨w.heap.size, 4, none⟩ = some (.slice none 0 0) := by rw [Lib.cell_of_heap k1]; rfl
  exact bodyPost_ret (v := .agg #[.int .i64 0, .int .i64 1, .slice none 0 0, .slice ao q.length cap, .slice none 0 0]) (by simp [results, Try.results9, go_sem, t0, t1, t2, t3, t4]) rfl ⟨_, _, _, rfl, hU, HBF.out⟩
theorem second_up {w : World} {B : Nat} {vp vs va vt : Value} (hp : w.ownsRow B 30 2 vp 1 [.int .i64 0, .int .i64 1]) (hs : w.ownsRow B 51 2 vs 1 [.int .i64 0, va]) (ha : w.ownsRow B 3 1 va 2 [.int .i64 4, .int .i64 5]) (ht : w.ownsRow B 30 2 vt 1 [.int .i64 0, .int .i64 1]) : UpV w Wr.secondU vp vs vt := by
  have ha2 : ArgsP B w [(⟨0, [4, 5]⟩, va)] := by
    intro p hp
    obtain rfl : p = (⟨0, [4, 5]⟩, va) := by simpa using hp
    exact ⟨ha, (by decide : 2 ≤ 255)⟩
  exact UpV.own (x := ⟨1, 1⟩) (ps := [⟨0, 1⟩]) (ts := [⟨0, 1⟩]) (q := [(⟨0, [4, 5]⟩, va)]) hp hs ha2 ht ⟨by decide, (by decide : 1 ≤ 255), by decide⟩
set_option maxRecDepth 100000 in
set_option maxHeartbeats 1000000 in
theorem second_any (w : World) : Calls Try.prog 10 #[] w fun e w' => ∃ vp vs vt, e = .returned (upVal Wr.secondU vp vs vt) ∧ UpV w' Wr.secondU vp vs vt ∧ Below w.heap.size w w' := by
  have HFC : Hid (∀ (p : Int) (a : Option Addr) (n c : Nat) (w : World), Calls Try.prog 19 #[.int .i64 p, .slice a n c] w fun e w' => e = .returned (fcVal p (.slice a n c)) ∧ Below w.heap.size w w') := fact_any
  have hT := heap_alloc_new w (.cells zeroUp 34)
  have hG := new_below w (.cells zeroUp 34)
  go_enter Try.func10, Try.ntmps10
  go_upto_region 1 with fail
  generalize w.alloc (.cells zeroUp 34) = w1 at *
  have HT : Hid (w1.heap[w.heap.size]? = some (.cells zeroUp 34)) := hT
  have HG : Hid (Below w.heap.size w w1) := hG
  have HP1 : Hid _ := own_new w1 #[.int .i64 0, .int .i64 1] 30 2 1 w1.heap.size (Nat.le_refl _) rfl (by unfold maxLen; omega)
  have nb1 := new_below w1 (.cells #[.int .i64 0, .int .i64 1] 30)
  have HA1 : Hid _ := own_new (w1.alloc (.cells #[.int .i64 0, .int .i64 1] 30)) #[.int .i64 4, .int .i64 5] 3 1 2 w1.heap.size nb1.size rfl (by unfold maxLen; omega)
  have nb2 := new_below (w1.alloc (.cells #[.int .i64 0, .int .i64 1] 30)) (.cells #[.int .i64 4, .int .i64 5] 3)
  have HP2 : Hid _ := ownsRow_below HP1.out nb2
  have HB2 : Hid _ := nb1.trans (nb2.mono nb1.size)
  have hsz : (w1.alloc (.cells #[.int .i64 0, .int .i64 1] 30)).heap.size = w1.heap.size + 1 := by simp
  rw [hsz] at HA1
  clear hT hG nb1 nb2 HP1 hsz
  go_wp2_with fail
  generalize (w1.alloc (.cells #[.int .i64 0, .int .i64 1] 30)).alloc (.cells #[.int .i64 4, .int .i64 5] 3) = w3 at *
  refine Calls.mono (HFC.out _ _ _ _ _) ?_
  rintro _ y ⟨rfl, hb⟩
  have HB3 : Hid _ := HB2.out.trans (hb.mono HB2.out.size)
  have hyz := HB3.out.size
  have HP3 : Hid _ := ownsRow_below HP2.out hb
  have HA3 : Hid _ := ownsRow_below HA1.out hb
  have HTY : Hid (y.heap[w.heap.size]? = some (.cells zeroUp 34)) := (HB3.out.block _ (Array.getElem?_eq_some_iff.1 HT.out).1).trans HT.out
  have HBY : Hid (Below w.heap.size w y) := HG.out.trans (HB3.out.mono HG.out.size)
  have HSZ : Hid (w1.heap.size ≤ y.heap.size) := hyz
  have HE : Hid _ := five_set HTY.out (.int .i64 1) (.int .i64 1) (.slice (some ⟨w1.heap.size, 0, none⟩) 1 1) (.slice (some ⟨y.heap.size, 0, none⟩) 1 1) (.slice (some ⟨y.heap.size + 1, 0, none⟩) 1 1)
  have HBF : Hid (Below w.heap.size w (five y w.heap.size (.int .i64 1) (.int .i64 1) (.slice (some ⟨w1.heap.size, 0, none⟩) 1 1) (.slice (some ⟨y.heap.size, 0, none⟩) 1 1) (.slice (some ⟨y.heap.size + 1, 0, none⟩) 1 1))) := five_below HBY.out
  have HZ : Hid ((five y w.heap.size (.int .i64 1) (.int .i64 1) (.slice (some ⟨w1.heap.size, 0, none⟩) 1 1) (.slice (some ⟨y.heap.size, 0, none⟩) 1 1) (.slice (some ⟨y.heap.size + 1, 0, none⟩) 1 1)).heap.size = y.heap.size) := by show _ = _; simp [five, World.setCell]
  clear hb HB3 HB2 HP2 HA1 hyz HT HG HBY
  have t0 : y.cell? ⟨w.heap.size, 0, none⟩ = some (.int .i64 0) := by rw [Lib.cell_of_heap HTY.out]; rfl
  have f0 : y.frozen? ⟨w.heap.size, 0, none⟩ = false := Lib.frozen_of_heap HTY.out 0
  have t1 : y.cell? ⟨w.heap.size, 1, none⟩ = some (.int .i64 0) := by rw [Lib.cell_of_heap HTY.out]; rfl
  have f1 : y.frozen? ⟨w.heap.size, 1, none⟩ = false := Lib.frozen_of_heap HTY.out 1
  have t2 : y.cell? ⟨w.heap.size, 2, none⟩ = some (.slice none 0 0) := by rw [Lib.cell_of_heap HTY.out]; rfl
  have f2 : y.frozen? ⟨w.heap.size, 2, none⟩ = false := Lib.frozen_of_heap HTY.out 2
  have t3 : y.cell? ⟨w.heap.size, 3, none⟩ = some (.slice none 0 0) := by rw [Lib.cell_of_heap HTY.out]; rfl
  have f3 : y.frozen? ⟨w.heap.size, 3, none⟩ = false := Lib.frozen_of_heap HTY.out 3
  have t4 : y.cell? ⟨w.heap.size, 4, none⟩ = some (.slice none 0 0) := by rw [Lib.cell_of_heap HTY.out]; rfl
  have f4 : y.frozen? ⟨w.heap.size, 4, none⟩ = false := Lib.frozen_of_heap HTY.out 4
  have hlt : w.heap.size < y.heap.size := (Array.getElem?_eq_some_iff.1 HTY.out).1
  go_wp2_with fail
  clear t0 t1 t2 t3 t4 f0 f1 f2 f3 f4
  obtain ⟨k1, k2⟩ := HE.out
  have hp6 := k2.own HP3.out (by decide) (by decide)
  have ha6 := k2.own HA3.out (by decide) (by decide)
  have hZ := HZ.out
  have hBF := HBF.out
  change bodyPost _ _ _ _ _ ((World.alloc (five y w.heap.size (.int .i64 1) (.int .i64 1) (.slice (some ⟨w1.heap.size, 0, none⟩) 1 1) (.slice (some ⟨y.heap.size, 0, none⟩) 1 1) (.slice (some ⟨y.heap.size + 1, 0, none⟩) 1 1)) (.cells #[.int .i64 0, .slice (some ⟨w1.heap.size + 1, 0, none⟩) 2 2] 51)).alloc (.cells #[.int .i64 0, .int .i64 1] 30))
  clear HE k2 HZ HBF
  generalize (five y w.heap.size (.int .i64 1) (.int .i64 1) (.slice (some ⟨w1.heap.size, 0, none⟩) 1 1) (.slice (some ⟨y.heap.size, 0, none⟩) 1 1) (.slice (some ⟨y.heap.size + 1, 0, none⟩) 1 1)) = y' at *
  have hs7 := own_new y' #[.int .i64 0, .slice (some ⟨w1.heap.size + 1, 0, none⟩) 2 2] 51 2 1 w1.heap.size (by rw [hZ]; exact HSZ.out) rfl (by unfold maxLen; omega)
  have nb1 := new_below y' (.cells #[.int .i64 0, .slice (some ⟨w1.heap.size + 1, 0, none⟩) 2 2] 51)
  have hq8 := own_new (y'.alloc (.cells #[.int .i64 0, .slice (some ⟨w1.heap.size + 1, 0, none⟩) 2 2] 51)) #[.int .i64 0, .int .i64 1] 30 2 1 w1.heap.size (Nat.le_trans (by rw [hZ]; exact HSZ.out) nb1.size) rfl (by unfold maxLen; omega)
  have nb2 := new_below (y'.alloc (.cells #[.int .i64 0, .slice (some ⟨w1.heap.size + 1, 0, none⟩) 2 2] 51)) (.cells #[.int .i64 0, .int .i64 1] 30)
  have e1 : (y'.alloc (.cells #[.int .i64 0, .slice (some ⟨w1.heap.size + 1, 0, none⟩) 2 2] 51)).heap.size = y.heap.size + 1 := by rw [← hZ]; simp
  rw [e1] at hq8
  rw [hZ] at hs7
  have hU := second_up (ownsRow_below (ownsRow_below hp6 nb1) nb2) (ownsRow_below hs7 nb2) (ownsRow_below (ownsRow_below ha6 nb1) nb2) hq8
  have hB := (hBF.trans (nb1.mono hBF.size)).trans (nb2.mono (Nat.le_trans hBF.size nb1.size))
  have hT9 := ((nb2.block _ (by rw [e1]; omega)).trans (nb1.block w.heap.size (by rw [hZ]; omega))).trans k1
  clear nb1 nb2 hs7 hq8 hp6 ha6 e1 hZ hBF k1
  generalize (y'.alloc (.cells #[.int .i64 0, .slice (some ⟨w1.heap.size + 1, 0, none⟩) 2 2] 51)).alloc (.cells #[.int .i64 0, .int .i64 1] 30) = w11 at *
  have t0 : w11.cell? ⟨w.heap.size, 0, none⟩ = some (.int .i64 1) := by rw [Lib.cell_of_heap hT9]; rfl
  have t1 : w11.cell? ⟨w.heap.size, 1, none⟩ = some (.int .i64 1) := by rw [Lib.cell_of_heap hT9]; rfl
  have t2 : w11.cell? ⟨w.heap.size, 2, none⟩ = some (.slice (some ⟨w1.heap.size, 0, none⟩) 1 1) := by rw [Lib.cell_of_heap hT9]; rfl
  have t3 : w11.cell? ⟨w.heap.size, 3, none⟩ = some (.slice (some ⟨y.heap.size, 0, none⟩) 1 1) := by rw [Lib.cell_of_heap hT9]; rfl
  have t4 : w11.cell? ⟨w.heap.size, 4, none⟩ = some (.slice (some ⟨y.heap.size + 1, 0, none⟩) 1 1) := by rw [Lib.cell_of_heap hT9]; rfl
  exact bodyPost_ret (v := .agg #[(.int .i64 1), (.int .i64 1), (.slice (some ⟨w1.heap.size, 0, none⟩) 1 1), (.slice (some ⟨y.heap.size, 0, none⟩) 1 1), (.slice (some ⟨y.heap.size + 1, 0, none⟩) 1 1)]) (by simp [results, Try.results10, go_sem, t0, t1, t2, t3, t4]) rfl ⟨_, _, _, rfl, hU, hB⟩
end Go.Proofs.Ytmfaodapofamfaa

/- The document's inOrder: updates with one more. -/
namespace Go.Proofs.Ytmfaodapofamfaa
open Go.RowKit

theorem ups_one (w : World) (x : Uv) : UpsAt (w.alloc (.cells #[.int .i64 x.u.id.a, .int .i64 x.u.id.n, x.p, x.s, x.t] 34)) (some ⟨w.heap.size, 0, none⟩) [x] := by
  refine .inr ⟨_, _, rfl, fun i hi => ?_⟩
  have e : i = 0 := by simpa using hi
  subst e
  have h := rl_new w (.cells #[.int .i64 x.u.id.a, .int .i64 x.u.id.n, x.p, x.s, x.t] 34)
  exact ⟨by rw [Lib.cell_of_heap h]; rfl, by rw [Lib.cell_of_heap h]; rfl, by rw [Lib.cell_of_heap h]; rfl, by rw [Lib.cell_of_heap h]; rfl, by rw [Lib.cell_of_heap h]; rfl⟩
theorem one_ok {w : World} {x : Uv} (h : UvOk w x) : ∀ y, y ∈ [x] → UvOk w y := fun y hy => by
  rw [List.mem_singleton] at hy
  rw [hy]
  exact h
end Go.Proofs.Ytmfaodapofamfaa

/- Missing: what is not known of what is there. -/
namespace Go.Proofs.Ytmfaodapofamfaa
open Go.RowKit

/-- All blocks but those of updates stand. -/
def Kt (z z' : World) : Prop := ∀ (k : Nat) (a : Array Value) (t : TypeId), t ≠ 34 → z.heap[k]? = some (.cells a t) → z'.heap[k]? = some (.cells a t)
theorem Kt.below {z z' : World} (h : Below z.heap.size z z') : Kt z z' := fun _ _ _ _ e => (h.block _ (Array.getElem?_eq_some_iff.1 e).1).trans e
theorem Kt.trans {a b c : World} (h : Kt a b) (k : Kt b c) : Kt a c := fun i x t h1 h3 => k i x t h1 (h i x t h1 h3)
theorem kt_append {W W' : World} {B : Nat} {v : Value} {q : List Uv} (h : URow W B v q) (hg : W.grownBy W' v.ownBlock) : Kt W W' := fun k a t ht e => by
  refine (hg.block k (Array.getElem?_eq_some_iff.1 e).1 (fun e2 => ?_)).trans e
  obtain ⟨_, h | ⟨g, cap, cur, rfl, _, hh, _⟩⟩ := h
  · rw [h.1] at e2
    cases e2
  · have e3 : k = g := by cases e2; rfl
    subst e3
    rw [hh] at e
    injection e with e
    injection e with _ e _
    exact ht e.symm
theorem UvP.kt {B : Nat} {w w' : World} {x : Uv} (h : UvP B w x) (k : Kt w w') : UvP B w' x := by
  obtain ⟨q, e, h1, h2⟩ := h.s
  exact ⟨own_type h.p (fun i a => k i a 30 (by decide)), ⟨q, e, own_type h1 (fun i a => k i a 51 (by decide)), fun p hp => own_type (h2 p hp) (fun i a => k i a 3 (by decide))⟩, own_type h.t (fun i a => k i a 30 (by decide)), h.f, h.l⟩
theorem Gs.right_args {u : Wr.Up} (h : Wr.Right u) {f : Rl.Fc} (hf : f ∈ u.says) : f.args.length ≤ 3 := by
  have := h.fs f hf
  unfold Wr.factOk at this
  simp at this
  omega
noncomputable def Gs.missErr (h w : List Wr.Up) (ids : List Wr.Id) : Int := if Dg.check h w ≠ 0 then Dg.check h w else if 200 < ids.length then 2 else 0
noncomputable def Gs.missOut (h w : List Wr.Up) (ids : List Wr.Id) : List Wr.Up := if Gs.missErr h w ids = 0 then Gs.missing h ids else []
theorem Gs.miss_step {q : List Uv} {ids : List Wr.Id} {k : Nat} (hk : k < q.length) : (ups (q.take (k + 1))).filter (fun u => !Gs.knows (ups q) ids u) = (ups (q.take k)).filter (fun u => !Gs.knows (ups q) ids u) ++ if Gs.knows (ups q) ids (uvD q k).u then [] else [(uvD q k).u] := by
  rw [uvD_take q k hk, ups_append, List.filter_append]
  have e : ups [uvD q k] = [(uvD q k).u] := rfl
  rw [e]
  cases h : Gs.knows (ups q) ids (uvD q k).u <;> simp [h]
theorem Gs.known_at {q : List Uv} {ids : List Wr.Id} {k : Nat} (hk : k < q.length) : (Gs.known (ups q) ids).getD k false = Gs.knows (ups q) ids (uvD q k).u := by
  have eu : uvD q k = q[k] := by
    unfold uvD
    rw [List.getD_eq_getElem?_getD, List.getElem?_eq_getElem hk]
    rfl
  rw [eu]
  simp [Gs.known, ups, List.getElem?_eq_getElem hk]

set_option maxRecDepth 100000 in
set_option maxHeartbeats 4000000 in
theorem Missing_any (hq wq : List Uv) (hv wv : Value) (ids : List Wr.Id) (iv : Value) (w : World) (hV : UpsV w hv hq) (wV : UpsV w wv wq) (hl : hq.length ≤ 4611686018427387903 ∧ wq.length ≤ 4611686018427387903) (hok : ∀ y, y ∈ hq ++ wq → UvOk w y) (hI : IdsV w iv ids) (hil : ids.length ≤ 9223372036854775807) :
    Calls Try.prog 11 #[repVal hv wv, iv] w fun e w' => ∃ (v : Value) (R : List Uv), e = .returned (.tuple #[v, .int .i64 (Gs.missErr (ups hq) (ups wq) ids)]) ∧ UpsV w' v R ∧ (∀ x, x ∈ R → UvOk w' x) ∧ ups R = Gs.missOut (ups hq) (ups wq) ids ∧ Below w.heap.size w w' := by
  obtain ⟨ah, ch, rfl, hch, hAt⟩ := id hV
  obtain ⟨aw, cw, rfl, hcw, wAt⟩ := id wV
  obtain ⟨ai, ci, rfl, hci, hAi⟩ := id hI
  clear hch hcw wAt hci hAi
  obtain ⟨E, hE⟩ : ∃ E, E = Gs.missErr (ups hq) (ups wq) ids := ⟨_, rfl⟩
  obtain ⟨c, hc⟩ : ∃ c, c = Dg.check (ups hq) (ups wq) := ⟨_, rfl⟩
  have HE : Hid (E = Gs.missErr (ups hq) (ups wq) ids) := hE
  rw [← hE]
  have HOUT : Hid (E ≠ 0 → [] = Gs.missOut (ups hq) (ups wq) ids) := fun h => by unfold Gs.missOut; rw [if_neg (by rw [← hE]; exact h)]
  have HOK : Hid (c = 0 → Dg.Ok (ups hq) (ups wq)) := fun h => Dg.check_ok.mp (hc ▸ h)
  have HR : Hid (∀ z, Below w.heap.size w z → UpsV z (.slice ah hq.length ch) hq ∧ UpsV z (.slice aw wq.length cw) wq ∧ (∀ y, y ∈ hq ++ wq → UvOk z y) ∧ IdsV z (.slice ai ids.length ci) ids) := fun z hz => ⟨hV.kc (Kc.below hz), wV.kc (Kc.below hz), (fun y hy => (hok y hy).below hz), idsV_below hI hz⟩
  have H15 : Hid (∀ z, Below w.heap.size w z → Calls Try.prog 14 #[.agg #[.slice ah hq.length ch, .slice aw wq.length cw]] z fun e w' => e = .returned (.int .i64 c) ∧ Below z.heap.size z w') := fun z hz => by
    obtain ⟨k1, k2, k3, _⟩ := HR.out z hz
    rw [hc]
    exact DCheck_any hq wq _ _ z k1 k2 hl k3
  have HCC : Hid (c = Dg.check (ups hq) (ups wq)) := hc
  clear hV wV hI hok hl hAt hE hc
  have b0 := heap_alloc_new w (.cells #[.slice ah hq.length ch, .slice aw wq.length cw] 24)
  have g0 := new_below w (.cells #[.slice ah hq.length ch, .slice aw wq.length cw] 24)
  go_enter Try.func11, Try.ntmps11
  go_upto_region 1 with fail
  generalize w.alloc (.cells #[.slice ah hq.length ch, .slice aw wq.length cw] 24) = w1 at *
  have HX1 : Hid (∀ z, Below w1.heap.size w1 z → z.cell? ⟨w.heap.size, 0, none⟩ = some (.slice ah hq.length ch) ∧ z.cell? ⟨w.heap.size, 1, none⟩ = some (.slice aw wq.length cw)) := fun z hz => ⟨cell_below hz (by rw [Lib.cell_of_heap b0]; rfl), cell_below hz (by rw [Lib.cell_of_heap b0]; rfl)⟩
  have HG1 : Hid (Below w.heap.size w w1) := g0
  clear b0 g0
  obtain ⟨x0, x1⟩ := HX1.out w1 (Below.refl _ _)
  go_wp2_with fail
  refine Calls.mono (H15.out w1 HG1.out) ?_
  rintro _ w2 ⟨rfl, hb2⟩
  have HX2 : Hid (∀ z, Below w2.heap.size w2 z → z.cell? ⟨w.heap.size, 0, none⟩ = some (.slice ah hq.length ch) ∧ z.cell? ⟨w.heap.size, 1, none⟩ = some (.slice aw wq.length cw)) := fun z hz => HX1.out z (hb2.trans (hz.mono hb2.size))
  have HG2 : Hid (Below w.heap.size w w2) := HG1.out.trans (hb2.mono HG1.out.size)
  clear x0 x1 hb2 HX1 HG1 H15
  by_cases h0 : c = 0
  case neg =>
    have d0 : (!decide (c = 0)) = true := by simp [h0]
    have hE2 : E = c := by rw [HE.out, HCC.out]; unfold Gs.missErr; rw [if_pos (by rw [← HCC.out]; exact h0)]
    subst hE2
    go_wp2_with fail
    go_ret2
    exact ⟨_, [], rfl, ups_nil _, (fun x hx => by cases hx), HOUT.out h0, HG2.out⟩
  subst h0
  have HO : Hid (Dg.Ok (ups hq) (ups wq)) := HOK.out rfl
  have hfew := HO.out.few
  rw [ups_length, ups_length] at hfew
  clear HOK
  by_cases h1 : ids.length ≤ 200
  case neg =>
    have d0 : decide ((200 : Int) < (ids.length : Int)) = true := decide_eq_true (by omega)
    have d0' : decide ((ids.length : Int) > 200) = true := decide_eq_true (by omega)
    have hE2 : E = 2 := by rw [HE.out]; unfold Gs.missErr; rw [if_neg (fun h => h HCC.out.symm), if_pos (by omega)]
    subst hE2
    go_wp2_with fail
    go_ret2
    exact ⟨_, [], rfl, ups_nil _, (fun x hx => by cases hx), HOUT.out (by decide), HG2.out⟩
  have d0 : decide ((200 : Int) < (ids.length : Int)) = false := decide_eq_false (by omega)
  have d0' : decide ((ids.length : Int) > 200) = false := decide_eq_false (by omega)
  have hE2 : E = 0 := by rw [HE.out]; unfold Gs.missErr; rw [if_neg (fun h => h HCC.out.symm), if_neg (by omega)]
  subst hE2
  have HFI : Hid (Gs.missing (ups hq) ids = Gs.missOut (ups hq) (ups wq) ids) := by show _ = _; unfold Gs.missOut; rw [if_pos HE.out.symm]
  have HEA : Hid (∀ y, y ∈ hq → Wr.check y.u = 0) := fun y hy => HO.out.each y.u (List.mem_append_left _ (List.mem_map_of_mem hy))
  have HKB : Hid _ := knownBy_any hq ids (.slice ai ids.length ci) (.slice ah hq.length ch) w2 HO.out.rh (by omega) (HR.out w2 HG2.out).2.2.2 (by omega) (HR.out w2 HG2.out).1 (fun y hy => ⟨(HR.out w2 HG2.out).2.2.1 y (List.mem_append_left _ hy), (Wr.right_of (HEA.out y hy)).ps, (Wr.right_of (HEA.out y hy)).ts⟩)
  obtain ⟨x0, x1⟩ := HX2.out w2 (Below.refl _ _)
  clear HE HOUT HCC
  go_wp2_with fail
  refine Calls.mono HKB.out ?_
  rintro _ wO ⟨K, rfl, hrow, hKl, hb3⟩
  have HXO : Hid (∀ z, Below wO.heap.size wO z → z.cell? ⟨w.heap.size, 0, none⟩ = some (.slice ah hq.length ch) ∧ z.cell? ⟨w.heap.size, 1, none⟩ = some (.slice aw wq.length cw)) := fun z hz => HX2.out z (hb3.trans (hz.mono hb3.size))
  have HGO : Hid (Below w.heap.size w wO) := HG2.out.trans (hb3.mono HG2.out.size)
  have HROW : Hid (wO.heap[K]? = some (.cells (boolRow (Gs.known (ups hq) ids)) 4)) := hrow
  clear x0 x1 hb3 HX2 HG2 HKB hrow hKl d0 d0'
  go_wp2_with fail
  go_loopw [7, 23] (fun mv iv wr => ∃ (k : Nat) (R : List Uv), k ≤ hq.length ∧ iv = .int .i64 k ∧ Hid (ups R = (ups (hq.take k)).filter (fun u => !Gs.knows (ups hq) ids u)) ∧ URow wr wO.heap.size mv R ∧ Hid (R.length ≤ k ∧ ∀ x, x ∈ R → UvP wO.heap.size wr x) ∧ Hid (Below wO.heap.size wO wr)) (fun _ iv _ => hq.length - (intOf iv).toNat)
  case atStart => exact ⟨0, [], Nat.zero_le _, rfl, rfl, World.ownsRow_nil _ _ _ _, ⟨Nat.le_refl _, (fun x hx => by cases hx)⟩, Below.refl _ _⟩
  case round =>
    obtain ⟨k, R, hk, rfl, HU, hrw, HP, HB⟩ := hrel
    obtain ⟨aR, cR, rfl⟩ := own_slice hrw
    have hRk := HP.out.1
    by_cases hlt : k < hq.length
    · have g1 : decide (k < hq.length) = true := decide_eq_true hlt
      have g1' : decide ((k : Int) < (hq.length : Int)) = true := decide_eq_true (by omega)
      have HBw : Hid (Below w.heap.size w wr) := HGO.out.trans (HB.out.mono HGO.out.size)
      have hst := Gs.miss_step (ids := ids) hlt
      have kc := boolRow_cell (i := k) ((HB.out.block _ (Array.getElem?_eq_some_iff.1 HROW.out).1).trans HROW.out) (by unfold Gs.known; rw [List.length_map, ups_length]; exact hlt)
      rw [Gs.known_at hlt] at kc
      obtain ⟨x0, x1⟩ := HXO.out wr HB.out
      cases hkn : Gs.knows (ups hq) ids (uvD hq k).u with
      | true =>
        rw [hkn] at kc hst
        have HU2 : Hid (ups R = (ups (hq.take (k + 1))).filter (fun u => !Gs.knows (ups hq) ids u)) := by
          show _ = _
          rw [hst, HU.out]
          simp
        have HRW : Hid (URow wr wO.heap.size (.slice aR R.length cR) R) := hrw
        clear hst hkn HU hrw
        go_wp2_with fail
        go_roundw
        case rel => exact ⟨k + 1, R, hlt, by go_num, HU2.out, HRW.out, ⟨by omega, HP.out.2⟩, HB.out⟩
        case measure => simp [intOf]; omega
      | false =>
        rw [hkn] at kc hst
        have HU2 : Hid (∀ x' : Uv, x'.u = (uvD hq k).u → ups (R ++ [x']) = (ups (hq.take (k + 1))).filter (fun u => !Gs.knows (ups hq) ids u)) := fun x' e => by
          rw [hst, ups_append, HU.out]
          simp [ups, e]
        clear hst hkn HU
        have hxo := (HR.out wr HBw.out).2.2.1 _ (List.mem_append_left _ (uvD_mem hq k hlt))
        have hxr := Wr.right_of (HEA.out _ (uvD_mem hq k hlt))
        obtain ⟨ah', ch', eh, _, hAA⟩ := (HR.out wr HBw.out).1
        cases eh
        obtain ⟨b, off, eb, p0, p1, p2, p3, p4⟩ := ups_at hAA k hlt
        clear hAA
        generalize uvD hq k = x at *
        obtain ⟨b1, m1, f1, b2, m2, f2, b3, m3, f3, e1, e2, e3⟩ := hxo.forms
        have HCP : Hid _ := Copy_any x wr hxo ⟨hxr.ps, hxr.says, hxr.ts⟩ (fun f hf => Gs.right_args hxr hf)
        clear hxo hxr
        obtain ⟨⟨⟨va, vn⟩, ps, says, ts⟩, vp, vs, vt⟩ := x
        dsimp only at *
        subst e1 e2 e3
        subst eb
        go_wp2_with fail
        refine Calls.mono HCP.out ?_
        rintro _ wd ⟨x', rfl, hxu, hxp, hbd⟩
        have HM3 : Hid _ := HU2.out x' hxu
        have hrow3 := ownsRow_below hrw hbd
        have HB3 : Hid (Below wO.heap.size wO wd) := HB.out.trans (hbd.mono HB.out.size)
        have hxp2 : UvP wO.heap.size wd x' := hxp.le HB.out.size
        have HP3 : Hid (∀ x, x ∈ R → UvP wO.heap.size wd x) := fun x hx => (HP.out.2 x hx).below hbd
        obtain ⟨c1, l1, k1, c2, l2, k2, c3, l3, k3, e1, e2, e3⟩ := hxp2.ok.forms
        clear hxu hxp hrw hbd HB HU2 HP HCP p0 p1 p2 p3 p4 kc x0 x1
        obtain ⟨⟨⟨ua, un⟩, ps', says', ts'⟩, vp, vs, vt⟩ := x'
        dsimp only at *
        subst e1 e2 e3
        have HXP : Hid (UvP wO.heap.size wd ⟨⟨⟨ua, un⟩, ps', says', ts'⟩, .slice c1 l1 k1, .slice c2 l2 k2, .slice c3 l3 k3⟩) := hxp2
        clear hxp2
        go_wp2_with (at_builtin; refine wp_append_ups (W := wd) rfl _ _ rfl wO.heap.size (HB3.out.alloc HB3.out.size _).size _ R rfl (hrow3.alloc _) (some ⟨wd.heap.size, 0, none⟩) 1 [(⟨⟨⟨ua, un⟩, ps', says', ts'⟩, .slice c1 l1 k1, .slice c2 l2 k2, .slice c3 l3 k3⟩ : Uv)] rfl (fun h => by cases h) (ups_one _ ⟨⟨⟨ua, un⟩, ps', says', ts'⟩, .slice c1 l1 k1, .slice c2 l2 k2, .slice c3 l3 k3⟩) (one_ok HXP.out.ok) (by rw [List.length_singleton]; omega) ?_; intro vs9 z9 hown9 hgrow9)
        have hB9 : Below wO.heap.size wO z9 := (HB3.out.alloc HB3.out.size _).grown hgrow9 (HB3.out.alloc HB3.out.size _).size (fun j e => (hrow3.lt j e).1)
        have hkt : Kt wd z9 := (Kt.below (new_below wd _)).trans (kt_append (hrow3.alloc _) hgrow9)
        obtain ⟨ao9, cap9, rfl⟩ := own_slice hown9
        have RF : Hid (URow z9 wO.heap.size (.slice ao9 (R ++ [(⟨⟨⟨ua, un⟩, ps', says', ts'⟩, .slice c1 l1 k1, .slice c2 l2 k2, .slice c3 l3 k3⟩ : Uv)]).length cap9) (R ++ [(⟨⟨⟨ua, un⟩, ps', says', ts'⟩, .slice c1 l1 k1, .slice c2 l2 k2, .slice c3 l3 k3⟩ : Uv)])) := hown9
        have B9 : Hid (Below wO.heap.size wO z9) := hB9
        have HP9 : Hid ((R ++ [(⟨⟨⟨ua, un⟩, ps', says', ts'⟩, .slice c1 l1 k1, .slice c2 l2 k2, .slice c3 l3 k3⟩ : Uv)]).length ≤ k + 1 ∧ ∀ x, x ∈ R ++ [(⟨⟨⟨ua, un⟩, ps', says', ts'⟩, .slice c1 l1 k1, .slice c2 l2 k2, .slice c3 l3 k3⟩ : Uv)] → UvP wO.heap.size z9 x) := ⟨by rw [List.length_append, List.length_singleton]; omega, fun x hx => by
          rcases List.mem_append.mp hx with h9 | h9
          · exact (HP3.out x h9).kt hkt
          · rw [List.mem_singleton.mp h9]
            exact HXP.out.kt hkt⟩
        clear hB9 hown9 hgrow9 hkt hrow3 HB3 HP3 HXP
        go_wp2_with fail
        go_roundw
        case rel => exact ⟨k + 1, _, hlt, by go_num, HM3.out, RF.out, HP9.out, B9.out⟩
        case measure => simp [intOf]; omega
    · have g1 : decide (k < hq.length) = false := decide_eq_false hlt
      have g1' : decide ((k : Int) < (hq.length : Int)) = false := decide_eq_false (by omega)
      have HF : Hid (ups R = Gs.missOut (ups hq) (ups wq) ids) := by
        show _ = _
        rw [← HFI.out, HU.out, List.take_of_length_le (by omega)]
        rfl
      have HUV : Hid (UpsV wr (.slice aR R.length cR) R) := own_ups hrw
      have HBw : Hid (Below w.heap.size w wr) := HGO.out.trans (HB.out.mono HGO.out.size)
      clear hrw HU
      go_wp2_with fail
      go_ret2
      exact ⟨_, R, rfl, HUV.out, (fun x hx => (HP.out.2 x hx).ok), HF.out, HBw.out⟩
end Go.Proofs.Ytmfaodapofamfaa

