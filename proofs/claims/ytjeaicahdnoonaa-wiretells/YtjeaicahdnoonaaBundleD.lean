/- Own texts, one behind the other (part 4). -/
import Derived.Test.YtjeaicahdnoonaaBundleC
import Derived.Test.YtjeaicahdnoonaaRows
import Derived.ProofKit
import Derived.JoinedOf
/- The document's bytes of an update. -/
namespace Go.Proofs.Ytjeaicahdnoonaa
open Go.RowKit

theorem intD_mem (l : List Int) (k : Nat) (hk : k < l.length) : Sc.intD l k ∈ l := by simp [Sc.intD, hk]
def encTab (X : Nat) (ia n : Int) (ap as_ : Option Addr) (pl cp sl cs : Nat) (D1 D2 D3 D4 : Wr.By) : Nat → Value
  | 6 => .pointer (some ⟨X, 0, none⟩)
  | 7 => .pointer (some ⟨X, 0, none⟩)
  | 8 => .int .i64 ia
  | 9 => strVal D1
  | 10 => .pointer (some ⟨X, 0, none⟩)
  | 11 => .pointer (some ⟨X, 1, none⟩)
  | 12 => .int .i64 n
  | 13 => strVal D2
  | 14 => .string (({ data := D1.toArray } : ByteArray) ++ ({ data := D2.toArray } : ByteArray))
  | 15 => .pointer (some ⟨X, 2, none⟩)
  | 16 => .slice ap pl cp
  | 17 => strVal D3
  | 18 => .string (({ data := D1.toArray } : ByteArray) ++ ({ data := D2.toArray } : ByteArray) ++ ({ data := D3.toArray } : ByteArray))
  | 19 => .pointer (some ⟨X, 3, none⟩)
  | 20 => .slice as_ sl cs
  | 21 => .int .i64 sl
  | 22 => strVal D4
  | 23 => .string (({ data := D1.toArray } : ByteArray) ++ ({ data := D2.toArray } : ByteArray) ++ ({ data := D3.toArray } : ByteArray) ++ ({ data := D4.toArray } : ByteArray))
  | 3 => .string (({ data := D1.toArray } : ByteArray) ++ ({ data := D2.toArray } : ByteArray) ++ ({ data := D3.toArray } : ByteArray) ++ ({ data := D4.toArray } : ByteArray))
  | _ => .bool false

set_option maxRecDepth 100000 in
set_option maxHeartbeats 3000000 in
theorem EncodeOf_any (u : Wr.Up) (vp vs vt : Value) (w : World) (hP : IdsV w vp u.ps) (hS : FactsV w vs u.says) (hT : IdsV w vt u.ts) (hR : Wr.Right u) :
    Calls Try.prog 8 #[upVal u vp vs vt] w fun e w' => e = .returned (strVal (Wr.enc u)) ∧ Below w.heap.size w w' := by
  have hfl : ∀ f, f ∈ u.says → (0 ≤ f.pred ∧ f.pred ≤ 9 ∧ f.args.length ≤ 3) ∧ ∀ x, x ∈ f.args → -1000000 ≤ x ∧ x ≤ 1000000 := fun f hf => by
    have := hR.fs f hf
    unfold Wr.factOk at this
    rw [Bool.and_eq_true, decide_eq_true_eq] at this
    exact ⟨this.1, fun x hx => of_decide_eq_true (List.all_eq_true.mp this.2 x hx)⟩
  obtain ⟨hid, hps, hsays, hts, hpi, hti, _⟩ := hR
  obtain ⟨⟨ia, n⟩, ps, says, ts⟩ := u
  dsimp only at hP hS hT hfl hps hsays hts hpi hti
  have hid := of_decide_eq_true hid
  dsimp only at hid
  have HPV : Hid (IdsV w vp ps) := hP
  have HTV : Hid (IdsV w vt ts) := hT
  obtain ⟨ap, cp, rfl, _⟩ := hP
  obtain ⟨as_, cs, rfl, _, hA⟩ := hS
  obtain ⟨at_, ct, rfl, _⟩ := hT
  have HA : Hid (FactsAt w as_ says) := hA
  have HFL : Hid _ := hfl
  have HTI : Hid (∀ x, x ∈ ts → Wr.isId x = true) := hti
  have hG := new_below w (.cells #[.int .i64 ia, .int .i64 n, .slice ap ps.length cp, .slice as_ says.length cs, .slice at_ ts.length ct] 27)
  have hBx := heap_alloc_new w (.cells #[.int .i64 ia, .int .i64 n, .slice ap ps.length cp, .slice as_ says.length cs, .slice at_ ts.length ct] 27)
  clear hA hfl hti
  go_enter Try.func8, Try.ntmps8
  go_upto_region 1 with fail
  generalize w.alloc (.cells #[.int .i64 ia, .int .i64 n, .slice ap ps.length cp, .slice as_ says.length cs, .slice at_ ts.length ct] 27) = w2 at *
  have HC : Hid (∀ z, Below w2.heap.size w2 z → z.cell? ⟨w.heap.size, 0, none⟩ = some (.int .i64 ia) ∧ z.cell? ⟨w.heap.size, 1, none⟩ = some (.int .i64 n) ∧ z.cell? ⟨w.heap.size, 2, none⟩ = some (.slice ap ps.length cp) ∧ z.cell? ⟨w.heap.size, 3, none⟩ = some (.slice as_ says.length cs) ∧ z.cell? ⟨w.heap.size, 4, none⟩ = some (.slice at_ ts.length ct)) := by
    intro z h3
    have hA' := (h3.block w.heap.size (by have := (Array.getElem?_eq_some_iff.1 hBx).1; omega)).trans hBx
    exact ⟨by rw [Lib.cell_of_heap hA']; rfl, by rw [Lib.cell_of_heap hA']; rfl, by rw [Lib.cell_of_heap hA']; rfl, by rw [Lib.cell_of_heap hA']; rfl, by rw [Lib.cell_of_heap hA']; rfl⟩
  obtain ⟨c0, c1, c2, c3, c4⟩ := HC.out w2 (Below.refl _ _)
  have HB1 : Hid (∀ z, Below w2.heap.size w2 z → Calls Try.prog 22 #[.int .i64 ia, .int .i64 1] z fun e w' => e = .returned (strVal (Wr.le 1 ia)) ∧ Below z.heap.size z w') := fun z _ => (Bytes_any ia 1 z (by omega) (by omega) (by omega)).mono fun _ _ h => ⟨h.1, h.2.below⟩
  have HB2 : Hid (∀ z, Below w2.heap.size w2 z → Calls Try.prog 22 #[.int .i64 n, .int .i64 2] z fun e w' => e = .returned (strVal (Wr.le 2 n)) ∧ Below z.heap.size z w') := fun z _ => (Bytes_any n 2 z (by omega) (by omega) (by omega)).mono fun _ _ h => ⟨h.1, h.2.below⟩
  have HB3 : Hid (∀ z, Below w2.heap.size w2 z → Calls Try.prog 23 #[.slice ap ps.length cp] z fun e w' => e = .returned (strVal (Wr.encIds ps)) ∧ Below z.heap.size z w') := fun z hz => (idsBytes_any ps _ z (idsV_below (idsV_below HPV.out hG) hz) (by omega) hpi)
  have HB4 : Hid (∀ z, Below w2.heap.size w2 z → Calls Try.prog 22 #[.int .i64 says.length, .int .i64 1] z fun e w' => e = .returned (strVal (Wr.le 1 says.length)) ∧ Below z.heap.size z w') := fun z _ => (Bytes_any says.length 1 z (by omega) (by omega) (by omega)).mono fun _ _ h => ⟨h.1, h.2.below⟩
  have hl1 := le_len 1 ia
  have hl2 := le_len 2 n
  have hl3 := encIds_len ps
  have hl4 := le_len 1 (says.length : Int)
  have HEN : Hid (Wr.enc ⟨⟨ia, n⟩, ps, says, ts⟩ = ((((Wr.le 1 ia ++ Wr.le 2 n) ++ Wr.encIds ps) ++ Wr.le 1 says.length) ++ allF says) ++ Wr.encIds ts) := by
    show _ = _
    unfold Wr.enc Wr.encFs Wr.encId allF
    simp only [List.append_assoc]
  generalize Wr.le 1 ia = D1 at *
  generalize Wr.le 2 n = D2 at *
  generalize Wr.encIds ps = D3 at *
  generalize Wr.le 1 (says.length : Int) = D4 at *
  have hs1 : ¬ 9223372036854775807 < D1.length + D2.length := by omega
  have hs2 : ¬ 9223372036854775807 < D1.length + D2.length + D3.length := by omega
  have hs3 : ¬ 9223372036854775807 < D1.length + D2.length + D3.length + D4.length := by omega
  have HLL : Hid (D1.length ≤ 1 ∧ D2.length ≤ 2 ∧ D3.length ≤ 20 ∧ D4.length ≤ 1) := ⟨by omega, by omega, by omega, by omega⟩
  clear hBx hid hpi hl1 hl2 hl3 hl4
  refine wp_region_tabA (fun tQ vQ _ => vQ = encTab w.heap.size ia n ap as_ ps.length cp says.length cs D1 D2 D3 D4 tQ) (by kernel_rfl) (by kernel_rfl) (fun _ _ _ _ _ h => h) ?hop1 ?hend1
  case hop1 =>
    refine AllOps.cons (fun a y h => ?_) ?_
    · have e1 : a.eval (.tmp 1) = (.pointer (some ⟨w.heap.size, 0, none⟩) : Value) := h.old 1 (by kernel_rfl)
      refine opOk_val (v := .pointer (some ⟨w.heap.size, 0, none⟩)) (w' := y) (wanted_none rfl) ?_ (fun t ht => by cases ht; exact rfl) (Below.refl _ _)
      have ec : ∀ v, a.eval (.const v) = v := fun _ => rfl
      generalize a.eval = ev at *
      clear h
      go_simp
    refine AllOps.cons (fun a y h => ?_) ?_
    · have e6 : a.eval (.tmp 6) = (.pointer (some ⟨w.heap.size, 0, none⟩) : Value) := h.of 6 (by kernel_rfl)
      refine opOk_val (v := .pointer (some ⟨w.heap.size, 0, none⟩)) (w' := y) (wanted_none rfl) ?_ (fun t ht => by cases ht; exact rfl) (Below.refl _ _)
      have ec : ∀ v, a.eval (.const v) = v := fun _ => rfl
      generalize a.eval = ev at *
      clear h
      go_simp
    refine AllOps.cons (fun a y h => ?_) ?_
    · have e7 : a.eval (.tmp 7) = (.pointer (some ⟨w.heap.size, 0, none⟩) : Value) := h.of 7 (by kernel_rfl)
      have q0 := cell_below h.below c0
      refine opOk_val (v := .int .i64 ia) (w' := y) (wanted_none rfl) ?_ (fun t ht => by cases ht; exact rfl) (Below.refl _ _)
      have ec : ∀ v, a.eval (.const v) = v := fun _ => rfl
      generalize a.eval = ev at *
      clear h
      go_simp
    refine AllOps.cons (fun a y h => ?_) ?_
    · have e8 : a.eval (.tmp 8) = (.int .i64 ia : Value) := h.of 8 (by kernel_rfl)
      refine opOk_call (f := 22) (args := #[.int .i64 ia, .int .i64 1]) (wanted_none rfl) ?_ ?_
      · have ec : ∀ v, a.eval (.const v) = v := fun _ => rfl
        have ef : ∀ f, a.eval (.func f) = .func (.func f) #[] #[] := fun _ => rfl
        generalize a.eval = ev at *
        clear h
        go_simp
      · refine Calls.mono (HB1.out y h.below) ?_
        rintro _ y2 ⟨rfl, hb2⟩
        exact ⟨_, rfl, fun t ht => by cases ht; exact rfl, hb2⟩
    refine AllOps.cons (fun a y h => ?_) ?_
    · have e1 : a.eval (.tmp 1) = (.pointer (some ⟨w.heap.size, 0, none⟩) : Value) := h.old 1 (by kernel_rfl)
      refine opOk_val (v := .pointer (some ⟨w.heap.size, 0, none⟩)) (w' := y) (wanted_none rfl) ?_ (fun t ht => by cases ht; exact rfl) (Below.refl _ _)
      have ec : ∀ v, a.eval (.const v) = v := fun _ => rfl
      generalize a.eval = ev at *
      clear h
      go_simp
    refine AllOps.cons (fun a y h => ?_) ?_
    · have e10 : a.eval (.tmp 10) = (.pointer (some ⟨w.heap.size, 0, none⟩) : Value) := h.of 10 (by kernel_rfl)
      refine opOk_val (v := .pointer (some ⟨w.heap.size, 1, none⟩)) (w' := y) (wanted_none rfl) ?_ (fun t ht => by cases ht; exact rfl) (Below.refl _ _)
      have ec : ∀ v, a.eval (.const v) = v := fun _ => rfl
      generalize a.eval = ev at *
      clear h
      go_simp
    refine AllOps.cons (fun a y h => ?_) ?_
    · have e11 : a.eval (.tmp 11) = (.pointer (some ⟨w.heap.size, 1, none⟩) : Value) := h.of 11 (by kernel_rfl)
      have q1 := cell_below h.below c1
      refine opOk_val (v := .int .i64 n) (w' := y) (wanted_none rfl) ?_ (fun t ht => by cases ht; exact rfl) (Below.refl _ _)
      have ec : ∀ v, a.eval (.const v) = v := fun _ => rfl
      generalize a.eval = ev at *
      clear h
      go_simp
    refine AllOps.cons (fun a y h => ?_) ?_
    · have e12 : a.eval (.tmp 12) = (.int .i64 n : Value) := h.of 12 (by kernel_rfl)
      refine opOk_call (f := 22) (args := #[.int .i64 n, .int .i64 2]) (wanted_none rfl) ?_ ?_
      · have ec : ∀ v, a.eval (.const v) = v := fun _ => rfl
        have ef : ∀ f, a.eval (.func f) = .func (.func f) #[] #[] := fun _ => rfl
        generalize a.eval = ev at *
        clear h
        go_simp
      · refine Calls.mono (HB2.out y h.below) ?_
        rintro _ y2 ⟨rfl, hb2⟩
        exact ⟨_, rfl, fun t ht => by cases ht; exact rfl, hb2⟩
    refine AllOps.cons (fun a y h => ?_) ?_
    · have e9 : a.eval (.tmp 9) = (strVal D1 : Value) := h.of 9 (by kernel_rfl)
      have e13 : a.eval (.tmp 13) = (strVal D2 : Value) := h.of 13 (by kernel_rfl)
      refine opOk_val (v := .string (({ data := D1.toArray } : ByteArray) ++ ({ data := D2.toArray } : ByteArray))) (w' := y) (wanted_none rfl) ?_ (fun t ht => by cases ht; exact rfl) (Below.refl _ _)
      have ec : ∀ v, a.eval (.const v) = v := fun _ => rfl
      generalize a.eval = ev at *
      clear h
      go_simp
    refine AllOps.cons (fun a y h => ?_) ?_
    · have e1 : a.eval (.tmp 1) = (.pointer (some ⟨w.heap.size, 0, none⟩) : Value) := h.old 1 (by kernel_rfl)
      refine opOk_val (v := .pointer (some ⟨w.heap.size, 2, none⟩)) (w' := y) (wanted_none rfl) ?_ (fun t ht => by cases ht; exact rfl) (Below.refl _ _)
      have ec : ∀ v, a.eval (.const v) = v := fun _ => rfl
      generalize a.eval = ev at *
      clear h
      go_simp
    refine AllOps.cons (fun a y h => ?_) ?_
    · have e15 : a.eval (.tmp 15) = (.pointer (some ⟨w.heap.size, 2, none⟩) : Value) := h.of 15 (by kernel_rfl)
      have q2 := cell_below h.below c2
      refine opOk_val (v := .slice ap ps.length cp) (w' := y) (wanted_none rfl) ?_ (fun t ht => by cases ht; exact rfl) (Below.refl _ _)
      have ec : ∀ v, a.eval (.const v) = v := fun _ => rfl
      generalize a.eval = ev at *
      clear h
      go_simp
    refine AllOps.cons (fun a y h => ?_) ?_
    · have e16 : a.eval (.tmp 16) = (.slice ap ps.length cp : Value) := h.of 16 (by kernel_rfl)
      refine opOk_call (f := 23) (args := #[.slice ap ps.length cp]) (wanted_none rfl) ?_ ?_
      · have ec : ∀ v, a.eval (.const v) = v := fun _ => rfl
        have ef : ∀ f, a.eval (.func f) = .func (.func f) #[] #[] := fun _ => rfl
        generalize a.eval = ev at *
        clear h
        go_simp
      · refine Calls.mono (HB3.out y h.below) ?_
        rintro _ y2 ⟨rfl, hb2⟩
        exact ⟨_, rfl, fun t ht => by cases ht; exact rfl, hb2⟩
    refine AllOps.cons (fun a y h => ?_) ?_
    · have e14 : a.eval (.tmp 14) = (.string (({ data := D1.toArray } : ByteArray) ++ ({ data := D2.toArray } : ByteArray)) : Value) := h.of 14 (by kernel_rfl)
      have e17 : a.eval (.tmp 17) = (strVal D3 : Value) := h.of 17 (by kernel_rfl)
      refine opOk_val (v := .string (({ data := D1.toArray } : ByteArray) ++ ({ data := D2.toArray } : ByteArray) ++ ({ data := D3.toArray } : ByteArray))) (w' := y) (wanted_none rfl) ?_ (fun t ht => by cases ht; exact rfl) (Below.refl _ _)
      have ec : ∀ v, a.eval (.const v) = v := fun _ => rfl
      generalize a.eval = ev at *
      clear h
      go_simp
    refine AllOps.cons (fun a y h => ?_) ?_
    · have e1 : a.eval (.tmp 1) = (.pointer (some ⟨w.heap.size, 0, none⟩) : Value) := h.old 1 (by kernel_rfl)
      refine opOk_val (v := .pointer (some ⟨w.heap.size, 3, none⟩)) (w' := y) (wanted_none rfl) ?_ (fun t ht => by cases ht; exact rfl) (Below.refl _ _)
      have ec : ∀ v, a.eval (.const v) = v := fun _ => rfl
      generalize a.eval = ev at *
      clear h
      go_simp
    refine AllOps.cons (fun a y h => ?_) ?_
    · have e19 : a.eval (.tmp 19) = (.pointer (some ⟨w.heap.size, 3, none⟩) : Value) := h.of 19 (by kernel_rfl)
      have q3 := cell_below h.below c3
      refine opOk_val (v := .slice as_ says.length cs) (w' := y) (wanted_none rfl) ?_ (fun t ht => by cases ht; exact rfl) (Below.refl _ _)
      have ec : ∀ v, a.eval (.const v) = v := fun _ => rfl
      generalize a.eval = ev at *
      clear h
      go_simp
    refine AllOps.cons (fun a y h => ?_) ?_
    · have e20 : a.eval (.tmp 20) = (.slice as_ says.length cs : Value) := h.of 20 (by kernel_rfl)
      refine opOk_val (v := .int .i64 says.length) (w' := y) (wanted_none rfl) ?_ (fun t ht => by cases ht; exact rfl) (Below.refl _ _)
      have ec : ∀ v, a.eval (.const v) = v := fun _ => rfl
      generalize a.eval = ev at *
      clear h
      go_simp
    refine AllOps.cons (fun a y h => ?_) ?_
    · have e21 : a.eval (.tmp 21) = (.int .i64 says.length : Value) := h.of 21 (by kernel_rfl)
      refine opOk_call (f := 22) (args := #[.int .i64 says.length, .int .i64 1]) (wanted_none rfl) ?_ ?_
      · have ec : ∀ v, a.eval (.const v) = v := fun _ => rfl
        have ef : ∀ f, a.eval (.func f) = .func (.func f) #[] #[] := fun _ => rfl
        generalize a.eval = ev at *
        clear h
        go_simp
      · refine Calls.mono (HB4.out y h.below) ?_
        rintro _ y2 ⟨rfl, hb2⟩
        exact ⟨_, rfl, fun t ht => by cases ht; exact rfl, hb2⟩
    refine AllOps.cons (fun a y h => ?_) ?_
    · have e18 : a.eval (.tmp 18) = (.string (({ data := D1.toArray } : ByteArray) ++ ({ data := D2.toArray } : ByteArray) ++ ({ data := D3.toArray } : ByteArray)) : Value) := h.of 18 (by kernel_rfl)
      have e22 : a.eval (.tmp 22) = (strVal D4 : Value) := h.of 22 (by kernel_rfl)
      refine opOk_val (v := .string (({ data := D1.toArray } : ByteArray) ++ ({ data := D2.toArray } : ByteArray) ++ ({ data := D3.toArray } : ByteArray) ++ ({ data := D4.toArray } : ByteArray))) (w' := y) (wanted_none rfl) ?_ (fun t ht => by cases ht; exact rfl) (Below.refl _ _)
      have ec : ∀ v, a.eval (.const v) = v := fun _ => rfl
      generalize a.eval = ev at *
      clear h
      go_simp
    refine AllOps.cons (fun a y h => ?_) ?_
    · have e23 : a.eval (.tmp 23) = (.string (({ data := D1.toArray } : ByteArray) ++ ({ data := D2.toArray } : ByteArray) ++ ({ data := D3.toArray } : ByteArray) ++ ({ data := D4.toArray } : ByteArray)) : Value) := h.of 23 (by kernel_rfl)
      refine opOk_val (v := .string (({ data := D1.toArray } : ByteArray) ++ ({ data := D2.toArray } : ByteArray) ++ ({ data := D3.toArray } : ByteArray) ++ ({ data := D4.toArray } : ByteArray))) (w' := y) (wanted_none rfl) ?_ (fun t ht => by cases ht; exact rfl) (Below.refl _ _)
      have ec : ∀ v, a.eval (.const v) = v := fun _ => rfl
      generalize a.eval = ev at *
      clear h
      go_simp
    exact AllOps.nil
  case hend1 =>
    rintro ⟨tm, df⟩ wE hbE hdE hsE hstE hTE
    have h3 : tm.getD 3 undef = .string (({ data := D1.toArray } : ByteArray) ++ ({ data := D2.toArray } : ByteArray) ++ ({ data := D3.toArray } : ByteArray) ++ ({ data := D4.toArray } : ByteArray)) := ends_at (T := fun tQ vQ _ => vQ = encTab w.heap.size ia n ap as_ ps.length cp says.length cs D1 D2 D3 D4 tQ) (w := wE) (a := ⟨tm, df⟩) (t := 3) hTE (by kernel_rfl)
    obtain rfl : df = [] := hdE
    have hFE := tmps_fold [6, 7, 8, 9, 10, 11, 12, 13, 14, 15, 16, 17, 18, 19, 20, 21, 22, 23, 3] tm _ hsE hstE
    clear hsE hstE hTE
    simp only [List.foldl_cons, List.foldl_nil, h3] at hFE
    clear h3
    generalize tm.getD 6 undef = x6 at hFE
    generalize tm.getD 7 undef = x7 at hFE
    generalize tm.getD 8 undef = x8 at hFE
    generalize tm.getD 9 undef = x9 at hFE
    generalize tm.getD 10 undef = x10 at hFE
    generalize tm.getD 11 undef = x11 at hFE
    generalize tm.getD 12 undef = x12 at hFE
    generalize tm.getD 13 undef = x13 at hFE
    generalize tm.getD 14 undef = x14 at hFE
    generalize tm.getD 15 undef = x15 at hFE
    generalize tm.getD 16 undef = x16 at hFE
    generalize tm.getD 17 undef = x17 at hFE
    generalize tm.getD 18 undef = x18 at hFE
    generalize tm.getD 19 undef = x19 at hFE
    generalize tm.getD 20 undef = x20 at hFE
    generalize tm.getD 21 undef = x21 at hFE
    generalize tm.getD 22 undef = x22 at hFE
    generalize tm.getD 23 undef = x23 at hFE
    simp only [List.setIfInBounds_toArray, List.set_cons_zero, List.set_cons_succ] at hFE
    subst hFE
    clear HB1 HB2 HB3 HB4 c0 c1 c2 c3 c4 hs1 hs2 hs3
    obtain ⟨D, hD⟩ : ∃ D, D = ((D1 ++ D2) ++ D3) ++ D4 := ⟨_, rfl⟩
    have hDl : D.length ≤ 100 := by rw [hD]; have := HLL.out; simp only [List.length_append]; omega
    have HD : Hid (strVal D = .string (({ data := D1.toArray } : ByteArray) ++ ({ data := D2.toArray } : ByteArray) ++ ({ data := D3.toArray } : ByteArray) ++ ({ data := D4.toArray } : ByteArray))) := by show _ = _; rw [hD]; rw [app_list, app_list, app_list]
    rw [← hD] at HEN
    rw [← HD.out]
    clear hD HD HLL
    obtain ⟨c0, c1, c2, c3, c4⟩ := HC.out _ hbE
    go_wp2_with fail
    go_loopw [3, 4, 5] (fun sv iv _ wr => ∃ k : Nat, k ≤ says.length ∧ iv = .int .i64 k ∧ sv = strVal (D ++ allF (says.take k)) ∧ Below w2.heap.size w2 wr) (fun _ iv _ _ => says.length - (intOf iv).toNat)
    case atStart => exact ⟨0, Nat.zero_le _, rfl, by simp [allF], hbE⟩
    case round =>
      clear c0 c1 c2 c3 c4
      obtain ⟨wo, hwo⟩ : ∃ wo, wo = wr := ⟨_, rfl⟩
      subst hwo
      obtain ⟨k, hk, rfl, rfl, hbw⟩ := hrel
      have hlen : (D ++ allF (says.take k)).length ≤ 1000 := by
        have := allF_len (says.take k) (fun f hf => (HFL.out f (List.mem_of_mem_take hf)).1.2.2)
        rw [List.length_append]
        rw [List.length_take] at this
        omega
      have HS : Hid (k < says.length → allF (says.take (k + 1)) = allF (says.take k) ++ Wr.encF (Rl.factD says k)) := allF_snoc says k
      have HE : Hid (¬ k < says.length → allF (says.take k) = allF says) := fun h => by rw [List.take_of_length_le (by omega)]
      obtain ⟨c0, c1, c2, c3, c4⟩ := HC.out _ hbw
      have HBW : Hid (Below w.heap.size w wo) := hG.trans (hbw.mono hG.size)
      by_cases hlt : k < says.length
      · obtain ⟨b, off, rfl, p0, fv, p1, hIv⟩ := facts_at HA.out k hlt
        have a0 := cell_below HBW.out p0
        have a1 := cell_below HBW.out p1
        have HST : Hid _ := HS.out hlt
        obtain ⟨har, HAN⟩ := HFL.out _ (factD_mem says k hlt)
        have HAN : Hid _ := HAN
        have HP1 : Hid _ := p1
        obtain ⟨af, cf, rfl, hIA⟩ := hIv
        have HIA : Hid (IntsAt w af (Rl.factD says k).args) := hIA
        clear HS HE p0 p1 hIA c0 c1 c2 c4
        generalize Rl.factD says k = x at *
        obtain ⟨xp, xs⟩ := x
        dsimp only at *
        have HN : Hid (D ++ allF (says.take (k + 1)) = ((D ++ allF (says.take k)) ++ (Wr.le 1 xp ++ Wr.le 1 xs.length)) ++ (xs.map (Wr.le 4)).flatten) := by
          show _ = _
          rw [HST.out]
          unfold Wr.encF Wr.encArgs
          simp only [List.append_assoc]
        have hl1 := le_len 1 xp
        have hl2 := le_len 1 (xs.length : Int)
        have HCC : Hid (∀ z, Below wo.heap.size wo z → z.cell? ⟨w.heap.size, 3, none⟩ = some (.slice (some ⟨b, off, none⟩) says.length cs) ∧ z.cell? ⟨b, off + k * 2, none⟩ = some (.int .i64 xp) ∧ z.cell? ⟨b, off + k * 2 + 1, none⟩ = some (.slice af xs.length cf)) := fun z hz => ⟨cell_below hz c3, cell_below hz a0, cell_below hz a1⟩
        have HB1 : Hid (∀ z, Below wo.heap.size wo z → Calls Try.prog 22 #[.int .i64 xp, .int .i64 1] z fun e w' => e = .returned (strVal (Wr.le 1 xp)) ∧ Below wo.heap.size wo w' ∧ w'.cell? ⟨w.heap.size, 3, none⟩ = some (.slice (some ⟨b, off, none⟩) says.length cs) ∧ w'.cell? ⟨b, off + k * 2, none⟩ = some (.int .i64 xp) ∧ w'.cell? ⟨b, off + k * 2 + 1, none⟩ = some (.slice af xs.length cf)) := by
          intro z hz
          refine (Bytes_any xp 1 z (by omega) (by omega) (by omega)).mono ?_
          rintro e w' ⟨h1, h2⟩
          have h3 := hz.trans (h2.below.mono hz.size)
          exact ⟨h1, h3, HCC.out _ h3⟩
        have HB2 : Hid (∀ z, Below wo.heap.size wo z → Calls Try.prog 22 #[.int .i64 xs.length, .int .i64 1] z fun e w' => e = .returned (strVal (Wr.le 1 xs.length)) ∧ Below wo.heap.size wo w' ∧ w'.cell? ⟨w.heap.size, 3, none⟩ = some (.slice (some ⟨b, off, none⟩) says.length cs) ∧ w'.cell? ⟨b, off + k * 2, none⟩ = some (.int .i64 xp) ∧ w'.cell? ⟨b, off + k * 2 + 1, none⟩ = some (.slice af xs.length cf)) := by
          intro z hz
          refine (Bytes_any xs.length 1 z (by omega) (by omega) (by omega)).mono ?_
          rintro e w' ⟨h1, h2⟩
          have h3 := hz.trans (h2.below.mono hz.size)
          exact ⟨h1, h3, HCC.out _ h3⟩
        generalize Wr.le 1 xp = E1 at *
        generalize Wr.le 1 (xs.length : Int) = E2 at *
        generalize D ++ allF (says.take k) = L at *
        have hs1 : ¬ 9223372036854775807 < E1.length + E2.length := by omega
        have hs2 : ¬ 9223372036854775807 < L.length + (E1.length + E2.length) := by omega
        have hL1 : (L ++ (E1 ++ E2)).length ≤ 1010 := by simp only [List.length_append]; omega
        have HGA : ∀ b o, Below wo.heap.size wo b → Below wo.heap.size wo (b.alloc o) := fun _ o h => h.alloc h.size o
        have HGD : ∀ b, Below wo.heap.size wo b → Below wo.heap.size wo b.drew := fun _ h => ⟨h.os, h.tape, h.output, h.size, h.block⟩
        have HGR : Below wo.heap.size wo wo := Below.refl _ _
        have HHA : Hid _ := har
        clear hl1 hl2 HST har
        go_upto_region 5 with fail
        go_cut [3] from 31 to 48 (fun sv z => sv = strVal (L ++ (E1 ++ E2)) ∧ Below wo.heap.size wo z)
        case first =>
          go_region_held3 (fun yy => yy.cell? ⟨w.heap.size, 3, none⟩ = some (.slice (some ⟨b, off, none⟩) says.length cs) ∧ yy.cell? ⟨b, off + k * 2, none⟩ = some (.int .i64 xp) ∧ yy.cell? ⟨b, off + k * 2 + 1, none⟩ = some (.slice af xs.length cf) ∧ Below wo.heap.size wo yy) (go_keep) (first
            | (go_at_call 22; with_reducible refine Calls.mono (HB1.out _ ?_) ?_; (simp [*]); rintro e w8 ⟨rfl, hb2, hz1, hz2, hz3⟩)
            | (go_at_call 22; with_reducible refine Calls.mono (HB2.out _ ?_) ?_; (simp [*]); rintro e w9 ⟨rfl, hb3, hz4, hz5, hz6⟩))
          all_goals first
            | (go_wp2_with fail; go_meet; exact ⟨by rw [app_list, app_list], hb3⟩)
            | (go_wp2_with fail; go_meet; exact ⟨by rw [app_list, app_list], hb2⟩)
        case rest =>
          obtain ⟨rfl, hbc⟩ := hcut
          clear a0 a1 c3 hs1 hs2 HB1 HB2 HGA HGD HGR
          obtain ⟨c3, a0, a1⟩ := HCC.out _ hbc
          generalize L ++ (E1 ++ E2) = M at *
          go_wp2_with fail
          go_loopw [3, 5] (fun sv jv wr => ∃ j : Nat, j ≤ xs.length ∧ jv = .int .i64 j ∧ sv = strVal (M ++ ((xs.take j).map (Wr.le 4)).flatten) ∧ Below wo.heap.size wo wr) (fun _ jv _ => xs.length - (intOf jv).toNat)
          case atStart => exact ⟨0, Nat.zero_le _, rfl, by simp, hbc⟩
          case round =>
            clear a0 a1 c3
            have hx3 : xs.length ≤ 3 := HHA.out.2.2
            obtain ⟨j, hj, rfl, rfl, hbq⟩ := hrel
            obtain ⟨c3, a0, a1⟩ := HCC.out _ hbq
            have HSA : Hid (j < xs.length → ((xs.take (j + 1)).map (Wr.le 4)).flatten = ((xs.take j).map (Wr.le 4)).flatten ++ Wr.le 4 (Sc.intD xs j)) := args_flat_snoc xs j
            have HEA : Hid (¬ j < xs.length → ((xs.take j).map (Wr.le 4)).flatten = (xs.map (Wr.le 4)).flatten) := fun h => by rw [List.take_of_length_le (by omega)]
            by_cases hjl : j < xs.length
            · obtain ⟨b3, off3, rfl, p3⟩ := ints_at HIA.out j hjl
              have a3 := cell_below (HBW.out.trans (hbq.mono HBW.out.size)) p3
              have hnum := HAN.out _ (intD_mem xs j hjl)
              have HST : Hid (M ++ ((xs.take (j + 1)).map (Wr.le 4)).flatten = (M ++ ((xs.take j).map (Wr.le 4)).flatten) ++ Wr.le 4 (Sc.intD xs j)) := by show _ = _; rw [HSA.out hjl, List.append_assoc]
              have hml : (M ++ ((xs.take j).map (Wr.le 4)).flatten).length ≤ 1100 := by have := HHA.out; rw [List.length_append, args_flat_len, List.length_take]; omega
              have hl4 := le_len 4 (Sc.intD xs j)
              clear HSA HEA p3
              generalize Sc.intD xs j = y at *
              have HB : Hid (Calls Try.prog 22 #[.int .i64 y, .int .i64 4] wr fun e w' => e = .returned (strVal (Wr.le 4 y)) ∧ Below wr.heap.size wr w') := (Bytes_any y 4 wr (by omega) (by omega) (by omega)).mono fun _ _ h => ⟨h.1, h.2.below⟩
              generalize Wr.le 4 y = E4 at *
              generalize M ++ ((xs.take j).map (Wr.le 4)).flatten = N at *
              have hs1 : ¬ 9223372036854775807 < N.length + E4.length := by omega
              clear hml hl4
              go_wp2_with fail
              refine Calls.mono HB.out ?_
              rintro e w8 ⟨rfl, hb8⟩
              clear c3 a0 a1 a3
              go_wp2_with fail
              go_roundw
              case rel => exact ⟨j + 1, hjl, by go_num, by rw [HST.out, app_list], hbq.trans (hb8.mono hbq.size)⟩
              case measure => (simp [intOf]; omega)
            · have HST : Hid (D ++ allF (says.take (k + 1)) = M ++ ((xs.take j).map (Wr.le 4)).flatten) := by show _ = _; rw [HN.out, HEA.out hjl]
              have hdd : decide (j < xs.length) = false := decide_eq_false hjl
              clear HSA HEA
              go_wp2_with fail
              go_roundw
              case rel => exact ⟨k + 1, hlt, by go_num, by rw [HST.out], hbw.trans (hbq.mono hbw.size)⟩
              case measure => (simp [intOf]; omega)
      · have HST : Hid (D ++ allF (says.take k) = D ++ allF says) := by show _ = _; rw [HE.out hlt]
        have hdd : decide (k < says.length) = false := decide_eq_false hlt
        have HB : Hid (Calls Try.prog 23 #[.slice at_ ts.length ct] wo fun e w' => e = .returned (strVal (Wr.encIds ts)) ∧ Below wo.heap.size wo w') := (idsBytes_any ts _ wo (idsV_below HTV.out HBW.out) (by omega) HTI.out)
        have hl4 := encIds_len ts
        clear HS HE
        generalize Wr.encIds ts = E4 at *
        generalize D ++ allF (says.take k) = N at *
        have hs1 : ¬ 9223372036854775807 < N.length + E4.length := by omega
        clear hl4
        go_wp2_with fail
        refine Calls.mono HB.out ?_
        rintro e w8 ⟨rfl, hb8⟩
        clear c0 c1 c2 c3 c4
        go_wp2_with fail
        go_ret
        exact ⟨by rw [HEN.out, ← HST.out]; exact congrArg (fun x => Ending.returned (Value.string x)) (app_list N E4), HBW.out.trans (hb8.mono HBW.out.size)⟩
end Go.Proofs.Ytjeaicahdnoonaa

/- The document's reader of numbers. -/
namespace Go.Proofs.Ytjeaicahdnoonaa
open Go.RowKit

abbrev tkBox (S : Wr.By) (at_ : Nat) (bad : Bool) : Obj := .cells #[strVal S, .int .i64 at_, .bool bad] 56
theorem Wr.take_next (L : Wr.By) (i : Nat) (h : i < L.length) : ((Wr.vl (L.take i) : Nat) : Int) + (L[i].toNat : Int) * ((256 ^ i : Nat) : Int) = ((Wr.vl (L.take (i + 1)) : Nat) : Int) := by
  have hl : (L.take i).length = i := by rw [List.length_take]; omega
  rw [List.take_succ_eq_append_getElem h, Wr.vl_snoc, hl, Int.natCast_add, Int.natCast_mul]

theorem w64 (n : Int) (h : -9223372036854775808 ≤ n ∧ n ≤ 9223372036854775807) : wrap64 n = n := by unfold wrap64; omega
theorem Wr.step64 (x c P : Nat) (hc : c < 256) (hcP : c * P ≤ 4278190080) (hx : x ≤ 16777216) : wrap64 ((x : Int) + wrap64 (wrap64 (c : Int) * (P : Int))) = (x : Int) + (c : Int) * (P : Int) := by
  rw [w64 (c : Int) (by omega)]
  have e2 : (c : Int) * (P : Int) = ((c * P : Nat) : Int) := (Int.natCast_mul c P).symm
  rw [e2]
  generalize c * P = Y at *
  rw [w64 (Y : Int) (by omega), w64 _ (by omega)]

set_option maxRecDepth 100000 in
set_option maxHeartbeats 1000000 in
theorem Take_any (b : Nat) (S : Wr.By) (at_ : Nat) (bad : Bool) (m : Nat) (w : World) (hb : w.heap[b]? = some (tkBox S at_ bad)) (hm : m ≤ 4) (hat : at_ ≤ S.length) (hS : S.length ≤ 9223372036854775807) :
    Calls Try.prog 24 #[ptrTo b, .int .i64 m] w fun e w' => ∃ (x at2 : Nat) (bad2 : Bool), e = .returned (.int .i64 (Wr.sgn x)) ∧ x < 256 ^ m ∧ Wr.Step (Wr.num m) (S.drop at_, bad) x (S.drop at2, bad2) ∧ at2 ≤ S.length ∧ w'.heap[b]? = some (tkBox S at2 bad2) ∧ w.grownBy w' (some b) := by
  have c0 : w.cell? ⟨b, 0, none⟩ = some (strVal S) := by rw [Lib.cell_of_heap hb]; rfl
  have c1 : w.cell? ⟨b, 1, none⟩ = some (.int .i64 at_) := by rw [Lib.cell_of_heap hb]; rfl
  have c2 : w.cell? ⟨b, 2, none⟩ = some (.bool bad) := by rw [Lib.cell_of_heap hb]; rfl
  have f2 : w.frozen? ⟨b, 2, none⟩ = false := Lib.frozen_of_heap hb 2
  have HB : Hid (w.heap[b]? = some (tkBox S at_ bad)) := hb
  have hsub : IntKind.i64.wrap ((S.length : Int) - (at_ : Int)) = ((S.length - at_ : Nat) : Int) := by rw [IntKind.wrap_i64]; omega
  clear hb
  have HBAD : Hid (bad = true ∨ S.length - at_ < m → (∃ (x at2 : Nat) (bad2 : Bool), (Ending.returned (.int .i64 0)) = .returned (.int .i64 (Wr.sgn x)) ∧ x < 256 ^ m ∧ Wr.Step (Wr.num m) (S.drop at_, bad) x (S.drop at2, bad2) ∧ at2 ≤ S.length ∧ (w.drew.setCell ⟨b, 2, none⟩ (.bool true)).heap[b]? = some (tkBox S at2 bad2) ∧ w.grownBy (w.drew.setCell ⟨b, 2, none⟩ (.bool true)) (some b))) := by
    intro h
    refine ⟨0, at_, true, rfl, Nat.pow_pos (by decide), ?_, hat, ?_, grown_drew (grown_set2 w.drew ⟨b, 2, none⟩ _)⟩
    · rcases h with h | h
      · exact Wr.Step.bad h rfl
      · exact Wr.Step.none (Wr.num_none m _ (by rw [List.length_drop]; exact h)) rfl
    · rw [Lib.heap_setCell_same (w := w.drew) HB.out]
      rfl
  cases bad with
  | true =>
    have HE : Hid _ := HBAD.out (.inl rfl)
    clear HBAD
    go_enter Try.func24, Try.ntmps24
    go_upto_region 1 with fail
    go_region
    go_wp2_with fail
    go_ret
    exact HE.out
  | false =>
    by_cases hlt : S.length - at_ < m
    · have d1 : decide (((S.length - at_ : Nat) : Int) < (m : Int)) = true := decide_eq_true (by omega)
      have d2 : decide (S.length - at_ < m) = true := decide_eq_true hlt
      have HE : Hid _ := HBAD.out (.inr hlt)
      clear HBAD
      go_enter Try.func24, Try.ntmps24
      go_upto_region 1 with fail
      go_region
      go_wp2_with fail
      go_ret
      exact HE.out
    · have d1 : decide (((S.length - at_ : Nat) : Int) < (m : Int)) = false := decide_eq_false (by omega)
      have d2 : decide (S.length - at_ < m) = false := decide_eq_false hlt
      clear HBAD
      go_enter Try.func24, Try.ntmps24
      go_upto_region 1 with fail
      go_region
      clear d1 d2 hsub c0 c1 c2 f2
      go_wp2_with fail
      go_loopw [5, 6, 7] (fun nv tv iv wr => ∃ i : Nat, i ≤ m ∧ iv = .int .i64 i ∧ nv = .int .i64 (Wr.vl ((S.drop at_).take i)) ∧ tv = .int .i64 (256 ^ i : Nat) ∧ Hid (wr.heap[b]? = some (tkBox S (at_ + i) false)) ∧ Hid (w.grownBy wr (some b))) (fun _ _ iv _ => m - (intOf iv).toNat)
      case atStart => exact ⟨0, Nat.zero_le _, rfl, rfl, rfl, HB.out, ⟨rfl, rfl, rfl, Nat.le_refl _, fun _ _ _ => rfl⟩⟩
      case round =>
        obtain ⟨i, hi, rfl, rfl, rfl, HB2, HG2⟩ := hrel
        obtain ⟨K, HK⟩ : ∃ K, Hid (K = at_ + i) := ⟨_, rfl⟩
        have HB3 : Hid (wr.heap[b]? = some (tkBox S K false)) := by show _ = _; rw [HK.out]; exact HB2.out
        clear HB2
        have c0 : wr.cell? ⟨b, 0, none⟩ = some (strVal S) := by rw [Lib.cell_of_heap HB3.out]; rfl
        have c1 : wr.cell? ⟨b, 1, none⟩ = some (.int .i64 K) := by rw [Lib.cell_of_heap HB3.out]; rfl
        have f1 : wr.frozen? ⟨b, 1, none⟩ = false := Lib.frozen_of_heap HB3.out 1
        have hx := Wr.vl_lt ((S.drop at_).take i)
        have hll : ((S.drop at_).take i).length = i := by rw [List.length_take, List.length_drop]; omega
        rw [hll] at hx
        clear hll
        by_cases hil : i < m
        · have hiD : i < (S.drop at_).length := by rw [List.length_drop]; omega
          have hKS : K < S.length := by rw [HK.out]; omega
          have hbl := S[K].toNat_lt
          have HT : Hid (((Wr.vl ((S.drop at_).take i) : Nat) : Int) + (S[K].toNat : Int) * ((256 ^ i : Nat) : Int) = ((Wr.vl ((S.drop at_).take (i + 1)) : Nat) : Int)) := by
            have h1 := Wr.take_next (S.drop at_) i hiD
            rw [List.getElem_drop] at h1
            have h2 := HK.out
            subst h2
            exact h1
          have hP : 256 ^ i ≤ 16777216 := by
            obtain rfl | rfl | rfl | rfl : i = 0 ∨ i = 1 ∨ i = 2 ∨ i = 3 := by omega
            all_goals decide
          have HP2 : Hid (((256 ^ i : Nat) : Int) * 256 = ((256 ^ (i + 1) : Nat) : Int)) := by show _ = _; rw [Nat.pow_succ, Int.natCast_mul]; rfl
          have HB4 : Hid (∀ z : World, z.heap[b]? = some (tkBox S K false) → (z.setCell ⟨b, 1, none⟩ (.int .i64 ((K : Int) + 1))).heap[b]? = some (tkBox S (at_ + (i + 1)) false)) := by
            intro z hz
            have h2 := HK.out
            subst h2
            rw [Lib.heap_setCell_same hz]
            rfl
          generalize Wr.vl ((S.drop at_).take i) = x at *
          generalize 256 ^ i = P at *
          generalize hcc : S[K].toNat = c at *
          have hcP : c * P ≤ 4278190080 := by
            have : c * P ≤ 255 * 16777216 := Nat.mul_le_mul (by omega) hP
            omega
          have HV : Hid (wrap64 ((x : Int) + wrap64 (wrap64 (S[K].toNat : Int) * (P : Int))) = ((Wr.vl ((S.drop at_).take (i + 1)) : Nat) : Int)) := by
            show _ = _
            rw [hcc, ← HT.out]
            exact Wr.step64 x c P (by omega) hcP (by omega)
          have HG5 : Hid (w.grownBy (wr.drew.setCell ⟨b, 1, none⟩ (.int .i64 ((K : Int) + 1))) (some b)) := HG2.out.trans_row (grown_drew (grown_set2 wr.drew ⟨b, 1, none⟩ _))
          have HB5 : Hid _ := HB4.out wr.drew HB3.out
          have hP0 : P * 256 ≤ 4294967296 := by omega
          clear hiD hcc HT HB4 HB3 HG2
          go_upto_region 8 with fail
          go_region
          go_wp2_with fail
          go_roundw
          case rel => exact ⟨i + 1, hil, by go_num, congrArg (Value.int .i64) HV.out, by rw [← HP2.out], HB5.out, HG5.out⟩
          case measure => simp [intOf]; omega
        · obtain rfl : i = m := by omega
          have HN : Hid (Wr.Step (Wr.num i) (S.drop at_, false) (Wr.vl ((S.drop at_).take i)) (S.drop (at_ + i), false)) := by
            refine Wr.Step.some ?_ rfl
            show Wr.num i (S.drop at_) = some (_, S.drop (at_ + i))
            rw [Wr.num_vl i (S.drop at_) (by rw [List.length_drop]; omega), List.drop_drop]
          have hdd : decide (i < i) = false := by simp
          have hx4 : Wr.vl ((S.drop at_).take i) < 4294967296 := by
            refine Nat.lt_of_lt_of_le hx ?_
            exact Nat.pow_le_pow_right (by decide) hm
          have HX : Hid (Wr.vl ((S.drop at_).take i) < 256 ^ i) := hx
          have HB4 : Hid (wr.heap[b]? = some (tkBox S (at_ + i) false)) := by rw [← HK.out]; exact HB3.out
          have HAT : Hid (at_ + i ≤ S.length) := by show _ ≤ _; omega
          clear hx HB3 c0 c1 f1
          generalize Wr.vl ((S.drop at_).take i) = x at *
          by_cases hbig : 2147483647 < x
          · have g1 : decide (2147483647 < x) = true := decide_eq_true hbig
            have g2 : decide ((2147483647 : Int) < (x : Int)) = true := decide_eq_true (by omega)
            have HS : Hid (Wr.sgn x = (x : Int) - 4294967296) := by show _ = _; unfold Wr.sgn; rw [if_pos hbig]
            go_wp2_with fail
            go_ret
            exact ⟨x, at_ + i, false, by rw [HS.out]; rfl, HX.out, HN.out, HAT.out, HB4.out, HG2.out⟩
          · have g1 : decide (2147483647 < x) = false := decide_eq_false hbig
            have g2 : decide ((2147483647 : Int) < (x : Int)) = false := decide_eq_false (by omega)
            have HS : Hid (Wr.sgn x = (x : Int)) := by show _ = _; unfold Wr.sgn; rw [if_neg hbig]
            go_wp2_with fail
            go_ret
            exact ⟨x, at_ + i, false, by rw [HS.out]; rfl, HX.out, HN.out, HAT.out, HB4.out, HG2.out⟩
end Go.Proofs.Ytjeaicahdnoonaa

/- The document's reader of lists of ids. -/
namespace Go.Proofs.Ytjeaicahdnoonaa
open Go.RowKit

theorem grown_ty {w w' : World} {b k : Nat} {a x : Array Value} {t T : TypeId} {fz f : Nat × Nat} (h : w.grownBy w' (some b)) (hb : w.heap[b]? = some (.cells x T f)) (hk : w.heap[k]? = some (.cells a t fz)) (ht : t ≠ T) : w'.heap[k]? = some (.cells a t fz) := by
  rw [h.block k (Array.getElem?_eq_some_iff.1 hk).1 (fun e => ?_)]
  · exact hk
  · cases e
    rw [hb] at hk
    injection hk with hk
    injection hk with _ hk _
    exact ht hk.symm
theorem sgn_small (x : Nat) (h : x < 65536) : Wr.sgn x = (x : Int) := by unfold Wr.sgn; rw [if_neg (by omega)]

set_option maxRecDepth 100000 in
set_option maxHeartbeats 1000000 in
theorem takeIds_any (b : Nat) (S : Wr.By) (at_ : Nat) (bad : Bool) (w : World) (hb : w.heap[b]? = some (tkBox S at_ bad)) (hat : at_ ≤ S.length) (hS : S.length ≤ 9223372036854775807) :
    Calls Try.prog 25 #[ptrTo b] w fun e w' => ∃ (l : List Wr.Id) (v : Value) (at2 : Nat) (bad2 : Bool), e = .returned v ∧ w'.ownsRow w.heap.size 23 2 v l.length (l.map idCells).flatten ∧ l.length ≤ 255 ∧ Wr.Step (Wr.listP Wr.idP) (S.drop at_, bad) l (S.drop at2, bad2) ∧ at2 ≤ S.length ∧ w'.heap[b]? = some (tkBox S at2 bad2) ∧ w.grownBy w' (some b) := by
  obtain ⟨i0, hi, hz0, hz1, hz2⟩ := info_parts wr_info23
  have hbw : b < w.heap.size := (Array.getElem?_eq_some_iff.1 hb).1
  have HN : Hid (Calls Try.prog 24 #[ptrTo b, .int .i64 1] w _) := Take_any b S at_ bad 1 w hb (by omega) hat hS
  clear hb
  go_enter Try.func25, Try.ntmps25
  go_wp2_with fail
  refine Calls.mono HN.out ?_
  rintro e w1 ⟨n, at1, bad1, rfl, hn, hs1, hat1, hb1, hg1⟩
  have hn2 : n ≤ 255 := Nat.le_of_lt_succ hn
  rw [sgn_small n (by omega)]
  have HS1 : Hid (Wr.Step (Wr.num 1) (S.drop at_, bad) n (S.drop at1, bad1)) := hs1
  have HB1 : Hid (w1.heap[b]? = some (tkBox S at1 bad1)) := hb1
  have HG1 : Hid (w.grownBy w1 (some b)) := hg1
  have HA1 : Hid (at1 ≤ S.length) := hat1
  clear HN hs1 hb1 hg1 hn hat1 hat
  go_wp2_with fail
  go_loopw [3, 5, 6, 7] (fun vs iv _ _ wr => ∃ (k : Nat) (l : List Wr.Id) (at2 : Nat) (bad2 : Bool), k ≤ n ∧ iv = .int .i64 k ∧ wr.ownsRow w.heap.size 23 2 vs l.length (l.map idCells).flatten ∧ Hid (l.length = k) ∧ Hid (Wr.Step (Wr.rep Wr.idP k) (S.drop at1, bad1) l (S.drop at2, bad2)) ∧ Hid (at2 ≤ S.length) ∧ Hid (wr.heap[b]? = some (tkBox S at2 bad2)) ∧ Hid (w.grownBy wr (some b))) (fun _ iv _ _ _ => n - (intOf iv).toNat)
  case atStart => exact ⟨0, [], at1, bad1, Nat.zero_le _, rfl, World.ownsRow_nil _ _ _ _, rfl, Wr.Step.zero _ _, HA1.out, HB1.out, HG1.out⟩
  case round =>
    obtain ⟨k, l, at2, bad2, hk, rfl, ho, HL, HS2, HA2, HB2, HG2⟩ := hrel
    obtain ⟨ao, cap, rfl⟩ := own_slice ho
    have c2 : wr.cell? ⟨b, 2, none⟩ = some (.bool bad2) := by rw [Lib.cell_of_heap HB2.out]; rfl
    have hll : l.length ≤ 255 := by have := HL.out; omega
    by_cases hlt : k < n
    · have g1 : decide (k < n) = true := decide_eq_true hlt
      cases bad2 with
      | true =>
        have HS4 : Hid (Wr.Step (Wr.listP Wr.idP) (S.drop at_, bad) l (S.drop at2, true)) := Wr.Step.list HS1.out (Wr.Step.stop l HS2.out rfl hk)
        go_wp2_with fail
        go_ret
        exact ⟨l, _, at2, true, rfl, ho, hll, HS4.out, HA2.out, HB2.out, HG2.out⟩
      | false =>
        have HT1 : Hid (Calls Try.prog 24 #[ptrTo b, .int .i64 1] wr _) := Take_any b S at2 false 1 wr HB2.out (by omega) HA2.out hS
        go_wp2_with fail
        refine Calls.mono HT1.out ?_
        rintro e w3 ⟨xa, at3, bad3, rfl, hxa, hs3, hat3, hb3, hg3⟩
        have hxa2 : xa < 256 := hxa
        rw [sgn_small xa (by omega)]
        have HT2 : Hid (Calls Try.prog 24 #[ptrTo b, .int .i64 2] w3 _) := Take_any b S at3 bad3 2 w3 hb3 (by omega) hat3 hS
        have HS3 : Hid (Wr.Step (Wr.num 1) (S.drop at2, false) xa (S.drop at3, bad3)) := hs3
        have HG3 : Hid (wr.grownBy w3 (some b)) := hg3
        clear HT1 hs3 hb3 hg3 hxa hat3 c2
        go_wp2_with fail
        refine Calls.mono HT2.out ?_
        rintro e w5 ⟨xn, at5, bad5, rfl, hxn, hs5, hat5, hb5, hg5⟩
        have hxn2 : xn < 65536 := hxn
        rw [sgn_small xn (by omega)]
        have hg6 := HG3.out.trans_row hg5
        have ho5 := ho.kept hg6 (.inr (fun e => by have := (ho.lt b e).1; omega))
        have HS5 : Hid (Wr.Step (Wr.rep Wr.idP (k + 1)) (S.drop at1, bad1) (l ++ [(⟨xa, xn⟩ : Wr.Id)]) (S.drop at5, bad5)) := Wr.Step.snoc HS2.out (Wr.Step.id HS3.out hs5)
        have HB5 : Hid (w5.heap[b]? = some (tkBox S at5 bad5)) := hb5
        have HG5 : Hid (w.grownBy w5 (some b)) := HG2.out.trans_row hg6
        have HA5 : Hid (at5 ≤ S.length) := hat5
        have hsz := HG5.out.size
        clear HT2 ho hs5 hb5 hg5 hg6 HS2 HB2 HG2 hxn hat5 HG3 HS3
        go_wp2_with (at_builtin; refine wpList_append_own _ rfl _ _ 24 rfl w.heap.size 23 i0 _ 2 16 Try.underlying24 hi hz0 hz1 hz2 rfl (by decide) _ _ _ rfl (ho5.alloc _) ⟨w5.heap.size, 0, none⟩ 1 1 ([(⟨xa, xn⟩ : Wr.Id)].map idCells).flatten rfl rfl ?c1 ?c2 ?c3 ?c4 ?c5 ?_)
        case c2 => intro u hu; simp at hu; rcases hu with rfl | rfl <;> rfl
        case c3 => unfold maxLen; omega
        case c4 => omega
        case c5 => simp; omega
        · exact news2 w5 _ _ 23
        intro vs2 w4 hown4 hgrow4 _
        obtain ⟨ao9, cap9, rfl⟩ := own_slice hown4
        have HO4 : Hid (w4.ownsRow w.heap.size 23 2 (.slice ao9 (l.length + 1) cap9) (l ++ [(⟨xa, xn⟩ : Wr.Id)]).length ((l ++ [(⟨xa, xn⟩ : Wr.Id)]).map idCells).flatten) := by
          show World.ownsRow _ _ _ _ _ _ _
          rw [List.length_append, List.map_append, List.flatten_append]
          exact hown4
        have HG4 : Hid (w.grownBy w4 (some b)) := grown_own (grown_own HG5.out (grown_alloc w5 _ _) ho5) hgrow4 (ho5.alloc _)
        have HB4 : Hid (w4.heap[b]? = some (tkBox S at5 bad5)) := by
          show _ = _
          rw [hgrow4.block b (by simp; omega) (fun e => by have := (ho5.lt b e.symm).1; omega), Lib.alloc_old w5 _ b (by omega)]
          exact HB5.out
        clear hown4 hgrow4 ho5 HG5 HB5
        go_wp2_with fail
        go_roundw
        case rel => exact ⟨k + 1, _, at5, bad5, hlt, by go_num, HO4.out, by rw [List.length_append, HL.out]; rfl, HS5.out, HA5.out, HB4.out, HG4.out⟩
        case measure => simp [intOf]; omega
    · obtain rfl : k = n := by omega
      have HS4 : Hid (Wr.Step (Wr.listP Wr.idP) (S.drop at_, bad) l (S.drop at2, bad2)) := Wr.Step.list HS1.out HS2.out
      have g1 : decide (k < k) = false := by simp
      go_wp2_with fail
      go_ret
      exact ⟨l, _, at2, bad2, rfl, ho, hll, HS4.out, HA2.out, HB2.out, HG2.out⟩
end Go.Proofs.Ytjeaicahdnoonaa

/- The document's decoding. -/
namespace Go.Proofs.Ytjeaicahdnoonaa
open Go.RowKit

/-- Blocks below N, but b, stand. -/
structure Lo (N b : Nat) (z z' : World) : Prop where
  os : z'.os = z.os
  tape : z'.tape = z.tape
  output : z'.output = z.output
  size : z.heap.size ≤ z'.heap.size
  blk : ∀ k, k < N → k ≠ b → z'.heap[k]? = z.heap[k]?
section
variable {N b : Nat} {y z z' : World}
theorem Lo.refl (N b : Nat) (z : World) : Lo N b z z := ⟨rfl, rfl, rfl, Nat.le_refl _, fun _ _ _ => rfl⟩
theorem Lo.trans (h : Lo N b y z) (k : Lo N b z z') : Lo N b y z' := ⟨k.os.trans h.os, k.tape.trans h.tape, k.output.trans h.output, Nat.le_trans h.size k.size, fun i hi hn => (k.blk i hi hn).trans (h.blk i hi hn)⟩
theorem Lo.grown (hg : z.grownBy z' (some b)) (hN : N ≤ z.heap.size) : Lo N b z z' := ⟨hg.os, hg.tape, hg.output, hg.size, fun k hk hn => hg.block k (by omega) (fun e => hn (by injection e))⟩
theorem Lo.set (a : Addr) (v : Value) (ha : N ≤ a.block) : Lo N b z (z.setCell a v) := ⟨rfl, rfl, rfl, by simp [World.setCell], fun k hk _ => heap_setCell_other z a k v (by omega)⟩
theorem Lo.alloc (o : Obj) (hN : N ≤ z.heap.size) : Lo N b z (z.alloc o) := ⟨rfl, rfl, rfl, by simp, fun k hk _ => Lib.alloc_old z o k (by omega)⟩
theorem Lo.own {B e c n : Nat} {v : Value} {xs : List Value} (hg : z.grownBy z' v.ownBlock) (ho : z.ownsRow B e c v n xs) (hB : N ≤ B) (hN : N ≤ z.heap.size) : Lo N b z z' := ⟨hg.os, hg.tape, hg.output, hg.size, fun k hk _ => hg.block k (by omega) (fun e => by have := (ho.lt k e.symm).1; omega)⟩
theorem Lo.below {w : World} (h : Lo N b z z') (hw : Below w.heap.size w z) (hN : w.heap.size ≤ N) (hb : w.heap.size ≤ b) : Below w.heap.size w z' := ⟨h.os.trans hw.os, h.tape.trans hw.tape, h.output.trans hw.output, Nat.le_trans hw.size h.size, fun k hk => (h.blk k (by omega) (by omega)).trans (hw.block k hk)⟩
theorem own_lo {B e c n : Nat} {v : Value} {xs : List Value} (ho : z.ownsRow B e c v n xs) (h : Lo N b z z') (hN : z.heap.size ≤ N) (hb : b < B) : z'.ownsRow B e c v n xs := by
  obtain ⟨h1, h2⟩ := ho
  refine ⟨h1, ?_⟩
  rcases h2 with h2 | ⟨g, cap, cur, hv, hg, hh, r⟩
  · exact .inl h2
  · exact .inr ⟨g, cap, cur, hv, hg, (h.blk g (by have := (Array.getElem?_eq_some_iff.1 hh).1; omega) (by omega)).trans hh, r⟩
theorem ArgsP.lo {B : Nat} {q : List Fv} (ho : ArgsP B z q) (h : Lo N b z z') (hN : z.heap.size ≤ N) (hb : b < B) : ArgsP B z' q := fun p hp => ⟨own_lo (ho p hp).1 h hN hb, (ho p hp).2⟩
end
/-- The boxes of the document's reader of an update. -/
structure D6 (z : World) (T b U B : Nat) (S : Wr.By) (at_ : Nat) (bad : Bool) (uc : Array Value) : Prop where
  t : z.heap[T]? = some (.cells zeroUp 27)
  u : z.heap[U]? = some (.cells uc 27)
  bx : z.heap[b]? = some (tkBox S at_ bad)
  le : at_ ≤ S.length
  low : T < B ∧ b < B ∧ U < B ∧ B ≤ z.heap.size
  ne : T ≠ U ∧ T ≠ b ∧ U ≠ b
section
variable {z z' : World} {T b U B at_ at2 N : Nat} {S : Wr.By} {bad bad2 : Bool} {uc : Array Value}
theorem D6.lo (h : D6 z T b U B S at_ bad uc) (hl : Lo N b z z') (hN : B ≤ N) (hb : z'.heap[b]? = some (tkBox S at2 bad2)) (ha : at2 ≤ S.length) : D6 z' T b U B S at2 bad2 uc :=
  ⟨(hl.blk T (by have := h.low; omega) h.ne.2.1).trans h.t, (hl.blk U (by have := h.low; omega) h.ne.2.2).trans h.u, hb, ha, ⟨h.low.1, h.low.2.1, h.low.2.2.1, Nat.le_trans h.low.2.2.2 hl.size⟩, h.ne⟩
theorem D6.set (h : D6 z T b U B S at_ bad uc) (i : Nat) (v : Value) : D6 (z.setCell ⟨U, i, none⟩ v) T b U B S at_ bad (uc.setIfInBounds i v) :=
  ⟨(heap_setCell_other z ⟨U, i, none⟩ T v h.ne.1).trans h.t, Lib.heap_setCell_same h.u v, (heap_setCell_other z ⟨U, i, none⟩ b v (fun e => h.ne.2.2 e.symm)).trans h.bx, h.le, ⟨h.low.1, h.low.2.1, h.low.2.2.1, Nat.le_trans h.low.2.2.2 (by simp [World.setCell])⟩, h.ne⟩
end
theorem own_setU {z : World} {B e c n U o : Nat} {v u : Value} {xs : List Value} (h : z.ownsRow B e c v n xs) (hU : U < B) : (z.setCell ⟨U, o, none⟩ u).ownsRow B e c v n xs := by
  obtain ⟨h1, h2⟩ := h
  refine ⟨h1, ?_⟩
  rcases h2 with h2 | ⟨g, cap, cur, hv, hg, hh, r⟩
  · exact .inl h2
  · exact .inr ⟨g, cap, cur, hv, hg, (heap_setCell_other z ⟨U, o, none⟩ g u (show g ≠ U by omega)).trans hh, r⟩
theorem ArgsP.setU {z : World} {B U o : Nat} {u : Value} {q : List Fv} (h : ArgsP B z q) (hU : U < B) : ArgsP B (z.setCell ⟨U, o, none⟩ u) q := fun p hp => ⟨own_setU (h p hp).1 hU, (h p hp).2⟩

set_option maxRecDepth 100000 in
set_option maxHeartbeats 2000000 in
theorem DecodeOf_any (S : Wr.By) (w : World) (hS : S.length ≤ 9223372036854775807) :
    Calls Try.prog 9 #[strVal S] w fun e w' => ∃ vp vs vt, e = .returned (.tuple #[upVal (Wr.decU S) vp vs vt, .int .i64 (Wr.decE S)]) ∧ UpV w' (Wr.decU S) vp vs vt ∧ Below w.heap.size w w' := by
  have D0 : Hid (D6 (((w.alloc (.cells zeroUp 27)).alloc (tkBox S 0 false)).alloc (.cells zeroUp 27)) w.heap.size (w.heap.size + 1) (w.heap.size + 1 + 1) (w.heap.size + 3) S 0 false zeroUp) := by
    have e1 : (w.alloc (.cells zeroUp 27)).heap.size = w.heap.size + 1 := by simp
    have e2 : ((w.alloc (.cells zeroUp 27)).alloc (tkBox S 0 false)).heap.size = w.heap.size + 1 + 1 := by simp
    have hT := heap_alloc_new w (.cells zeroUp 27)
    have hb := heap_alloc_new (w.alloc (.cells zeroUp 27)) (tkBox S 0 false)
    have hU := heap_alloc_new ((w.alloc (.cells zeroUp 27)).alloc (tkBox S 0 false)) (.cells zeroUp 27)
    refine ⟨?_, ?_, ?_, Nat.zero_le _, ⟨by omega, by omega, by omega, by simp⟩, ⟨by omega, by omega, by omega⟩⟩
    · rw [Lib.alloc_old _ _ _ (by rw [e2]; omega), Lib.alloc_old _ _ _ (by rw [e1]; omega)]
      exact hT
    · rw [← e2]
      exact hU
    · rw [Lib.alloc_old _ _ _ (by rw [e2]; omega), ← e1]
      exact hb
  have HW : Hid (Below w.heap.size w (((w.alloc (.cells zeroUp 27)).alloc (tkBox S 0 false)).alloc (.cells zeroUp 27))) := (below_two w _ _).alloc (by simp; omega) _
  obtain ⟨i0, hi, hz0, hz1, hz2⟩ := info_parts wr_info49
  obtain ⟨j0, hj, hy0, hy1, hy2⟩ := info_parts wr_info3
  go_enter Try.func9, Try.ntmps9
  go_upto_region 3 with fail
  generalize ((w.alloc (.cells zeroUp 27)).alloc (tkBox S 0 false)).alloc (.cells zeroUp 27) = w2 at *
  have H1 : Hid (Calls Try.prog 24 #[ptrTo (w.heap.size + 1), .int .i64 1] w2 _) := Take_any (w.heap.size + 1) S 0 false 1 w2 D0.out.bx (by omega) (Nat.zero_le _) hS
  go_wp2_with fail
  refine Calls.mono H1.out ?_
  rintro e w3 ⟨xa, at3, bad3, rfl, hxa, hs3, hat3, hb3, hg3⟩
  have hxa2 : xa < 256 := hxa
  rw [sgn_small xa (by omega)]
  have D3 : Hid _ := D0.out.lo (Lo.grown hg3 D0.out.low.2.2.2) (Nat.le_refl _) hb3 hat3
  have HW3 : Hid (Below w.heap.size w w3) := below_grown HW.out hg3 (by omega) HW.out.size
  have HS3 : Hid (Wr.Step (Wr.num 1) (S.drop 0, false) xa (S.drop at3, bad3)) := hs3
  have H4 : Hid (Calls Try.prog 24 #[ptrTo (w.heap.size + 1), .int .i64 2] w3 _) := Take_any (w.heap.size + 1) S at3 bad3 2 w3 hb3 (by omega) hat3 hS
  clear H1 hs3 hb3 hg3 hxa hat3 D0 HW
  go_wp2_with fail
  refine Calls.mono H4.out ?_
  rintro e w4 ⟨xn, at4, bad4, rfl, hxn, hs4, hat4, hb4, hg4⟩
  have hxn2 : xn < 65536 := hxn
  rw [sgn_small xn (by omega)]
  have D4 : Hid _ := D3.out.lo (Lo.grown hg4 D3.out.low.2.2.2) (Nat.le_refl _) hb4 hat4
  have HW4 : Hid (Below w.heap.size w w4) := below_grown HW3.out hg4 (by omega) HW3.out.size
  have HS4 : Hid (Wr.Step Wr.idP (S.drop 0, false) ⟨xa, xn⟩ (S.drop at4, bad4)) := Wr.Step.id HS3.out hs4
  clear H4 hs4 hb4 hg4 hxn hat4 D3 HW3 HS3
  have u0 : w4.cell? ⟨w.heap.size + 1 + 1, 0, none⟩ = some (.int .i64 0) := by rw [Lib.cell_of_heap D4.out.u]; rfl
  have u1 : w4.cell? ⟨w.heap.size + 1 + 1, 1, none⟩ = some (.int .i64 0) := by rw [Lib.cell_of_heap D4.out.u]; rfl
  have f0 : w4.frozen? ⟨w.heap.size + 1 + 1, 0, none⟩ = false := Lib.frozen_of_heap D4.out.u 0
  have f1 : w4.frozen? ⟨w.heap.size + 1 + 1, 1, none⟩ = false := Lib.frozen_of_heap D4.out.u 1
  have D5 : Hid (D6 ((w4.setCell ⟨w.heap.size + 1 + 1, 0, none⟩ (.int .i64 xa)).setCell ⟨w.heap.size + 1 + 1, 1, none⟩ (.int .i64 xn)) w.heap.size (w.heap.size + 1) (w.heap.size + 1 + 1) (w.heap.size + 3) S at4 bad4 #[.int .i64 xa, .int .i64 xn, .slice none 0 0, .slice none 0 0, .slice none 0 0]) := (D4.out.set 0 _).set 1 _
  have HW5 : Hid (Below w.heap.size w ((w4.setCell ⟨w.heap.size + 1 + 1, 0, none⟩ (.int .i64 xa)).setCell ⟨w.heap.size + 1 + 1, 1, none⟩ (.int .i64 xn))) := (HW4.out.setCell (by show _ ≤ w.heap.size + 1 + 1; omega) _).setCell (by show _ ≤ w.heap.size + 1 + 1; omega) _
  go_upto_region 6 with fail
  clear u0 u1 f0 f1 D4 HW4
  generalize (w4.setCell ⟨w.heap.size + 1 + 1, 0, none⟩ (.int .i64 xa)).setCell ⟨w.heap.size + 1 + 1, 1, none⟩ (.int .i64 xn) = w5 at *
  have H6 : Hid _ := takeIds_any (w.heap.size + 1) S at4 bad4 w5 D5.out.bx D5.out.le hS
  go_wp2_with fail
  refine Calls.mono H6.out ?_
  rintro e w6 ⟨ps, vp, at6, bad6, rfl, ho6, hl6, hs6, hat6, hb6, hg6⟩
  obtain ⟨ap, cp, rfl⟩ := own_slice ho6
  have D6a : Hid _ := D5.out.lo (Lo.grown hg6 D5.out.low.2.2.2) (Nat.le_refl _) hb6 hat6
  have HW6 : Hid (Below w.heap.size w w6) := below_grown HW5.out hg6 (by omega) HW5.out.size
  have HS6 : Hid (Wr.Step (Wr.listP Wr.idP) (S.drop at4, bad4) ps (S.drop at6, bad6)) := hs6
  have HL6 : Hid (ps.length ≤ 255) := hl6
  have HP7 : Hid ((w6.setCell ⟨w.heap.size + 1 + 1, 2, none⟩ (.slice ap ps.length cp)).ownsRow (w.heap.size + 3) 23 2 (.slice ap ps.length cp) ps.length (ps.map idCells).flatten) := own_setU (rl_own_le ho6 D5.out.low.2.2.2) (by omega)
  have D7 : Hid (D6 (w6.setCell ⟨w.heap.size + 1 + 1, 2, none⟩ (.slice ap ps.length cp)) w.heap.size (w.heap.size + 1) (w.heap.size + 1 + 1) (w.heap.size + 3) S at6 bad6 #[.int .i64 xa, .int .i64 xn, .slice ap ps.length cp, .slice none 0 0, .slice none 0 0]) := D6a.out.set 2 _
  have HW7 : Hid (Below w.heap.size w (w6.setCell ⟨w.heap.size + 1 + 1, 2, none⟩ (.slice ap ps.length cp))) := HW6.out.setCell (by show _ ≤ w.heap.size + 1 + 1; omega) _
  have u2 : w6.cell? ⟨w.heap.size + 1 + 1, 2, none⟩ = some (.slice none 0 0) := by rw [Lib.cell_of_heap D6a.out.u]; rfl
  have f2 : w6.frozen? ⟨w.heap.size + 1 + 1, 2, none⟩ = false := Lib.frozen_of_heap D6a.out.u 2
  clear H6 ho6 hl6 hs6 hat6 hb6 hg6 D5 HW5
  go_upto_region 7 with fail
  clear u2 f2 D6a HW6
  generalize w6.setCell ⟨w.heap.size + 1 + 1, 2, none⟩ (.slice ap ps.length cp) = w7 at *
  have H8 : Hid (Calls Try.prog 24 #[ptrTo (w.heap.size + 1), .int .i64 1] w7 _) := Take_any (w.heap.size + 1) S at6 bad6 1 w7 D7.out.bx (by omega) D7.out.le hS
  go_wp2_with fail
  refine Calls.mono H8.out ?_
  rintro e w8 ⟨n, at8, bad8, rfl, hn, hs8, hat8, hb8, hg8⟩
  have hn2 : n ≤ 255 := Nat.le_of_lt_succ hn
  rw [sgn_small n (by omega)]
  have L8 : Lo w7.heap.size (w.heap.size + 1) w7 w8 := Lo.grown hg8 (Nat.le_refl _)
  have D8 : Hid (D6 w8 w.heap.size (w.heap.size + 1) (w.heap.size + 1 + 1) (w.heap.size + 3) S at8 bad8 #[.int .i64 xa, .int .i64 xn, .slice ap ps.length cp, .slice none 0 0, .slice none 0 0]) := D7.out.lo L8 D7.out.low.2.2.2 hb8 hat8
  have HP8 : Hid _ := own_lo HP7.out L8 (Nat.le_refl _) D7.out.low.2.1
  have HW8 : Hid (Below w.heap.size w w8) := below_grown HW7.out hg8 (by omega) HW7.out.size
  have HS8 : Hid (Wr.Step (Wr.num 1) (S.drop at6, bad6) n (S.drop at8, bad8)) := hs8
  clear H8 hs8 hat8 hb8 hg8 hn D7 HW7 HP7 L8
  go_wp2_with fail
  go_loopw [9, 10, 11, 12, 13] (fun iv _ _ _ _ wr => ∃ (k : Nat) (q : List Fv) (as_ : Option Addr) (cs at2 : Nat) (bad2 : Bool), k ≤ n ∧ iv = .int .i64 k ∧ Hid (q.length = k) ∧ Hid (D6 wr w.heap.size (w.heap.size + 1) (w.heap.size + 1 + 1) (w.heap.size + 3) S at2 bad2 #[.int .i64 xa, .int .i64 xn, .slice ap ps.length cp, .slice as_ q.length cs, .slice none 0 0]) ∧ Hid (wr.ownsRow (w.heap.size + 3) 23 2 (.slice ap ps.length cp) ps.length (ps.map idCells).flatten) ∧ Hid (wr.ownsRow (w.heap.size + 3) 49 2 (.slice as_ q.length cs) q.length (q.map fcCells).flatten) ∧ Hid (ArgsP (w.heap.size + 3) wr q) ∧ Hid (Wr.Step (Wr.rep Wr.factP k) (S.drop at8, bad8) (q.map (·.1)) (S.drop at2, bad2)) ∧ Hid (Below w.heap.size w wr)) (fun iv _ _ _ _ _ => n - (intOf iv).toNat)
  case atStart => exact ⟨0, [], none, 0, at8, bad8, Nat.zero_le _, rfl, rfl, D8.out, HP8.out, World.ownsRow_nil _ _ _ _, (fun p hp => absurd hp (by simp)), Wr.Step.zero _ _, HW8.out⟩
  case round =>
    obtain ⟨wo, hwo⟩ : ∃ wo, wo = wr := ⟨_, rfl⟩
    subst hwo
    obtain ⟨k, q, as_, cs, at2, bad2, hk, rfl, HL, HD, HP, HF, HQ, HS, HWO⟩ := hrel
    clear D8 HP8 HW8
    have c2 : wo.cell? ⟨w.heap.size + 1, 2, none⟩ = some (.bool bad2) := by rw [Lib.cell_of_heap HD.out.bx]; rfl
    have hq255 : q.length ≤ 255 := by have := HL.out; omega
    by_cases hlt : k < n
    · have g1 : decide (k < n) = true := decide_eq_true hlt
      cases bad2 with
      | true =>
        have HSX : Hid (Wr.Step (Wr.listP Wr.factP) (S.drop at6, bad6) (q.map (·.1)) (S.drop at2, true)) := Wr.Step.list HS8.out (Wr.Step.stop _ HS.out rfl hk)
        have H20 : Hid _ := takeIds_any (w.heap.size + 1) S at2 true wo HD.out.bx HD.out.le hS
        go_wp2_with fail
        refine Calls.mono H20.out ?_
        rintro e w9 ⟨ts, vt, at9, bad9, rfl, ho9, hl9, hs9, hat9, hb9, hg9⟩
        obtain ⟨at_, ct, rfl⟩ := own_slice ho9
        have L9 : Lo wo.heap.size (w.heap.size + 1) wo w9 := Lo.grown hg9 (Nat.le_refl _)
        have D9 := HD.out.lo L9 HD.out.low.2.2.2 hb9 hat9
        have hlB := HD.out.low.2.1
        have HP4 : Hid ((w9.setCell ⟨w.heap.size + 1 + 1, 4, none⟩ (.slice at_ ts.length ct)).ownsRow (w.heap.size + 3) 23 2 (.slice ap ps.length cp) ps.length (ps.map idCells).flatten) := own_setU (own_lo HP.out L9 (Nat.le_refl _) hlB) (by omega)
        have HS4b : Hid ((w9.setCell ⟨w.heap.size + 1 + 1, 4, none⟩ (.slice at_ ts.length ct)).ownsRow (w.heap.size + 3) 49 2 (.slice as_ q.length cs) q.length (q.map fcCells).flatten) := own_setU (own_lo HF.out L9 (Nat.le_refl _) hlB) (by omega)
        have HA4 : Hid (ArgsP (w.heap.size + 3) (w9.setCell ⟨w.heap.size + 1 + 1, 4, none⟩ (.slice at_ ts.length ct)) q) := (HQ.out.lo L9 (Nat.le_refl _) hlB).setU (by omega)
        have HQ4 : Hid ((w9.setCell ⟨w.heap.size + 1 + 1, 4, none⟩ (.slice at_ ts.length ct)).ownsRow (w.heap.size + 3) 23 2 (.slice at_ ts.length ct) ts.length (ts.map idCells).flatten) := own_setU (rl_own_le ho9 HD.out.low.2.2.2) (by omega)
        have D10 : Hid (D6 (w9.setCell ⟨w.heap.size + 1 + 1, 4, none⟩ (.slice at_ ts.length ct)) w.heap.size (w.heap.size + 1) (w.heap.size + 1 + 1) (w.heap.size + 3) S at9 bad9 #[.int .i64 xa, .int .i64 xn, .slice ap ps.length cp, .slice as_ q.length cs, .slice at_ ts.length ct]) := D9.set 4 _
        have HB4 : Hid (Below w.heap.size w (w9.setCell ⟨w.heap.size + 1 + 1, 4, none⟩ (.slice at_ ts.length ct))) := (L9.below HWO.out HWO.out.size (by omega)).setCell (by show _ ≤ w.heap.size + 1 + 1; omega) _
        have HST : Hid (Wr.Step Wr.upP (S, false) ⟨⟨xa, xn⟩, ps, q.map (·.1), ts⟩ (S.drop at9, bad9)) := Wr.Step.up HS4.out HS6.out HSX.out hs9
        have HLA : Hid (ps.length ≤ 255 ∧ q.length ≤ 255 ∧ ts.length ≤ 255) := ⟨HL6.out, hq255, hl9⟩
        have HT4 : Hid ((w9.setCell ⟨w.heap.size + 1 + 1, 4, none⟩ (.slice at_ ts.length ct)).heap[w.heap.size]? = some (.cells zeroUp 27)) := D10.out.t
        have u4 : w9.cell? ⟨w.heap.size + 1 + 1, 4, none⟩ = some (.slice none 0 0) := by rw [Lib.cell_of_heap D9.u]; rfl
        have e4 : w9.frozen? ⟨w.heap.size + 1 + 1, 4, none⟩ = false := Lib.frozen_of_heap D9.u 4
        have h9S : at9 ≤ S.length := hat9
        clear H20 ho9 hl9 hs9 hat9 hb9 hg9 L9 D9 c2
        go_upto_region 21 with fail
        clear u4 e4
        generalize w9.setCell ⟨w.heap.size + 1 + 1, 4, none⟩ (.slice at_ ts.length ct) = w10 at *
        have r1 : w10.cell? ⟨w.heap.size + 1, 1, none⟩ = some (.int .i64 at9) := by rw [Lib.cell_of_heap D10.out.bx]; rfl
        have r2 : w10.cell? ⟨w.heap.size + 1, 2, none⟩ = some (.bool bad9) := by rw [Lib.cell_of_heap D10.out.bx]; rfl
        have t0 : w10.cell? ⟨w.heap.size, 0, none⟩ = some (.int .i64 0) := by rw [Lib.cell_of_heap HT4.out]; rfl
        have f0 : w10.frozen? ⟨w.heap.size, 0, none⟩ = false := Lib.frozen_of_heap HT4.out 0
        have t1 : w10.cell? ⟨w.heap.size, 1, none⟩ = some (.int .i64 0) := by rw [Lib.cell_of_heap HT4.out]; rfl
        have f1 : w10.frozen? ⟨w.heap.size, 1, none⟩ = false := Lib.frozen_of_heap HT4.out 1
        have t2 : w10.cell? ⟨w.heap.size, 2, none⟩ = some (.slice none 0 0) := by rw [Lib.cell_of_heap HT4.out]; rfl
        have f2 : w10.frozen? ⟨w.heap.size, 2, none⟩ = false := Lib.frozen_of_heap HT4.out 2
        have t3 : w10.cell? ⟨w.heap.size, 3, none⟩ = some (.slice none 0 0) := by rw [Lib.cell_of_heap HT4.out]; rfl
        have f3 : w10.frozen? ⟨w.heap.size, 3, none⟩ = false := Lib.frozen_of_heap HT4.out 3
        have t4 : w10.cell? ⟨w.heap.size, 4, none⟩ = some (.slice none 0 0) := by rw [Lib.cell_of_heap HT4.out]; rfl
        have f4 : w10.frozen? ⟨w.heap.size, 4, none⟩ = false := Lib.frozen_of_heap HT4.out 4
        cases bad9 with
        | true =>
          have HUD : Hid _ := Wr.decU_none (Wr.dec_bad HST.out rfl)
          have HE : Hid _ := five_set HT4.out (.int .i64 0) (.int .i64 0) (.slice none 0 0) (.slice none 0 0) (.slice none 0 0)
          have HBF : Hid (Below w.heap.size w (five w10 w.heap.size (.int .i64 0) (.int .i64 0) (.slice none 0 0) (.slice none 0 0) (.slice none 0 0))) := five_below HB4.out
          go_wp2_with fail
          clear t0 t1 t2 t3 t4 f0 f1 f2 f3 f4
          obtain ⟨k1, k2, _, _⟩ := HE.out
          change bodyPost _ _ _ _ _ (five _ _ _ _ _ _ _)
          clear HE
          generalize five w10 w.heap.size (.int .i64 0) (.int .i64 0) (.slice none 0 0) (.slice none 0 0) (.slice none 0 0) = w11 at *
          have t0 : w11.cell? ⟨w.heap.size, 0, none⟩ = some (.int .i64 0) := by rw [Lib.cell_of_heap k1]; rfl
          have t1 : w11.cell? ⟨w.heap.size, 1, none⟩ = some (.int .i64 0) := by rw [Lib.cell_of_heap k1]; rfl
          have t2 : w11.cell? ⟨w.heap.size, 2, none⟩ = some (.slice none 0 0) := by rw [Lib.cell_of_heap k1]; rfl
          have t3 : w11.cell? ⟨w.heap.size, 3, none⟩ = some (.slice none 0 0) := by rw [Lib.cell_of_heap k1]; rfl
          have t4 : w11.cell? ⟨w.heap.size, 4, none⟩ = some (.slice none 0 0) := by rw [Lib.cell_of_heap k1]; rfl
          exact bodyPost_ret (v := .tuple #[.agg #[(.int .i64 0), (.int .i64 0), (.slice none 0 0), (.slice none 0 0), (.slice none 0 0)], .int .i64 1]) (by simp [results, Try.results9, go_sem, t0, t1, t2, t3, t4]) rfl ⟨_, _, _, by rw [HUD.out.1, HUD.out.2]; rfl, by rw [HUD.out.1]; exact UpV.no _, HBF.out⟩
        | false =>
          by_cases h9 : at9 < S.length
          · have g9 : decide (at9 < S.length) = true := decide_eq_true h9
            have HUD : Hid _ := Wr.decU_none (Wr.dec_more HST.out rfl (by intro h; have := congrArg List.length h; simp at this; omega))
            have HE : Hid _ := five_set HT4.out (.int .i64 0) (.int .i64 0) (.slice none 0 0) (.slice none 0 0) (.slice none 0 0)
            have HBF : Hid (Below w.heap.size w (five w10 w.heap.size (.int .i64 0) (.int .i64 0) (.slice none 0 0) (.slice none 0 0) (.slice none 0 0))) := five_below HB4.out
            go_wp2_with fail
            clear t0 t1 t2 t3 t4 f0 f1 f2 f3 f4
            obtain ⟨k1, k2, _, _⟩ := HE.out
            change bodyPost _ _ _ _ _ (five _ _ _ _ _ _ _)
            clear HE
            generalize five w10 w.heap.size (.int .i64 0) (.int .i64 0) (.slice none 0 0) (.slice none 0 0) (.slice none 0 0) = w11 at *
            have t0 : w11.cell? ⟨w.heap.size, 0, none⟩ = some (.int .i64 0) := by rw [Lib.cell_of_heap k1]; rfl
            have t1 : w11.cell? ⟨w.heap.size, 1, none⟩ = some (.int .i64 0) := by rw [Lib.cell_of_heap k1]; rfl
            have t2 : w11.cell? ⟨w.heap.size, 2, none⟩ = some (.slice none 0 0) := by rw [Lib.cell_of_heap k1]; rfl
            have t3 : w11.cell? ⟨w.heap.size, 3, none⟩ = some (.slice none 0 0) := by rw [Lib.cell_of_heap k1]; rfl
            have t4 : w11.cell? ⟨w.heap.size, 4, none⟩ = some (.slice none 0 0) := by rw [Lib.cell_of_heap k1]; rfl
            exact bodyPost_ret (v := .tuple #[.agg #[(.int .i64 0), (.int .i64 0), (.slice none 0 0), (.slice none 0 0), (.slice none 0 0)], .int .i64 1]) (by simp [results, Try.results9, go_sem, t0, t1, t2, t3, t4]) rfl ⟨_, _, _, by rw [HUD.out.1, HUD.out.2]; rfl, by rw [HUD.out.1]; exact UpV.no _, HBF.out⟩
          · have g9 : decide (at9 < S.length) = false := decide_eq_false h9
            have HDD : Hid _ := Wr.dec_ok HST.out rfl (List.drop_of_length_le (by omega))
            have c0 : w10.cell? ⟨w.heap.size + 1 + 1, 0, none⟩ = some (.int .i64 xa) := by rw [Lib.cell_of_heap D10.out.u]; rfl
            have c1 : w10.cell? ⟨w.heap.size + 1 + 1, 1, none⟩ = some (.int .i64 xn) := by rw [Lib.cell_of_heap D10.out.u]; rfl
            have c2 : w10.cell? ⟨w.heap.size + 1 + 1, 2, none⟩ = some (.slice ap ps.length cp) := by rw [Lib.cell_of_heap D10.out.u]; rfl
            have c3 : w10.cell? ⟨w.heap.size + 1 + 1, 3, none⟩ = some (.slice as_ q.length cs) := by rw [Lib.cell_of_heap D10.out.u]; rfl
            have c4 : w10.cell? ⟨w.heap.size + 1 + 1, 4, none⟩ = some (.slice at_ ts.length ct) := by rw [Lib.cell_of_heap D10.out.u]; rfl
            have HFF : Hid (∀ f, f ∈ q.map (·.1) → FFit f) := by
              intro f hf
              obtain ⟨p, hp, rfl⟩ := List.mem_map.mp hf
              exact Nat.le_trans (HA4.out p hp).2 (by decide)
            have hcl : q.length = (q.map (·.1)).length := by rw [List.length_map]
            have HCK : Hid (Calls Try.prog 7 #[.agg #[.int .i64 xa, .int .i64 xn, .slice ap ps.length cp, .slice as_ q.length cs, .slice at_ ts.length ct]] w10 fun e w' => e = .returned (.int .i64 (Wr.check ⟨⟨xa, xn⟩, ps, q.map (·.1), ts⟩)) ∧ Below w10.heap.size w10 w') :=
              CheckUpdate_any ⟨⟨xa, xn⟩, ps, q.map (fun p : Fv => p.1), ts⟩ _ (.slice as_ q.length cs) _ w10 (own_ids HP4.out) (own_fcs HS4b.out HA4.out) (own_ids HQ4.out) HFF.out (by have := HLA.out; dsimp only; rw [← hcl]; omega)
            clear hcl
            go_wp2_with fail
            refine Calls.mono HCK.out ?_
            rintro e w5 ⟨rfl, hb5⟩
            have HB5 : Hid (Below w.heap.size w w5) := HB4.out.trans (hb5.mono HB4.out.size)
            have HT5 : Hid (w5.heap[w.heap.size]? = some (.cells zeroUp 27)) := (hb5.block _ (Array.getElem?_eq_some_iff.1 HT4.out).1).trans HT4.out
            have HU5 : Hid (w5.heap[w.heap.size + 1 + 1]? = some (.cells #[.int .i64 xa, .int .i64 xn, .slice ap ps.length cp, .slice as_ q.length cs, .slice at_ ts.length ct] 27)) := (hb5.block _ (Array.getElem?_eq_some_iff.1 D10.out.u).1).trans D10.out.u
            have HP5 : Hid _ := ownsRow_below HP4.out hb5
            have HS5 : Hid _ := ownsRow_below HS4b.out hb5
            have HQ5 : Hid _ := ownsRow_below HQ4.out hb5
            have HA5 : Hid (ArgsP (w.heap.size + 3) w5 q) := fun p hp => ⟨ownsRow_below (HA4.out p hp).1 hb5, (HA4.out p hp).2⟩
            clear HCK c0 c1 c2 c3 c4 t0 t1 t2 t3 t4 f0 f1 f2 f3 f4 r1 r2 HB4 HT4 HP4 HS4b HQ4 HA4 hb5
            have HB4 := HB5
            have HT4 := HT5
            have t0 : w5.cell? ⟨w.heap.size, 0, none⟩ = some (.int .i64 0) := by rw [Lib.cell_of_heap HT4.out]; rfl
            have f0 : w5.frozen? ⟨w.heap.size, 0, none⟩ = false := Lib.frozen_of_heap HT4.out 0
            have t1 : w5.cell? ⟨w.heap.size, 1, none⟩ = some (.int .i64 0) := by rw [Lib.cell_of_heap HT4.out]; rfl
            have f1 : w5.frozen? ⟨w.heap.size, 1, none⟩ = false := Lib.frozen_of_heap HT4.out 1
            have t2 : w5.cell? ⟨w.heap.size, 2, none⟩ = some (.slice none 0 0) := by rw [Lib.cell_of_heap HT4.out]; rfl
            have f2 : w5.frozen? ⟨w.heap.size, 2, none⟩ = false := Lib.frozen_of_heap HT4.out 2
            have t3 : w5.cell? ⟨w.heap.size, 3, none⟩ = some (.slice none 0 0) := by rw [Lib.cell_of_heap HT4.out]; rfl
            have f3 : w5.frozen? ⟨w.heap.size, 3, none⟩ = false := Lib.frozen_of_heap HT4.out 3
            have t4 : w5.cell? ⟨w.heap.size, 4, none⟩ = some (.slice none 0 0) := by rw [Lib.cell_of_heap HT4.out]; rfl
            have f4 : w5.frozen? ⟨w.heap.size, 4, none⟩ = false := Lib.frozen_of_heap HT4.out 4
            by_cases hc : Wr.check ⟨⟨xa, xn⟩, ps, q.map (·.1), ts⟩ = 0
            · have HUD : Hid _ := Wr.decU_ok HDD.out hc
              have c0 : w5.cell? ⟨w.heap.size + 1 + 1, 0, none⟩ = some (.int .i64 xa) := by rw [Lib.cell_of_heap HU5.out]; rfl
              have c1 : w5.cell? ⟨w.heap.size + 1 + 1, 1, none⟩ = some (.int .i64 xn) := by rw [Lib.cell_of_heap HU5.out]; rfl
              have c2 : w5.cell? ⟨w.heap.size + 1 + 1, 2, none⟩ = some (.slice ap ps.length cp) := by rw [Lib.cell_of_heap HU5.out]; rfl
              have c3 : w5.cell? ⟨w.heap.size + 1 + 1, 3, none⟩ = some (.slice as_ q.length cs) := by rw [Lib.cell_of_heap HU5.out]; rfl
              have c4 : w5.cell? ⟨w.heap.size + 1 + 1, 4, none⟩ = some (.slice at_ ts.length ct) := by rw [Lib.cell_of_heap HU5.out]; rfl
              rw [hc]
              clear hc
              have HE : Hid _ := five_set HT4.out (.int .i64 xa) (.int .i64 xn) (.slice ap ps.length cp) (.slice as_ q.length cs) (.slice at_ ts.length ct)
              have HBF : Hid (Below w.heap.size w (five w5 w.heap.size (.int .i64 xa) (.int .i64 xn) (.slice ap ps.length cp) (.slice as_ q.length cs) (.slice at_ ts.length ct))) := five_below HB4.out
              go_wp2_with fail
              clear t0 t1 t2 t3 t4 f0 f1 f2 f3 f4
              obtain ⟨k1, k2, _, _⟩ := HE.out
              have hP := own_ids (k2.own HP5.out (by decide) (by decide))
              have hS := own_fcs (k2.own HS5.out (by decide) (by decide)) (k2.args HA5.out)
              have hQ := own_ids (k2.own HQ5.out (by decide) (by decide))
              have hq : (q.map (·.1)).length = q.length := List.length_map ..
              clear k2
              change bodyPost _ _ _ _ _ (five _ _ _ _ _ _ _)
              clear HE
              generalize five w5 w.heap.size (.int .i64 xa) (.int .i64 xn) (.slice ap ps.length cp) (.slice as_ q.length cs) (.slice at_ ts.length ct) = w11 at *
              have t0 : w11.cell? ⟨w.heap.size, 0, none⟩ = some (.int .i64 xa) := by rw [Lib.cell_of_heap k1]; rfl
              have t1 : w11.cell? ⟨w.heap.size, 1, none⟩ = some (.int .i64 xn) := by rw [Lib.cell_of_heap k1]; rfl
              have t2 : w11.cell? ⟨w.heap.size, 2, none⟩ = some (.slice ap ps.length cp) := by rw [Lib.cell_of_heap k1]; rfl
              have t3 : w11.cell? ⟨w.heap.size, 3, none⟩ = some (.slice as_ q.length cs) := by rw [Lib.cell_of_heap k1]; rfl
              have t4 : w11.cell? ⟨w.heap.size, 4, none⟩ = some (.slice at_ ts.length ct) := by rw [Lib.cell_of_heap k1]; rfl
              exact bodyPost_ret (v := .tuple #[.agg #[(.int .i64 xa), (.int .i64 xn), (.slice ap ps.length cp), (.slice as_ q.length cs), (.slice at_ ts.length ct)], .int .i64 0]) (by simp [results, Try.results9, go_sem, t0, t1, t2, t3, t4]) rfl ⟨_, _, _, by rw [HUD.out.1, HUD.out.2], by rw [HUD.out.1]; exact ⟨hP, hS, hQ, HFF.out, by have := HLA.out; dsimp only; rw [hq]; exact this⟩, HBF.out⟩
            · have HUD : Hid _ := Wr.decU_bad HDD.out hc
              have hne : (Wr.check ⟨⟨xa, xn⟩, ps, q.map (·.1), ts⟩ != 0) = true := by simpa using hc
              generalize Wr.check ⟨⟨xa, xn⟩, ps, q.map (·.1), ts⟩ = ck at *
              have HE : Hid _ := five_set HT4.out (.int .i64 0) (.int .i64 0) (.slice none 0 0) (.slice none 0 0) (.slice none 0 0)
              have HBF : Hid (Below w.heap.size w (five w5 w.heap.size (.int .i64 0) (.int .i64 0) (.slice none 0 0) (.slice none 0 0) (.slice none 0 0))) := five_below HB4.out
              go_wp2_with fail
              clear t0 t1 t2 t3 t4 f0 f1 f2 f3 f4
              obtain ⟨k1, k2, _, _⟩ := HE.out
              change bodyPost _ _ _ _ _ (five _ _ _ _ _ _ _)
              clear HE
              generalize five w5 w.heap.size (.int .i64 0) (.int .i64 0) (.slice none 0 0) (.slice none 0 0) (.slice none 0 0) = w11 at *
              have t0 : w11.cell? ⟨w.heap.size, 0, none⟩ = some (.int .i64 0) := by rw [Lib.cell_of_heap k1]; rfl
              have t1 : w11.cell? ⟨w.heap.size, 1, none⟩ = some (.int .i64 0) := by rw [Lib.cell_of_heap k1]; rfl
              have t2 : w11.cell? ⟨w.heap.size, 2, none⟩ = some (.slice none 0 0) := by rw [Lib.cell_of_heap k1]; rfl
              have t3 : w11.cell? ⟨w.heap.size, 3, none⟩ = some (.slice none 0 0) := by rw [Lib.cell_of_heap k1]; rfl
              have t4 : w11.cell? ⟨w.heap.size, 4, none⟩ = some (.slice none 0 0) := by rw [Lib.cell_of_heap k1]; rfl
              exact bodyPost_ret (v := .tuple #[.agg #[(.int .i64 0), (.int .i64 0), (.slice none 0 0), (.slice none 0 0), (.slice none 0 0)], .int .i64 ck]) (by simp [results, Try.results9, go_sem, t0, t1, t2, t3, t4]) rfl ⟨_, _, _, by rw [HUD.out.1, HUD.out.2]; rfl, by rw [HUD.out.1]; exact UpV.no _, HBF.out⟩
      | false =>
        have HT1 : Hid (Calls Try.prog 24 #[ptrTo (w.heap.size + 1), .int .i64 1] (wo.alloc (.cells #[.int .i64 0, .slice none 0 0] 49)) _) := Take_any (w.heap.size + 1) S at2 false 1 _ ((Lib.alloc_old wo _ _ (Array.getElem?_eq_some_iff.1 HD.out.bx).1).trans HD.out.bx) (by omega) HD.out.le hS
        have HF1 : Hid ((wo.alloc (.cells #[.int .i64 0, .slice none 0 0] 49)).heap[wo.heap.size]? = some (.cells #[.int .i64 0, .slice none 0 0] 49)) := heap_alloc_new wo _
        have HB1 : Hid ((wo.alloc (.cells #[.int .i64 0, .slice none 0 0] 49)).heap[w.heap.size + 1]? = some (tkBox S at2 false)) := (Lib.alloc_old wo _ _ (Array.getElem?_eq_some_iff.1 HD.out.bx).1).trans HD.out.bx
        have HL1 : Hid (Lo wo.heap.size (w.heap.size + 1) wo (wo.alloc (.cells #[.int .i64 0, .slice none 0 0] 49))) := Lo.alloc _ (Nat.le_refl _)
        have HZ1 : Hid (wo.heap.size + 1 ≤ (wo.alloc (.cells #[.int .i64 0, .slice none 0 0] 49)).heap.size) := by show _ ≤ _; simp
        go_upto_region 12 with fail
        clear c2
        generalize wo.alloc (.cells #[.int .i64 0, .slice none 0 0] 49) = z1 at *
        obtain ⟨F, HFE⟩ : ∃ F, Hid (F = wo.heap.size) := ⟨_, rfl⟩
        rw [← HFE.out]
        rw [← HFE.out] at HF1 HL1 HZ1
        go_wp2_with fail
        refine Calls.mono HT1.out ?_
        rintro e z2 ⟨xp, at3, bad3, rfl, hxp, hs3, hat3, hb3, hg3⟩
        have hxp2 : xp < 256 := hxp
        rw [sgn_small xp (by omega)]
        have hF2 := grown_ty hg3 HB1.out HF1.out (by decide)
        have a0 : z2.cell? ⟨F, 0, none⟩ = some (.int .i64 0) := by rw [Lib.cell_of_heap hF2]; rfl
        have e0 : z2.frozen? ⟨F, 0, none⟩ = false := Lib.frozen_of_heap hF2 0
        have HF3 : Hid ((z2.setCell ⟨F, 0, none⟩ (.int .i64 xp)).heap[F]? = some (.cells #[.int .i64 xp, .slice none 0 0] 49)) := Lib.heap_setCell_same hF2 _
        have HB3 : Hid ((z2.setCell ⟨F, 0, none⟩ (.int .i64 xp)).heap[w.heap.size + 1]? = some (tkBox S at3 bad3)) := old_set hb3 hF2 (fun _ _ h => by injection h with _ h _; cases h) _
        have HL3 : Hid (Lo F (w.heap.size + 1) wo (z2.setCell ⟨F, 0, none⟩ (.int .i64 xp))) := (HL1.out.trans (Lo.grown hg3 (by have := HZ1.out; omega))).trans (Lo.set _ _ (Nat.le_refl _))
        have HZ3 : Hid (F + 1 ≤ (z2.setCell ⟨F, 0, none⟩ (.int .i64 xp)).heap.size) := by have h1 := HZ1.out; have h2 := hg3.size; show _ ≤ _; simp [World.setCell]; omega
        have HSp : Hid (Wr.Step (Wr.num 1) (S.drop at2, false) xp (S.drop at3, bad3)) := hs3
        have HT2 : Hid (Calls Try.prog 24 #[ptrTo (w.heap.size + 1), .int .i64 1] (z2.setCell ⟨F, 0, none⟩ (.int .i64 xp)) _) := Take_any (w.heap.size + 1) S at3 bad3 1 _ HB3.out (by omega) hat3 hS
        clear hs3 hb3 hg3 hat3 hxp hF2 HT1 HF1 HB1 HL1 HZ1
        go_upto_region 13 with fail
        clear a0 e0
        generalize z2.setCell ⟨F, 0, none⟩ (.int .i64 xp) = z3 at *
        go_wp2_with fail
        refine Calls.mono HT2.out ?_
        rintro e z4 ⟨n2, at4, bad4, rfl, hn4, hs4, hat4, hb4, hg4⟩
        have hn5 : n2 ≤ 255 := Nat.le_of_lt_succ hn4
        rw [sgn_small n2 (by omega)]
        have HF4 : Hid (z4.heap[F]? = some (.cells #[.int .i64 xp, .slice none 0 0] 49)) := grown_ty hg4 HB3.out HF3.out (by decide)
        have HB4 : Hid (z4.heap[w.heap.size + 1]? = some (tkBox S at4 bad4)) := hb4
        have HA4 : Hid (at4 ≤ S.length) := hat4
        have HL4 : Hid (Lo F (w.heap.size + 1) wo z4) := HL3.out.trans (Lo.grown hg4 (by have := HZ3.out; omega))
        have HZ4 : Hid (F + 1 ≤ z4.heap.size) := Nat.le_trans HZ3.out hg4.size
        have HSn : Hid (Wr.Step (Wr.num 1) (S.drop at3, bad3) n2 (S.drop at4, bad4)) := hs4
        clear hs4 hb4 hg4 hat4 hn4 HT2 HF3 HB3 HL3 HZ3
        go_wp2_with fail
        go_loopw [12, 13] (fun jv _ wr => ∃ (j : Nat) (l : List Int) (af : Option Addr) (cf at5 : Nat) (bad5 : Bool), j ≤ n2 ∧ jv = .int .i64 j ∧ Hid (l.length = j) ∧ Hid (wr.heap[F]? = some (.cells #[.int .i64 xp, .slice af l.length cf] 49)) ∧ Hid (wr.ownsRow (F + 1) 3 1 (.slice af l.length cf) l.length (l.map (Value.int .i64))) ∧ Hid (Wr.Step (Wr.rep Wr.argP j) (S.drop at4, bad4) l (S.drop at5, bad5)) ∧ Hid (at5 ≤ S.length) ∧ Hid (wr.heap[w.heap.size + 1]? = some (tkBox S at5 bad5)) ∧ Hid (Lo F (w.heap.size + 1) wo wr) ∧ Hid (F + 1 ≤ wr.heap.size)) (fun jv _ _ => n2 - (intOf jv).toNat)
        case atStart => exact ⟨0, [], none, 0, at4, bad4, Nat.zero_le _, rfl, rfl, HF4.out, World.ownsRow_nil _ _ _ _, Wr.Step.zero _ _, HA4.out, HB4.out, HL4.out, HZ4.out⟩
        case round =>
          obtain ⟨j, l, af, cf, at5, bad5, hj2, rfl, HLL, HFz, HOI, HSL, HAz, HBz, HLo, HZz⟩ := hrel
          clear HF4 HA4 HB4 HL4 HZ4
          have hlj : l.length = j := HLL.out
          have hll : l.length ≤ 255 := by omega
          have c2 : wr.cell? ⟨w.heap.size + 1, 2, none⟩ = some (.bool bad5) := by rw [Lib.cell_of_heap HBz.out]; rfl
          have hbF : w.heap.size + 1 < F := by rw [HFE.out]; have := HD.out.low; omega
          have hFS : F < wr.heap.size := by have := HZz.out; omega
          clear hlj
          by_cases hlt2 : j < n2
          · have g5 : decide (j < n2) = true := decide_eq_true hlt2
            cases bad5 with
            | true =>
              have HSL2 := HSL
              clear HSL
              have HSL : Hid (Wr.Step (Wr.rep Wr.argP n2) (S.drop at4, bad4) l (S.drop at5, true)) := Wr.Step.stop l HSL2.out rfl hj2
              clear HSL2
              rw [HFE.out] at HLo
              have HDz : Hid _ := HD.out.lo HLo.out HD.out.low.2.2.2 HBz.out HAz.out
              have HPz : Hid _ := own_lo HP.out HLo.out (Nat.le_refl _) HD.out.low.2.1
              have hFz := own_lo HF.out HLo.out (Nat.le_refl _) HD.out.low.2.1
              have HQz : Hid (ArgsP (w.heap.size + 3) wr (q ++ [((⟨xp, l⟩ : Rl.Fc), Value.slice af l.length cf)])) := by
                intro p hp
                rcases List.mem_append.mp hp with hp | hp
                · exact (HQ.out.lo HLo.out (Nat.le_refl _) HD.out.low.2.1) p hp
                · obtain rfl : p = ((⟨xp, l⟩ : Rl.Fc), Value.slice af l.length cf) := by simpa using hp
                  exact ⟨rl_own_le HOI.out (by have := HD.out.low.2.2.2; omega), hll⟩
              have HSF : Hid (Wr.Step (Wr.rep Wr.factP (k + 1)) (S.drop at8, bad8) ((q ++ [((⟨xp, l⟩ : Rl.Fc), Value.slice af l.length cf)]).map (·.1)) (S.drop at5, true)) := by
                have := Wr.Step.snoc HS.out (Wr.Step.fact HSp.out (Wr.Step.list HSn.out HSL.out))
                rw [List.map_append]
                exact this
              have HWz : Hid (Below w.heap.size w wr) := HLo.out.below HWO.out HWO.out.size (by omega)
              have hBz : (w.heap.size + 3) ≤ wr.heap.size := HDz.out.low.2.2.2
              have v3 : wr.cell? ⟨w.heap.size + 1 + 1, 3, none⟩ = some (.slice as_ q.length cs) := by rw [Lib.cell_of_heap HDz.out.u]; rfl
              have g3 : wr.frozen? ⟨w.heap.size + 1 + 1, 3, none⟩ = false := Lib.frozen_of_heap HDz.out.u 3
              have a0 : wr.cell? ⟨F, 0, none⟩ = some (.int .i64 xp) := by rw [Lib.cell_of_heap HFz.out]; rfl
              have a1 : wr.cell? ⟨F, 1, none⟩ = some (.slice af l.length cf) := by rw [Lib.cell_of_heap HFz.out]; rfl
              go_wp2_with (at_builtin; refine wpList_append_own _ rfl _ _ 25 rfl (w.heap.size + 3) 49 i0 _ 2 32 Try.underlying25 hi hz0 hz1 hz2 rfl (by decide) _ _ _ rfl (hFz.alloc _) ⟨wr.heap.size, 0, none⟩ 1 1 (fcCells (⟨xp, l⟩, .slice af l.length cf)) rfl rfl ?k1 ?k2 ?k3 ?k4 ?k5 ?_)
              case k2 => intro u hu; simp [fcCells] at hu; rcases hu with rfl | rfl <;> rfl
              case k3 => unfold maxLen; omega
              case k4 => omega
              case k5 => simp; omega
              · exact news2 wr _ _ 49
              intro vs2 w11 hown11 hgrow11 _
              obtain ⟨ao9, cap9, rfl⟩ := own_slice hown11
              have HO12 : Hid ((w11.setCell ⟨w.heap.size + 1 + 1, 3, none⟩ (.slice ao9 (q.length + 1) cap9)).ownsRow (w.heap.size + 3) 49 2 (.slice ao9 (q ++ [((⟨xp, l⟩ : Rl.Fc), Value.slice af l.length cf)]).length cap9) (q ++ [((⟨xp, l⟩ : Rl.Fc), Value.slice af l.length cf)]).length ((q ++ [((⟨xp, l⟩ : Rl.Fc), Value.slice af l.length cf)]).map fcCells).flatten) := by
                show World.ownsRow _ _ _ _ _ _ _
                refine own_setU ?_ (by omega)
                rw [List.length_append, List.map_append, List.flatten_append]
                simpa using hown11
              have LB : Lo (w.heap.size + 3) (w.heap.size + 1) wr w11 := (Lo.alloc _ hBz).trans (Lo.own hgrow11 (hFz.alloc _) (Nat.le_refl _) (by simp; omega))
              have hb11 : w11.heap[w.heap.size + 1]? = some (tkBox S at5 true) := by
                rw [hgrow11.block _ (by simp; omega) (fun e => by have := (hFz.lt _ e.symm).1; omega), Lib.alloc_old wr _ _ (by omega)]
                exact HDz.out.bx
              have D11 := HDz.out.lo LB (Nat.le_refl _) hb11 HDz.out.le
              have u3 : w11.cell? ⟨w.heap.size + 1 + 1, 3, none⟩ = some (.slice as_ q.length cs) := by rw [Lib.cell_of_heap D11.u]; rfl
              have e3 : w11.frozen? ⟨w.heap.size + 1 + 1, 3, none⟩ = false := Lib.frozen_of_heap D11.u 3
              have D12 : Hid (D6 (w11.setCell ⟨w.heap.size + 1 + 1, 3, none⟩ (.slice ao9 (q.length + 1) cap9)) w.heap.size (w.heap.size + 1) (w.heap.size + 1 + 1) (w.heap.size + 3) S at5 true #[.int .i64 xa, .int .i64 xn, .slice ap ps.length cp, .slice ao9 (q ++ [((⟨xp, l⟩ : Rl.Fc), Value.slice af l.length cf)]).length cap9, .slice none 0 0]) := by
                rw [List.length_append]
                exact D11.set 3 _
              have hty : ∀ (e : TypeId), e ≠ 49 → ∀ (j : Nat) (a : Array Value), wr.heap[j]? = some (.cells a e) → w11.heap[j]? = some (.cells a e) := by
                intro e he j a hj
                have hj2 := (Lib.alloc_old wr (.cells #[.int .i64 xp, .slice af l.length cf] 49) j (Array.getElem?_eq_some_iff.1 hj).1).trans hj
                rw [hgrow11.block j (by have := (Array.getElem?_eq_some_iff.1 hj).1; simp; omega) (fun h => he (own_ty hFz h.symm hj))]
                exact hj2
              have HP12 : Hid ((w11.setCell ⟨w.heap.size + 1 + 1, 3, none⟩ (.slice ao9 (q.length + 1) cap9)).ownsRow (w.heap.size + 3) 23 2 (.slice ap ps.length cp) ps.length (ps.map idCells).flatten) := own_setU (own_type HPz.out (hty 23 (by decide))) (by omega)
              have HQ12 : Hid (ArgsP (w.heap.size + 3) (w11.setCell ⟨w.heap.size + 1 + 1, 3, none⟩ (.slice ao9 (q.length + 1) cap9)) (q ++ [((⟨xp, l⟩ : Rl.Fc), Value.slice af l.length cf)])) := (HQz.out.type (hty 3 (by decide))).setU (by omega)
              have HW12 : Hid (Below w.heap.size w (w11.setCell ⟨w.heap.size + 1 + 1, 3, none⟩ (.slice ao9 (q.length + 1) cap9))) := (LB.below HWz.out (by omega) (by omega)).setCell (by show _ ≤ w.heap.size + 1 + 1; omega) _
              clear hown11 hgrow11 LB hb11 D11 hty hFz v3 g3 a0 a1
              go_wp2_with fail
              clear u3 e3
              go_roundw
              case rel => exact ⟨k + 1, _, ao9, cap9, at5, true, hlt, by go_num, by rw [List.length_append, HL.out]; rfl, D12.out, HP12.out, HO12.out, HQ12.out, HSF.out, HW12.out⟩
              case measure => (simp [intOf]; omega)
            | false =>
              have HT5 : Hid (Calls Try.prog 24 #[ptrTo (w.heap.size + 1), .int .i64 4] wr _) := Take_any (w.heap.size + 1) S at5 false 4 wr HBz.out (by omega) HAz.out hS
              go_wp2_with fail
              refine Calls.mono HT5.out ?_
              rintro e z6 ⟨x6, at6, bad6, rfl, hx6, hs6, hat6, hb6, hg6⟩
              have HS6 : Hid (Wr.Step (Wr.rep Wr.argP (j + 1)) (S.drop at4, bad4) (l ++ [Wr.sgn x6]) (S.drop at6, bad6)) := Wr.Step.snoc HSL.out (Wr.Step.arg hs6)
              generalize Wr.sgn x6 = y6 at *
              have HF6 : Hid (z6.heap[F]? = some (.cells #[.int .i64 xp, .slice af l.length cf] 49)) := grown_ty hg6 HBz.out HFz.out (by decide)
              have ho6 := HOI.out.kept hg6 (.inr (fun e => by have := (HOI.out.lt _ e).1; omega))
              have HL6 : Hid (Lo F (w.heap.size + 1) wo z6) := HLo.out.trans (Lo.grown hg6 (by omega))
              have hz6 : F + 1 ≤ z6.heap.size := Nat.le_trans HZz.out hg6.size
              have a1 : z6.cell? ⟨F, 1, none⟩ = some (.slice af l.length cf) := by rw [Lib.cell_of_heap HF6.out]; rfl
              clear hs6 hx6 HSL HFz HOI HAz HBz HLo HZz HT5 c2 hg6
              go_wp2_with (at_builtin; refine wpList_append_own _ rfl _ _ 47 rfl (F + 1) 3 j0 _ 1 8 Try.underlying47 hj hy0 hy1 hy2 rfl (by decide) _ _ _ rfl (ho6.alloc _) ⟨z6.heap.size, 0, none⟩ 1 1 ([y6].map (Value.int .i64)) rfl rfl ?c1 ?c2 ?c3 ?c4 ?c5 ?_)
              case c2 => intro u hu; simp at hu; subst hu; rfl
              case c3 => unfold maxLen; omega
              case c4 => omega
              case c5 => simp; omega
              · intro i u hi2
                match i, hi2 with
                | 0, hi2 => simp at hi2; subst hi2; simp [Addr.add]
              intro vs2 z8 hown8 hgrow8 _
              obtain ⟨ao9, cap9, rfl⟩ := own_slice hown8
              have hF8 : z8.heap[F]? = some (.cells #[.int .i64 xp, .slice af l.length cf] 49) := by
                rw [hgrow8.block F (by simp; omega) (fun e => by have := (ho6.lt _ e.symm).1; omega), Lib.alloc_old z6 _ _ (by omega)]
                exact HF6.out
              have hb8 : z8.heap[w.heap.size + 1]? = some (tkBox S at6 bad6) := by
                rw [hgrow8.block _ (by simp; omega) (fun e => by have := (ho6.lt _ e.symm).1; omega), Lib.alloc_old z6 _ _ (by omega)]
                exact hb6
              have b1 : z8.cell? ⟨F, 1, none⟩ = some (.slice af l.length cf) := by rw [Lib.cell_of_heap hF8]; rfl
              have e1 : z8.frozen? ⟨F, 1, none⟩ = false := Lib.frozen_of_heap hF8 1
              have HF9 : Hid ((z8.setCell ⟨F, 1, none⟩ (.slice ao9 (l.length + 1) cap9)).heap[F]? = some (.cells #[.int .i64 xp, .slice ao9 (l ++ [y6]).length cap9] 49)) := by
                show _ = _
                rw [List.length_append]
                exact Lib.heap_setCell_same hF8 _
              have HB9 : Hid ((z8.setCell ⟨F, 1, none⟩ (.slice ao9 (l.length + 1) cap9)).heap[w.heap.size + 1]? = some (tkBox S at6 bad6)) := old_set hb8 hF8 (fun _ _ h => by injection h with _ h _; cases h) _
              have HO9 : Hid ((z8.setCell ⟨F, 1, none⟩ (.slice ao9 (l.length + 1) cap9)).ownsRow (F + 1) 3 1 (.slice ao9 (l ++ [y6]).length cap9) (l ++ [y6]).length ((l ++ [y6]).map (Value.int .i64))) := by
                show World.ownsRow _ _ _ _ _ _ _
                refine own_setU ?_ (by omega)
                rw [List.length_append, List.map_append]
                exact hown8
              have HL9 : Hid (Lo F (w.heap.size + 1) wo (z8.setCell ⟨F, 1, none⟩ (.slice ao9 (l.length + 1) cap9))) := ((HL6.out.trans (Lo.alloc _ (by omega))).trans (Lo.own hgrow8 (ho6.alloc _) (by omega) (by simp; omega))).trans (Lo.set _ _ (Nat.le_refl _))
              have HZ9 : Hid (F + 1 ≤ (z8.setCell ⟨F, 1, none⟩ (.slice ao9 (l.length + 1) cap9)).heap.size) := by have h1 := hgrow8.size; show _ ≤ _; simp [World.setCell] at h1 ⊢; omega
              have HA6 : Hid (at6 ≤ S.length) := hat6
              clear hown8 hgrow8 ho6 hF8 hb8 HF6 HL6 hb6 hat6 a1 hz6
              go_wp2_with fail
              clear b1 e1
              go_roundw
              case rel => exact ⟨j + 1, l ++ [y6], ao9, cap9, at6, bad6, hlt2, by go_num, by rw [List.length_append, HLL.out]; rfl, HF9.out, HO9.out, HS6.out, HA6.out, HB9.out, HL9.out, HZ9.out⟩
              case measure => (simp [intOf]; omega)
          · obtain rfl : j = n2 := by omega
            have g5 : decide (j < j) = false := by simp
            rw [HFE.out] at HLo
            have HDz : Hid _ := HD.out.lo HLo.out HD.out.low.2.2.2 HBz.out HAz.out
            have HPz : Hid _ := own_lo HP.out HLo.out (Nat.le_refl _) HD.out.low.2.1
            have hFz := own_lo HF.out HLo.out (Nat.le_refl _) HD.out.low.2.1
            have HQz : Hid (ArgsP (w.heap.size + 3) wr (q ++ [((⟨xp, l⟩ : Rl.Fc), Value.slice af l.length cf)])) := by
              intro p hp
              rcases List.mem_append.mp hp with hp | hp
              · exact (HQ.out.lo HLo.out (Nat.le_refl _) HD.out.low.2.1) p hp
              · obtain rfl : p = ((⟨xp, l⟩ : Rl.Fc), Value.slice af l.length cf) := by simpa using hp
                exact ⟨rl_own_le HOI.out (by have := HD.out.low.2.2.2; omega), hll⟩
            have HSF : Hid (Wr.Step (Wr.rep Wr.factP (k + 1)) (S.drop at8, bad8) ((q ++ [((⟨xp, l⟩ : Rl.Fc), Value.slice af l.length cf)]).map (·.1)) (S.drop at5, bad5)) := by
              have := Wr.Step.snoc HS.out (Wr.Step.fact HSp.out (Wr.Step.list HSn.out HSL.out))
              rw [List.map_append]
              exact this
            have HWz : Hid (Below w.heap.size w wr) := HLo.out.below HWO.out HWO.out.size (by omega)
            have hBz : (w.heap.size + 3) ≤ wr.heap.size := HDz.out.low.2.2.2
            have v3 : wr.cell? ⟨w.heap.size + 1 + 1, 3, none⟩ = some (.slice as_ q.length cs) := by rw [Lib.cell_of_heap HDz.out.u]; rfl
            have g3 : wr.frozen? ⟨w.heap.size + 1 + 1, 3, none⟩ = false := Lib.frozen_of_heap HDz.out.u 3
            have a0 : wr.cell? ⟨F, 0, none⟩ = some (.int .i64 xp) := by rw [Lib.cell_of_heap HFz.out]; rfl
            have a1 : wr.cell? ⟨F, 1, none⟩ = some (.slice af l.length cf) := by rw [Lib.cell_of_heap HFz.out]; rfl
            go_wp2_with (at_builtin; refine wpList_append_own _ rfl _ _ 25 rfl (w.heap.size + 3) 49 i0 _ 2 32 Try.underlying25 hi hz0 hz1 hz2 rfl (by decide) _ _ _ rfl (hFz.alloc _) ⟨wr.heap.size, 0, none⟩ 1 1 (fcCells (⟨xp, l⟩, .slice af l.length cf)) rfl rfl ?m1 ?m2 ?m3 ?m4 ?m5 ?_)
            case m2 => intro u hu; simp [fcCells] at hu; rcases hu with rfl | rfl <;> rfl
            case m3 => unfold maxLen; omega
            case m4 => omega
            case m5 => simp; omega
            · exact news2 wr _ _ 49
            intro vs2 w11 hown11 hgrow11 _
            obtain ⟨ao9, cap9, rfl⟩ := own_slice hown11
            have HO12 : Hid ((w11.setCell ⟨w.heap.size + 1 + 1, 3, none⟩ (.slice ao9 (q.length + 1) cap9)).ownsRow (w.heap.size + 3) 49 2 (.slice ao9 (q ++ [((⟨xp, l⟩ : Rl.Fc), Value.slice af l.length cf)]).length cap9) (q ++ [((⟨xp, l⟩ : Rl.Fc), Value.slice af l.length cf)]).length ((q ++ [((⟨xp, l⟩ : Rl.Fc), Value.slice af l.length cf)]).map fcCells).flatten) := by
              show World.ownsRow _ _ _ _ _ _ _
              refine own_setU ?_ (by omega)
              rw [List.length_append, List.map_append, List.flatten_append]
              simpa using hown11
            have LB : Lo (w.heap.size + 3) (w.heap.size + 1) wr w11 := (Lo.alloc _ hBz).trans (Lo.own hgrow11 (hFz.alloc _) (Nat.le_refl _) (by simp; omega))
            have hb11 : w11.heap[w.heap.size + 1]? = some (tkBox S at5 bad5) := by
              rw [hgrow11.block _ (by simp; omega) (fun e => by have := (hFz.lt _ e.symm).1; omega), Lib.alloc_old wr _ _ (by omega)]
              exact HDz.out.bx
            have D11 := HDz.out.lo LB (Nat.le_refl _) hb11 HDz.out.le
            have u3 : w11.cell? ⟨w.heap.size + 1 + 1, 3, none⟩ = some (.slice as_ q.length cs) := by rw [Lib.cell_of_heap D11.u]; rfl
            have e3 : w11.frozen? ⟨w.heap.size + 1 + 1, 3, none⟩ = false := Lib.frozen_of_heap D11.u 3
            have D12 : Hid (D6 (w11.setCell ⟨w.heap.size + 1 + 1, 3, none⟩ (.slice ao9 (q.length + 1) cap9)) w.heap.size (w.heap.size + 1) (w.heap.size + 1 + 1) (w.heap.size + 3) S at5 bad5 #[.int .i64 xa, .int .i64 xn, .slice ap ps.length cp, .slice ao9 (q ++ [((⟨xp, l⟩ : Rl.Fc), Value.slice af l.length cf)]).length cap9, .slice none 0 0]) := by
              rw [List.length_append]
              exact D11.set 3 _
            have hty : ∀ (e : TypeId), e ≠ 49 → ∀ (j : Nat) (a : Array Value), wr.heap[j]? = some (.cells a e) → w11.heap[j]? = some (.cells a e) := by
              intro e he j a hj
              have hj2 := (Lib.alloc_old wr (.cells #[.int .i64 xp, .slice af l.length cf] 49) j (Array.getElem?_eq_some_iff.1 hj).1).trans hj
              rw [hgrow11.block j (by have := (Array.getElem?_eq_some_iff.1 hj).1; simp; omega) (fun h => he (own_ty hFz h.symm hj))]
              exact hj2
            have HP12 : Hid ((w11.setCell ⟨w.heap.size + 1 + 1, 3, none⟩ (.slice ao9 (q.length + 1) cap9)).ownsRow (w.heap.size + 3) 23 2 (.slice ap ps.length cp) ps.length (ps.map idCells).flatten) := own_setU (own_type HPz.out (hty 23 (by decide))) (by omega)
            have HQ12 : Hid (ArgsP (w.heap.size + 3) (w11.setCell ⟨w.heap.size + 1 + 1, 3, none⟩ (.slice ao9 (q.length + 1) cap9)) (q ++ [((⟨xp, l⟩ : Rl.Fc), Value.slice af l.length cf)])) := (HQz.out.type (hty 3 (by decide))).setU (by omega)
            have HW12 : Hid (Below w.heap.size w (w11.setCell ⟨w.heap.size + 1 + 1, 3, none⟩ (.slice ao9 (q.length + 1) cap9))) := (LB.below HWz.out (by omega) (by omega)).setCell (by show _ ≤ w.heap.size + 1 + 1; omega) _
            clear hown11 hgrow11 LB hb11 D11 hty hFz v3 g3 a0 a1
            go_wp2_with fail
            clear u3 e3
            go_roundw
            case rel => exact ⟨k + 1, _, ao9, cap9, at5, bad5, hlt, by go_num, by rw [List.length_append, HL.out]; rfl, D12.out, HP12.out, HO12.out, HQ12.out, HSF.out, HW12.out⟩
            case measure => (simp [intOf]; omega)
    · obtain rfl : k = n := by omega
      have g1 : decide (k < k) = false := by simp
      have HSX : Hid (Wr.Step (Wr.listP Wr.factP) (S.drop at6, bad6) (q.map (·.1)) (S.drop at2, bad2)) := Wr.Step.list HS8.out HS.out
      have H20 : Hid _ := takeIds_any (w.heap.size + 1) S at2 bad2 wo HD.out.bx HD.out.le hS
      go_wp2_with fail
      refine Calls.mono H20.out ?_
      rintro e w9 ⟨ts, vt, at9, bad9, rfl, ho9, hl9, hs9, hat9, hb9, hg9⟩
      obtain ⟨at_, ct, rfl⟩ := own_slice ho9
      have L9 : Lo wo.heap.size (w.heap.size + 1) wo w9 := Lo.grown hg9 (Nat.le_refl _)
      have D9 := HD.out.lo L9 HD.out.low.2.2.2 hb9 hat9
      have hlB := HD.out.low.2.1
      have HP4 : Hid ((w9.setCell ⟨w.heap.size + 1 + 1, 4, none⟩ (.slice at_ ts.length ct)).ownsRow (w.heap.size + 3) 23 2 (.slice ap ps.length cp) ps.length (ps.map idCells).flatten) := own_setU (own_lo HP.out L9 (Nat.le_refl _) hlB) (by omega)
      have HS4b : Hid ((w9.setCell ⟨w.heap.size + 1 + 1, 4, none⟩ (.slice at_ ts.length ct)).ownsRow (w.heap.size + 3) 49 2 (.slice as_ q.length cs) q.length (q.map fcCells).flatten) := own_setU (own_lo HF.out L9 (Nat.le_refl _) hlB) (by omega)
      have HA4 : Hid (ArgsP (w.heap.size + 3) (w9.setCell ⟨w.heap.size + 1 + 1, 4, none⟩ (.slice at_ ts.length ct)) q) := (HQ.out.lo L9 (Nat.le_refl _) hlB).setU (by omega)
      have HQ4 : Hid ((w9.setCell ⟨w.heap.size + 1 + 1, 4, none⟩ (.slice at_ ts.length ct)).ownsRow (w.heap.size + 3) 23 2 (.slice at_ ts.length ct) ts.length (ts.map idCells).flatten) := own_setU (rl_own_le ho9 HD.out.low.2.2.2) (by omega)
      have D10 : Hid (D6 (w9.setCell ⟨w.heap.size + 1 + 1, 4, none⟩ (.slice at_ ts.length ct)) w.heap.size (w.heap.size + 1) (w.heap.size + 1 + 1) (w.heap.size + 3) S at9 bad9 #[.int .i64 xa, .int .i64 xn, .slice ap ps.length cp, .slice as_ q.length cs, .slice at_ ts.length ct]) := D9.set 4 _
      have HB4 : Hid (Below w.heap.size w (w9.setCell ⟨w.heap.size + 1 + 1, 4, none⟩ (.slice at_ ts.length ct))) := (L9.below HWO.out HWO.out.size (by omega)).setCell (by show _ ≤ w.heap.size + 1 + 1; omega) _
      have HST : Hid (Wr.Step Wr.upP (S, false) ⟨⟨xa, xn⟩, ps, q.map (·.1), ts⟩ (S.drop at9, bad9)) := Wr.Step.up HS4.out HS6.out HSX.out hs9
      have HLA : Hid (ps.length ≤ 255 ∧ q.length ≤ 255 ∧ ts.length ≤ 255) := ⟨HL6.out, hq255, hl9⟩
      have HT4 : Hid ((w9.setCell ⟨w.heap.size + 1 + 1, 4, none⟩ (.slice at_ ts.length ct)).heap[w.heap.size]? = some (.cells zeroUp 27)) := D10.out.t
      have u4 : w9.cell? ⟨w.heap.size + 1 + 1, 4, none⟩ = some (.slice none 0 0) := by rw [Lib.cell_of_heap D9.u]; rfl
      have e4 : w9.frozen? ⟨w.heap.size + 1 + 1, 4, none⟩ = false := Lib.frozen_of_heap D9.u 4
      have h9S : at9 ≤ S.length := hat9
      clear H20 ho9 hl9 hs9 hat9 hb9 hg9 L9 D9 c2
      go_upto_region 21 with fail
      clear u4 e4
      generalize w9.setCell ⟨w.heap.size + 1 + 1, 4, none⟩ (.slice at_ ts.length ct) = w10 at *
      have r1 : w10.cell? ⟨w.heap.size + 1, 1, none⟩ = some (.int .i64 at9) := by rw [Lib.cell_of_heap D10.out.bx]; rfl
      have r2 : w10.cell? ⟨w.heap.size + 1, 2, none⟩ = some (.bool bad9) := by rw [Lib.cell_of_heap D10.out.bx]; rfl
      have t0 : w10.cell? ⟨w.heap.size, 0, none⟩ = some (.int .i64 0) := by rw [Lib.cell_of_heap HT4.out]; rfl
      have f0 : w10.frozen? ⟨w.heap.size, 0, none⟩ = false := Lib.frozen_of_heap HT4.out 0
      have t1 : w10.cell? ⟨w.heap.size, 1, none⟩ = some (.int .i64 0) := by rw [Lib.cell_of_heap HT4.out]; rfl
      have f1 : w10.frozen? ⟨w.heap.size, 1, none⟩ = false := Lib.frozen_of_heap HT4.out 1
      have t2 : w10.cell? ⟨w.heap.size, 2, none⟩ = some (.slice none 0 0) := by rw [Lib.cell_of_heap HT4.out]; rfl
      have f2 : w10.frozen? ⟨w.heap.size, 2, none⟩ = false := Lib.frozen_of_heap HT4.out 2
      have t3 : w10.cell? ⟨w.heap.size, 3, none⟩ = some (.slice none 0 0) := by rw [Lib.cell_of_heap HT4.out]; rfl
      have f3 : w10.frozen? ⟨w.heap.size, 3, none⟩ = false := Lib.frozen_of_heap HT4.out 3
      have t4 : w10.cell? ⟨w.heap.size, 4, none⟩ = some (.slice none 0 0) := by rw [Lib.cell_of_heap HT4.out]; rfl
      have f4 : w10.frozen? ⟨w.heap.size, 4, none⟩ = false := Lib.frozen_of_heap HT4.out 4
      cases bad9 with
      | true =>
        have HUD : Hid _ := Wr.decU_none (Wr.dec_bad HST.out rfl)
        have HE : Hid _ := five_set HT4.out (.int .i64 0) (.int .i64 0) (.slice none 0 0) (.slice none 0 0) (.slice none 0 0)
        have HBF : Hid (Below w.heap.size w (five w10 w.heap.size (.int .i64 0) (.int .i64 0) (.slice none 0 0) (.slice none 0 0) (.slice none 0 0))) := five_below HB4.out
        go_wp2_with fail
        clear t0 t1 t2 t3 t4 f0 f1 f2 f3 f4
        obtain ⟨k1, k2, _, _⟩ := HE.out
        change bodyPost _ _ _ _ _ (five _ _ _ _ _ _ _)
        clear HE
        generalize five w10 w.heap.size (.int .i64 0) (.int .i64 0) (.slice none 0 0) (.slice none 0 0) (.slice none 0 0) = w11 at *
        have t0 : w11.cell? ⟨w.heap.size, 0, none⟩ = some (.int .i64 0) := by rw [Lib.cell_of_heap k1]; rfl
        have t1 : w11.cell? ⟨w.heap.size, 1, none⟩ = some (.int .i64 0) := by rw [Lib.cell_of_heap k1]; rfl
        have t2 : w11.cell? ⟨w.heap.size, 2, none⟩ = some (.slice none 0 0) := by rw [Lib.cell_of_heap k1]; rfl
        have t3 : w11.cell? ⟨w.heap.size, 3, none⟩ = some (.slice none 0 0) := by rw [Lib.cell_of_heap k1]; rfl
        have t4 : w11.cell? ⟨w.heap.size, 4, none⟩ = some (.slice none 0 0) := by rw [Lib.cell_of_heap k1]; rfl
        exact bodyPost_ret (v := .tuple #[.agg #[(.int .i64 0), (.int .i64 0), (.slice none 0 0), (.slice none 0 0), (.slice none 0 0)], .int .i64 1]) (by simp [results, Try.results9, go_sem, t0, t1, t2, t3, t4]) rfl ⟨_, _, _, by rw [HUD.out.1, HUD.out.2]; rfl, by rw [HUD.out.1]; exact UpV.no _, HBF.out⟩
      | false =>
        by_cases h9 : at9 < S.length
        · have g9 : decide (at9 < S.length) = true := decide_eq_true h9
          have HUD : Hid _ := Wr.decU_none (Wr.dec_more HST.out rfl (by intro h; have := congrArg List.length h; simp at this; omega))
          have HE : Hid _ := five_set HT4.out (.int .i64 0) (.int .i64 0) (.slice none 0 0) (.slice none 0 0) (.slice none 0 0)
          have HBF : Hid (Below w.heap.size w (five w10 w.heap.size (.int .i64 0) (.int .i64 0) (.slice none 0 0) (.slice none 0 0) (.slice none 0 0))) := five_below HB4.out
          go_wp2_with fail
          clear t0 t1 t2 t3 t4 f0 f1 f2 f3 f4
          obtain ⟨k1, k2, _, _⟩ := HE.out
          change bodyPost _ _ _ _ _ (five _ _ _ _ _ _ _)
          clear HE
          generalize five w10 w.heap.size (.int .i64 0) (.int .i64 0) (.slice none 0 0) (.slice none 0 0) (.slice none 0 0) = w11 at *
          have t0 : w11.cell? ⟨w.heap.size, 0, none⟩ = some (.int .i64 0) := by rw [Lib.cell_of_heap k1]; rfl
          have t1 : w11.cell? ⟨w.heap.size, 1, none⟩ = some (.int .i64 0) := by rw [Lib.cell_of_heap k1]; rfl
          have t2 : w11.cell? ⟨w.heap.size, 2, none⟩ = some (.slice none 0 0) := by rw [Lib.cell_of_heap k1]; rfl
          have t3 : w11.cell? ⟨w.heap.size, 3, none⟩ = some (.slice none 0 0) := by rw [Lib.cell_of_heap k1]; rfl
          have t4 : w11.cell? ⟨w.heap.size, 4, none⟩ = some (.slice none 0 0) := by rw [Lib.cell_of_heap k1]; rfl
          exact bodyPost_ret (v := .tuple #[.agg #[(.int .i64 0), (.int .i64 0), (.slice none 0 0), (.slice none 0 0), (.slice none 0 0)], .int .i64 1]) (by simp [results, Try.results9, go_sem, t0, t1, t2, t3, t4]) rfl ⟨_, _, _, by rw [HUD.out.1, HUD.out.2]; rfl, by rw [HUD.out.1]; exact UpV.no _, HBF.out⟩
        · have g9 : decide (at9 < S.length) = false := decide_eq_false h9
          have HDD : Hid _ := Wr.dec_ok HST.out rfl (List.drop_of_length_le (by omega))
          have c0 : w10.cell? ⟨w.heap.size + 1 + 1, 0, none⟩ = some (.int .i64 xa) := by rw [Lib.cell_of_heap D10.out.u]; rfl
          have c1 : w10.cell? ⟨w.heap.size + 1 + 1, 1, none⟩ = some (.int .i64 xn) := by rw [Lib.cell_of_heap D10.out.u]; rfl
          have c2 : w10.cell? ⟨w.heap.size + 1 + 1, 2, none⟩ = some (.slice ap ps.length cp) := by rw [Lib.cell_of_heap D10.out.u]; rfl
          have c3 : w10.cell? ⟨w.heap.size + 1 + 1, 3, none⟩ = some (.slice as_ q.length cs) := by rw [Lib.cell_of_heap D10.out.u]; rfl
          have c4 : w10.cell? ⟨w.heap.size + 1 + 1, 4, none⟩ = some (.slice at_ ts.length ct) := by rw [Lib.cell_of_heap D10.out.u]; rfl
          have HFF : Hid (∀ f, f ∈ q.map (·.1) → FFit f) := by
            intro f hf
            obtain ⟨p, hp, rfl⟩ := List.mem_map.mp hf
            exact Nat.le_trans (HA4.out p hp).2 (by decide)
          have hcl : q.length = (q.map (·.1)).length := by rw [List.length_map]
          have HCK : Hid (Calls Try.prog 7 #[.agg #[.int .i64 xa, .int .i64 xn, .slice ap ps.length cp, .slice as_ q.length cs, .slice at_ ts.length ct]] w10 fun e w' => e = .returned (.int .i64 (Wr.check ⟨⟨xa, xn⟩, ps, q.map (·.1), ts⟩)) ∧ Below w10.heap.size w10 w') :=
            CheckUpdate_any ⟨⟨xa, xn⟩, ps, q.map (fun p : Fv => p.1), ts⟩ _ (.slice as_ q.length cs) _ w10 (own_ids HP4.out) (own_fcs HS4b.out HA4.out) (own_ids HQ4.out) HFF.out (by have := HLA.out; dsimp only; rw [← hcl]; omega)
          clear hcl
          go_wp2_with fail
          refine Calls.mono HCK.out ?_
          rintro e w5 ⟨rfl, hb5⟩
          have HB5 : Hid (Below w.heap.size w w5) := HB4.out.trans (hb5.mono HB4.out.size)
          have HT5 : Hid (w5.heap[w.heap.size]? = some (.cells zeroUp 27)) := (hb5.block _ (Array.getElem?_eq_some_iff.1 HT4.out).1).trans HT4.out
          have HU5 : Hid (w5.heap[w.heap.size + 1 + 1]? = some (.cells #[.int .i64 xa, .int .i64 xn, .slice ap ps.length cp, .slice as_ q.length cs, .slice at_ ts.length ct] 27)) := (hb5.block _ (Array.getElem?_eq_some_iff.1 D10.out.u).1).trans D10.out.u
          have HP5 : Hid _ := ownsRow_below HP4.out hb5
          have HS5 : Hid _ := ownsRow_below HS4b.out hb5
          have HQ5 : Hid _ := ownsRow_below HQ4.out hb5
          have HA5 : Hid (ArgsP (w.heap.size + 3) w5 q) := fun p hp => ⟨ownsRow_below (HA4.out p hp).1 hb5, (HA4.out p hp).2⟩
          clear HCK c0 c1 c2 c3 c4 t0 t1 t2 t3 t4 f0 f1 f2 f3 f4 r1 r2 HB4 HT4 HP4 HS4b HQ4 HA4 hb5
          have HB4 := HB5
          have HT4 := HT5
          have t0 : w5.cell? ⟨w.heap.size, 0, none⟩ = some (.int .i64 0) := by rw [Lib.cell_of_heap HT4.out]; rfl
          have f0 : w5.frozen? ⟨w.heap.size, 0, none⟩ = false := Lib.frozen_of_heap HT4.out 0
          have t1 : w5.cell? ⟨w.heap.size, 1, none⟩ = some (.int .i64 0) := by rw [Lib.cell_of_heap HT4.out]; rfl
          have f1 : w5.frozen? ⟨w.heap.size, 1, none⟩ = false := Lib.frozen_of_heap HT4.out 1
          have t2 : w5.cell? ⟨w.heap.size, 2, none⟩ = some (.slice none 0 0) := by rw [Lib.cell_of_heap HT4.out]; rfl
          have f2 : w5.frozen? ⟨w.heap.size, 2, none⟩ = false := Lib.frozen_of_heap HT4.out 2
          have t3 : w5.cell? ⟨w.heap.size, 3, none⟩ = some (.slice none 0 0) := by rw [Lib.cell_of_heap HT4.out]; rfl
          have f3 : w5.frozen? ⟨w.heap.size, 3, none⟩ = false := Lib.frozen_of_heap HT4.out 3
          have t4 : w5.cell? ⟨w.heap.size, 4, none⟩ = some (.slice none 0 0) := by rw [Lib.cell_of_heap HT4.out]; rfl
          have f4 : w5.frozen? ⟨w.heap.size, 4, none⟩ = false := Lib.frozen_of_heap HT4.out 4
          by_cases hc : Wr.check ⟨⟨xa, xn⟩, ps, q.map (·.1), ts⟩ = 0
          · have HUD : Hid _ := Wr.decU_ok HDD.out hc
            have c0 : w5.cell? ⟨w.heap.size + 1 + 1, 0, none⟩ = some (.int .i64 xa) := by rw [Lib.cell_of_heap HU5.out]; rfl
            have c1 : w5.cell? ⟨w.heap.size + 1 + 1, 1, none⟩ = some (.int .i64 xn) := by rw [Lib.cell_of_heap HU5.out]; rfl
            have c2 : w5.cell? ⟨w.heap.size + 1 + 1, 2, none⟩ = some (.slice ap ps.length cp) := by rw [Lib.cell_of_heap HU5.out]; rfl
            have c3 : w5.cell? ⟨w.heap.size + 1 + 1, 3, none⟩ = some (.slice as_ q.length cs) := by rw [Lib.cell_of_heap HU5.out]; rfl
            have c4 : w5.cell? ⟨w.heap.size + 1 + 1, 4, none⟩ = some (.slice at_ ts.length ct) := by rw [Lib.cell_of_heap HU5.out]; rfl
            rw [hc]
            clear hc
            have HE : Hid _ := five_set HT4.out (.int .i64 xa) (.int .i64 xn) (.slice ap ps.length cp) (.slice as_ q.length cs) (.slice at_ ts.length ct)
            have HBF : Hid (Below w.heap.size w (five w5 w.heap.size (.int .i64 xa) (.int .i64 xn) (.slice ap ps.length cp) (.slice as_ q.length cs) (.slice at_ ts.length ct))) := five_below HB4.out
            go_wp2_with fail
            clear t0 t1 t2 t3 t4 f0 f1 f2 f3 f4
            obtain ⟨k1, k2, _, _⟩ := HE.out
            have hP := own_ids (k2.own HP5.out (by decide) (by decide))
            have hS := own_fcs (k2.own HS5.out (by decide) (by decide)) (k2.args HA5.out)
            have hQ := own_ids (k2.own HQ5.out (by decide) (by decide))
            have hq : (q.map (·.1)).length = q.length := List.length_map ..
            clear k2
            change bodyPost _ _ _ _ _ (five _ _ _ _ _ _ _)
            clear HE
            generalize five w5 w.heap.size (.int .i64 xa) (.int .i64 xn) (.slice ap ps.length cp) (.slice as_ q.length cs) (.slice at_ ts.length ct) = w11 at *
            have t0 : w11.cell? ⟨w.heap.size, 0, none⟩ = some (.int .i64 xa) := by rw [Lib.cell_of_heap k1]; rfl
            have t1 : w11.cell? ⟨w.heap.size, 1, none⟩ = some (.int .i64 xn) := by rw [Lib.cell_of_heap k1]; rfl
            have t2 : w11.cell? ⟨w.heap.size, 2, none⟩ = some (.slice ap ps.length cp) := by rw [Lib.cell_of_heap k1]; rfl
            have t3 : w11.cell? ⟨w.heap.size, 3, none⟩ = some (.slice as_ q.length cs) := by rw [Lib.cell_of_heap k1]; rfl
            have t4 : w11.cell? ⟨w.heap.size, 4, none⟩ = some (.slice at_ ts.length ct) := by rw [Lib.cell_of_heap k1]; rfl
            exact bodyPost_ret (v := .tuple #[.agg #[(.int .i64 xa), (.int .i64 xn), (.slice ap ps.length cp), (.slice as_ q.length cs), (.slice at_ ts.length ct)], .int .i64 0]) (by simp [results, Try.results9, go_sem, t0, t1, t2, t3, t4]) rfl ⟨_, _, _, by rw [HUD.out.1, HUD.out.2], by rw [HUD.out.1]; exact ⟨hP, hS, hQ, HFF.out, by have := HLA.out; dsimp only; rw [hq]; exact this⟩, HBF.out⟩
          · have HUD : Hid _ := Wr.decU_bad HDD.out hc
            have hne : (Wr.check ⟨⟨xa, xn⟩, ps, q.map (·.1), ts⟩ != 0) = true := by simpa using hc
            generalize Wr.check ⟨⟨xa, xn⟩, ps, q.map (·.1), ts⟩ = ck at *
            have HE : Hid _ := five_set HT4.out (.int .i64 0) (.int .i64 0) (.slice none 0 0) (.slice none 0 0) (.slice none 0 0)
            have HBF : Hid (Below w.heap.size w (five w5 w.heap.size (.int .i64 0) (.int .i64 0) (.slice none 0 0) (.slice none 0 0) (.slice none 0 0))) := five_below HB4.out
            go_wp2_with fail
            clear t0 t1 t2 t3 t4 f0 f1 f2 f3 f4
            obtain ⟨k1, k2, _, _⟩ := HE.out
            change bodyPost _ _ _ _ _ (five _ _ _ _ _ _ _)
            clear HE
            generalize five w5 w.heap.size (.int .i64 0) (.int .i64 0) (.slice none 0 0) (.slice none 0 0) (.slice none 0 0) = w11 at *
            have t0 : w11.cell? ⟨w.heap.size, 0, none⟩ = some (.int .i64 0) := by rw [Lib.cell_of_heap k1]; rfl
            have t1 : w11.cell? ⟨w.heap.size, 1, none⟩ = some (.int .i64 0) := by rw [Lib.cell_of_heap k1]; rfl
            have t2 : w11.cell? ⟨w.heap.size, 2, none⟩ = some (.slice none 0 0) := by rw [Lib.cell_of_heap k1]; rfl
            have t3 : w11.cell? ⟨w.heap.size, 3, none⟩ = some (.slice none 0 0) := by rw [Lib.cell_of_heap k1]; rfl
            have t4 : w11.cell? ⟨w.heap.size, 4, none⟩ = some (.slice none 0 0) := by rw [Lib.cell_of_heap k1]; rfl
            exact bodyPost_ret (v := .tuple #[.agg #[(.int .i64 0), (.int .i64 0), (.slice none 0 0), (.slice none 0 0), (.slice none 0 0)], .int .i64 ck]) (by simp [results, Try.results9, go_sem, t0, t1, t2, t3, t4]) rfl ⟨_, _, _, by rw [HUD.out.1, HUD.out.2]; rfl, by rw [HUD.out.1]; exact UpV.no _, HBF.out⟩
end Go.Proofs.Ytjeaicahdnoonaa

/- WireTells and WireBack: the walks of the laws. -/
namespace Go.Proofs.Ytjeaicahdnoonaa
open Go.RowKit


set_option maxRecDepth 100000 in
set_option maxHeartbeats 3000000 in
theorem wireTells_any (u : Wr.Up) (vp vs vt : Value) (s : Wr.By) (w : World) (hP : IdsV w vp u.ps) (hS : FactsV w vs u.says) (hT : IdsV w vt u.ts) (hF : ∀ f, f ∈ u.says → FFit f) (hl : u.ps.length ≤ 9223372036854775807 ∧ u.says.length ≤ 9223372036854775807 ∧ u.ts.length ≤ 9223372036854775807) (hs : s.length ≤ 9223372036854775807) :
    Calls Try.prog 3 #[upVal u vp vs vt, strVal s] w fun e w' => e = .returned (.bool true) ∧ Below w.heap.size w w' := by
  obtain ⟨⟨ia, n⟩, ps, says, ts⟩ := u
  have HP : Hid (IdsV w vp ps) := hP
  have HS : Hid (FactsV w vs says) := hS
  have HT : Hid (IdsV w vt ts) := hT
  have HF : Hid (∀ f, f ∈ says → FFit f) := hF
  have HL : Hid (ps.length ≤ 9223372036854775807 ∧ says.length ≤ 9223372036854775807 ∧ ts.length ≤ 9223372036854775807) := hl
  obtain ⟨ap, cp, rfl, _⟩ := hP
  obtain ⟨as_, cs, rfl, _⟩ := hS
  obtain ⟨at_, ct, rfl, _⟩ := hT
  clear hF hl
  have hG := new_below w (.cells #[.int .i64 ia, .int .i64 n, .slice ap ps.length cp, .slice as_ says.length cs, .slice at_ ts.length ct] 27)
  have hBx := heap_alloc_new w (.cells #[.int .i64 ia, .int .i64 n, .slice ap ps.length cp, .slice as_ says.length cs, .slice at_ ts.length ct] 27)
  go_enter Try.func3, Try.ntmps3
  go_upto_region 1 with fail
  generalize w.alloc (.cells #[.int .i64 ia, .int .i64 n, .slice ap ps.length cp, .slice as_ says.length cs, .slice at_ ts.length ct] 27) = w2 at *
  have HC : Hid (∀ z, Below w2.heap.size w2 z → z.cell? ⟨w.heap.size, 0, none⟩ = some (.int .i64 ia) ∧ z.cell? ⟨w.heap.size, 1, none⟩ = some (.int .i64 n) ∧ z.cell? ⟨w.heap.size, 2, none⟩ = some (.slice ap ps.length cp) ∧ z.cell? ⟨w.heap.size, 3, none⟩ = some (.slice as_ says.length cs) ∧ z.cell? ⟨w.heap.size, 4, none⟩ = some (.slice at_ ts.length ct)) := by
    intro z h3
    have hA' := (h3.block w.heap.size (Array.getElem?_eq_some_iff.1 hBx).1).trans hBx
    exact ⟨by rw [Lib.cell_of_heap hA']; rfl, by rw [Lib.cell_of_heap hA']; rfl, by rw [Lib.cell_of_heap hA']; rfl, by rw [Lib.cell_of_heap hA']; rfl, by rw [Lib.cell_of_heap hA']; rfl⟩
  have HG2 : Hid (Below w.heap.size w w2) := hG
  have HUP : Hid (∀ z, Below w2.heap.size w2 z → IdsV z (.slice ap ps.length cp) ps ∧ FactsV z (.slice as_ says.length cs) says ∧ IdsV z (.slice at_ ts.length ct) ts) := fun z hz => ⟨idsV_below (idsV_below HP.out hG) hz, factsV_below (factsV_below HS.out hG) hz, idsV_below (idsV_below HT.out hG) hz⟩
  obtain ⟨p1, p2, p3⟩ := HUP.out w2 (Below.refl _ _)
  have H5 : Hid _ := Encode_any ⟨⟨ia, n⟩, ps, says, ts⟩ _ _ _ w2 p1 p2 p3 HF.out HL.out
  obtain ⟨c0, c1, c2, c3, c4⟩ := HC.out w2 (Below.refl _ _)
  clear hBx hG p1 p2 p3
  go_wp2_with fail
  refine Calls.mono H5.out ?_
  rintro e w3 ⟨rfl, hb3⟩
  clear c0 c1 c2 c3 c4 H5
  have H6 : Hid _ := Decode_any s w3
  have HB3 : Hid (Below w2.heap.size w2 w3) := hb3
  clear hb3
  go_wp2_with fail
  refine Calls.mono H6.out ?_
  rintro e w4 ⟨vp6, vs6, vt6, rfl, hU6, hb4⟩
  obtain ⟨D, HDD⟩ : ∃ D, Hid (Wr.decU s = D) := ⟨_, rfl⟩
  rw [HDD.out] at hU6
  rw [HDD.out]
  generalize hce : Wr.decE s = de at *
  obtain ⟨⟨da, dn⟩, dps, dsays, dts⟩ := D
  have HU6 : Hid (UpV w4 ⟨⟨da, dn⟩, dps, dsays, dts⟩ vp6 vs6 vt6) := hU6
  obtain ⟨ap6, cp6, rfl, _⟩ := hU6.1
  obtain ⟨as6, cs6, rfl, _⟩ := hU6.2.1
  obtain ⟨at6, ct6, rfl, _⟩ := hU6.2.2.1
  dsimp only at *
  have HB4 : Hid (Below w2.heap.size w2 (w4.alloc (.cells #[.int .i64 da, .int .i64 dn, .slice ap6 dps.length cp6, .slice as6 dsays.length cs6, .slice at6 dts.length ct6] 27))) := (HB3.out.trans (hb4.mono HB3.out.size)).alloc (Nat.le_trans HB3.out.size hb4.size) _
  have HU7 : Hid (UpV (w4.alloc (.cells #[.int .i64 da, .int .i64 dn, .slice ap6 dps.length cp6, .slice as6 dsays.length cs6, .slice at6 dts.length ct6] 27)) ⟨⟨da, dn⟩, dps, dsays, dts⟩ (.slice ap6 dps.length cp6) (.slice as6 dsays.length cs6) (.slice at6 dts.length ct6)) := UpV.below HU6.out (new_below w4 _)
  have hX := heap_alloc_new w4 (.cells #[.int .i64 da, .int .i64 dn, .slice ap6 dps.length cp6, .slice as6 dsays.length cs6, .slice at6 dts.length ct6] 27)
  have HCE : Hid (Wr.decE s = de) := hce
  clear hU6 hb4 HB3 H6 HU6 hce
  go_upto_region 3 with fail
  generalize w4.alloc (.cells #[.int .i64 da, .int .i64 dn, .slice ap6 dps.length cp6, .slice as6 dsays.length cs6, .slice at6 dts.length ct6] 27) = w5 at *
  generalize w4.heap.size = X at *
  have HCX : Hid (∀ z, Below w5.heap.size w5 z → z.cell? ⟨X, 0, none⟩ = some (.int .i64 da) ∧ z.cell? ⟨X, 1, none⟩ = some (.int .i64 dn) ∧ z.cell? ⟨X, 2, none⟩ = some (.slice ap6 dps.length cp6) ∧ z.cell? ⟨X, 3, none⟩ = some (.slice as6 dsays.length cs6) ∧ z.cell? ⟨X, 4, none⟩ = some (.slice at6 dts.length ct6)) := by
    intro z h3
    have hA' := (h3.block X (Array.getElem?_eq_some_iff.1 hX).1).trans hX
    exact ⟨by rw [Lib.cell_of_heap hA']; rfl, by rw [Lib.cell_of_heap hA']; rfl, by rw [Lib.cell_of_heap hA']; rfl, by rw [Lib.cell_of_heap hA']; rfl, by rw [Lib.cell_of_heap hA']; rfl⟩
  clear hX
  obtain ⟨p1, p2, p3⟩ := HUP.out w5 HB4.out
  obtain ⟨c0, c1, c2, c3, c4⟩ := HC.out w5 HB4.out
  have H7 : Hid _ := CheckUpdate_any ⟨⟨ia, n⟩, ps, says, ts⟩ _ _ _ w5 p1 p2 p3 HF.out HL.out
  clear p1 p2 p3
  go_wp2_with fail
  refine Calls.mono H7.out ?_
  rintro e w6 ⟨rfl, hb6⟩
  clear c0 c1 c2 c3 c4 H7
  have HB6 : Hid (Below w5.heap.size w5 w6) := hb6
  have HB26 : Hid (Below w2.heap.size w2 w6) := HB4.out.trans (hb6.mono HB4.out.size)
  clear hb6
  obtain ⟨c0, c1, c2, c3, c4⟩ := HC.out w6 HB26.out
  have HRG : Hid (Wr.check ⟨⟨ia, n⟩, ps, says, ts⟩ = 0 → Wr.Right ⟨⟨ia, n⟩, ps, says, ts⟩ ∧ Wr.encOut ⟨⟨ia, n⟩, ps, says, ts⟩ = Wr.enc ⟨⟨ia, n⟩, ps, says, ts⟩) := fun h => ⟨Wr.right_of h, if_pos h⟩
  have HRN : Hid (¬ Wr.check ⟨⟨ia, n⟩, ps, says, ts⟩ = 0 → Wr.encOut ⟨⟨ia, n⟩, ps, says, ts⟩ = []) := fun h => if_neg h
  obtain ⟨ck, HCK⟩ : ∃ ck, Hid (Wr.check ⟨⟨ia, n⟩, ps, says, ts⟩ = ck) := ⟨_, rfl⟩
  obtain ⟨EO, HEO⟩ : ∃ EO, Hid (Wr.encOut ⟨⟨ia, n⟩, ps, says, ts⟩ = EO) := ⟨_, rfl⟩
  rw [HCK.out, HEO.out]
  rw [HCK.out, HEO.out] at HRG HRN
  by_cases h0 : ck = 0
  · subst h0
    obtain ⟨hR, hE⟩ := HRG.out rfl
    obtain ⟨p1, p2, p3⟩ := HUP.out w6 HB26.out
    have H8 : Hid (Calls Try.prog 8 #[upVal ⟨⟨ia, n⟩, ps, says, ts⟩ (.slice ap ps.length cp) (.slice as_ says.length cs) (.slice at_ ts.length ct)] w6 fun e w' => e = .returned (strVal EO) ∧ Below w6.heap.size w6 w') := by
      have := EncodeOf_any ⟨⟨ia, n⟩, ps, says, ts⟩ _ _ _ w6 p1 p2 p3 hR
      rw [← hE] at this
      exact this
    clear HRG HRN hE hR p1 p2 p3
    go_wp2_with fail
    refine Calls.mono H8.out ?_
    rintro e w7 ⟨rfl, hb7⟩
    clear c0 c1 c2 c3 c4 H8
    have HB7 : Hid (Below w5.heap.size w5 w7) := HB6.out.trans (hb7.mono HB6.out.size)
    clear hb7 HB6 HB26
    have H9 : Hid _ := DecodeOf_any s w7 hs
    go_wp2_with fail
    refine Calls.mono H9.out ?_
    rintro e w8 ⟨vp9, vs9, vt9, rfl, hU9, hb8⟩
    rw [HDD.out] at hU9
    rw [HDD.out, HCE.out]
    have HU9 : Hid (UpV w8 ⟨⟨da, dn⟩, dps, dsays, dts⟩ vp9 vs9 vt9) := hU9
    obtain ⟨ap9, cp9, rfl, _⟩ := hU9.1
    obtain ⟨as9, cs9, rfl, _⟩ := hU9.2.1
    obtain ⟨at9, ct9, rfl, _⟩ := hU9.2.2.1
    dsimp only at *
    have HB9 : Hid (Below w5.heap.size w5 (w8.alloc (.cells #[.int .i64 da, .int .i64 dn, .slice ap9 dps.length cp9, .slice as9 dsays.length cs9, .slice at9 dts.length ct9] 27))) := (HB7.out.trans (hb8.mono HB7.out.size)).alloc (Nat.le_trans HB7.out.size hb8.size) _
    have HU10 : Hid (UpV (w8.alloc (.cells #[.int .i64 da, .int .i64 dn, .slice ap9 dps.length cp9, .slice as9 dsays.length cs9, .slice at9 dts.length ct9] 27)) ⟨⟨da, dn⟩, dps, dsays, dts⟩ (.slice ap9 dps.length cp9) (.slice as9 dsays.length cs9) (.slice at9 dts.length ct9)) := UpV.below HU9.out (new_below w8 _)
    have hY := heap_alloc_new w8 (.cells #[.int .i64 da, .int .i64 dn, .slice ap9 dps.length cp9, .slice as9 dsays.length cs9, .slice at9 dts.length ct9] 27)
    clear hU9 hb8 HB7 H9 HU9
    go_upto_region 7 with fail
    generalize w8.alloc (.cells #[.int .i64 da, .int .i64 dn, .slice ap9 dps.length cp9, .slice as9 dsays.length cs9, .slice at9 dts.length ct9] 27) = w9 at *
    generalize w8.heap.size = Y at *
    have HCY : Hid (∀ z, Below w9.heap.size w9 z → z.cell? ⟨Y, 0, none⟩ = some (.int .i64 da) ∧ z.cell? ⟨Y, 1, none⟩ = some (.int .i64 dn) ∧ z.cell? ⟨Y, 2, none⟩ = some (.slice ap9 dps.length cp9) ∧ z.cell? ⟨Y, 3, none⟩ = some (.slice as9 dsays.length cs9) ∧ z.cell? ⟨Y, 4, none⟩ = some (.slice at9 dts.length ct9)) := by
      intro z h3
      have hA' := (h3.block Y (Array.getElem?_eq_some_iff.1 hY).1).trans hY
      exact ⟨by rw [Lib.cell_of_heap hA']; rfl, by rw [Lib.cell_of_heap hA']; rfl, by rw [Lib.cell_of_heap hA']; rfl, by rw [Lib.cell_of_heap hA']; rfl, by rw [Lib.cell_of_heap hA']; rfl⟩
    clear hY
    have H10 : Hid _ := wireBegun_any w9
    go_wp2_with fail
    refine Calls.mono H10.out ?_
    rintro e w10 ⟨rfl, hb10⟩
    have HB10 : Hid (Below w9.heap.size w9 w10) := hb10
    have HB510 : Hid (Below w5.heap.size w5 w10) := HB9.out.trans (hb10.mono HB9.out.size)
    have HB210 : Hid (Below w2.heap.size w2 w10) := HB4.out.trans (HB510.out.mono HB4.out.size)
    clear H10 hb10
    obtain ⟨p1, p2, p3⟩ := HUP.out w10 HB210.out
    obtain ⟨c0, c1, c2, c3, c4⟩ := HC.out w10 HB210.out
    have H11 : Hid _ := Check_any ⟨⟨ia, n⟩, ps, says, ts⟩ _ _ _ w10 p1 p2 p3 HF.out HL.out
    rw [HCK.out] at H11
    clear p1 p2 p3
    go_wp2_with fail
    refine Calls.mono H11.out ?_
    rintro e w11 ⟨rfl, hb11⟩
    clear c0 c1 c2 c3 c4 H11
    have HB911 : Hid (Below w9.heap.size w9 w11) := HB10.out.trans (hb11.mono HB10.out.size)
    have HB511 : Hid (Below w5.heap.size w5 w11) := HB510.out.trans (hb11.mono HB510.out.size)
    have HB211 : Hid (Below w2.heap.size w2 w11) := HB210.out.trans (hb11.mono HB210.out.size)
    obtain ⟨x0, x1, x2, x3, x4⟩ := HCX.out w11 HB511.out
    obtain ⟨y0, y1, y2, y3, y4⟩ := HCY.out w11 HB911.out
    have hu := UpV.below HU7.out HB511.out
    have hv := UpV.below HU10.out HB911.out
    have H12 : Hid (Calls Try.prog 12 #[.agg #[.int .i64 da, .int .i64 dn, .slice ap6 dps.length cp6, .slice as6 dsays.length cs6, .slice at6 dts.length ct6], .agg #[.int .i64 da, .int .i64 dn, .slice ap9 dps.length cp9, .slice as9 dsays.length cs9, .slice at9 dts.length ct9]] w11 fun e w' => e = .returned (.bool true) ∧ Below w11.heap.size w11 w') := by
      refine (SameUpdate_any ⟨⟨da, dn⟩, dps, dsays, dts⟩ ⟨⟨da, dn⟩, dps, dsays, dts⟩ _ _ _ _ _ _ w11 hu.1 hu.2.1 hu.2.2.1 hv.1 hv.2.1 hv.2.2.1 hu.2.2.2.1 hv.2.2.2.1 (UpV.long hu)).mono ?_
      rintro e w' ⟨bt, rfl, hbt, hb2⟩
      exact ⟨by rw [hbt.mpr rfl], hb2⟩
    clear hu hv hb11
    go_wp2_with fail
    refine Calls.mono H12.out ?_
    rintro e w12 ⟨rfl, hb12⟩
    have HE : Hid _ := HB211.out.trans (hb12.mono HB211.out.size)
    clear x0 x1 x2 x3 x4 y0 y1 y2 y3 y4 H12 hb12
    go_wp2_with fail
    go_ret
    exact ⟨rfl, HG2.out.trans (HE.out.mono HG2.out.size)⟩
  · have hne : (ck == 0) = false := by simpa using h0
    have hE := HRN.out h0
    subst hE
    have HB7 := HB6
    clear HRG HRN HB6 HB26 c0 c1 c2 c3 c4
    have H9 : Hid _ := DecodeOf_any s w6 hs
    go_wp2_with fail
    refine Calls.mono H9.out ?_
    rintro e w8 ⟨vp9, vs9, vt9, rfl, hU9, hb8⟩
    rw [HDD.out] at hU9
    rw [HDD.out, HCE.out]
    have HU9 : Hid (UpV w8 ⟨⟨da, dn⟩, dps, dsays, dts⟩ vp9 vs9 vt9) := hU9
    obtain ⟨ap9, cp9, rfl, _⟩ := hU9.1
    obtain ⟨as9, cs9, rfl, _⟩ := hU9.2.1
    obtain ⟨at9, ct9, rfl, _⟩ := hU9.2.2.1
    dsimp only at *
    have HB9 : Hid (Below w5.heap.size w5 (w8.alloc (.cells #[.int .i64 da, .int .i64 dn, .slice ap9 dps.length cp9, .slice as9 dsays.length cs9, .slice at9 dts.length ct9] 27))) := (HB7.out.trans (hb8.mono HB7.out.size)).alloc (Nat.le_trans HB7.out.size hb8.size) _
    have HU10 : Hid (UpV (w8.alloc (.cells #[.int .i64 da, .int .i64 dn, .slice ap9 dps.length cp9, .slice as9 dsays.length cs9, .slice at9 dts.length ct9] 27)) ⟨⟨da, dn⟩, dps, dsays, dts⟩ (.slice ap9 dps.length cp9) (.slice as9 dsays.length cs9) (.slice at9 dts.length ct9)) := UpV.below HU9.out (new_below w8 _)
    have hY := heap_alloc_new w8 (.cells #[.int .i64 da, .int .i64 dn, .slice ap9 dps.length cp9, .slice as9 dsays.length cs9, .slice at9 dts.length ct9] 27)
    clear hU9 hb8 HB7 H9 HU9
    go_upto_region 7 with fail
    generalize w8.alloc (.cells #[.int .i64 da, .int .i64 dn, .slice ap9 dps.length cp9, .slice as9 dsays.length cs9, .slice at9 dts.length ct9] 27) = w9 at *
    generalize w8.heap.size = Y at *
    have HCY : Hid (∀ z, Below w9.heap.size w9 z → z.cell? ⟨Y, 0, none⟩ = some (.int .i64 da) ∧ z.cell? ⟨Y, 1, none⟩ = some (.int .i64 dn) ∧ z.cell? ⟨Y, 2, none⟩ = some (.slice ap9 dps.length cp9) ∧ z.cell? ⟨Y, 3, none⟩ = some (.slice as9 dsays.length cs9) ∧ z.cell? ⟨Y, 4, none⟩ = some (.slice at9 dts.length ct9)) := by
      intro z h3
      have hA' := (h3.block Y (Array.getElem?_eq_some_iff.1 hY).1).trans hY
      exact ⟨by rw [Lib.cell_of_heap hA']; rfl, by rw [Lib.cell_of_heap hA']; rfl, by rw [Lib.cell_of_heap hA']; rfl, by rw [Lib.cell_of_heap hA']; rfl, by rw [Lib.cell_of_heap hA']; rfl⟩
    clear hY
    have H10 : Hid _ := wireBegun_any w9
    go_wp2_with fail
    refine Calls.mono H10.out ?_
    rintro e w10 ⟨rfl, hb10⟩
    have HB10 : Hid (Below w9.heap.size w9 w10) := hb10
    have HB510 : Hid (Below w5.heap.size w5 w10) := HB9.out.trans (hb10.mono HB9.out.size)
    have HB210 : Hid (Below w2.heap.size w2 w10) := HB4.out.trans (HB510.out.mono HB4.out.size)
    clear H10 hb10
    obtain ⟨p1, p2, p3⟩ := HUP.out w10 HB210.out
    obtain ⟨c0, c1, c2, c3, c4⟩ := HC.out w10 HB210.out
    have H11 : Hid _ := Check_any ⟨⟨ia, n⟩, ps, says, ts⟩ _ _ _ w10 p1 p2 p3 HF.out HL.out
    rw [HCK.out] at H11
    clear p1 p2 p3
    go_wp2_with fail
    refine Calls.mono H11.out ?_
    rintro e w11 ⟨rfl, hb11⟩
    clear c0 c1 c2 c3 c4 H11
    have HB911 : Hid (Below w9.heap.size w9 w11) := HB10.out.trans (hb11.mono HB10.out.size)
    have HB511 : Hid (Below w5.heap.size w5 w11) := HB510.out.trans (hb11.mono HB510.out.size)
    have HB211 : Hid (Below w2.heap.size w2 w11) := HB210.out.trans (hb11.mono HB210.out.size)
    obtain ⟨x0, x1, x2, x3, x4⟩ := HCX.out w11 HB511.out
    obtain ⟨y0, y1, y2, y3, y4⟩ := HCY.out w11 HB911.out
    have hu := UpV.below HU7.out HB511.out
    have hv := UpV.below HU10.out HB911.out
    have H12 : Hid (Calls Try.prog 12 #[.agg #[.int .i64 da, .int .i64 dn, .slice ap6 dps.length cp6, .slice as6 dsays.length cs6, .slice at6 dts.length ct6], .agg #[.int .i64 da, .int .i64 dn, .slice ap9 dps.length cp9, .slice as9 dsays.length cs9, .slice at9 dts.length ct9]] w11 fun e w' => e = .returned (.bool true) ∧ Below w11.heap.size w11 w') := by
      refine (SameUpdate_any ⟨⟨da, dn⟩, dps, dsays, dts⟩ ⟨⟨da, dn⟩, dps, dsays, dts⟩ _ _ _ _ _ _ w11 hu.1 hu.2.1 hu.2.2.1 hv.1 hv.2.1 hv.2.2.1 hu.2.2.2.1 hv.2.2.2.1 (UpV.long hu)).mono ?_
      rintro e w' ⟨bt, rfl, hbt, hb2⟩
      exact ⟨by rw [hbt.mpr rfl], hb2⟩
    clear hu hv hb11
    go_wp2_with fail
    refine Calls.mono H12.out ?_
    rintro e w12 ⟨rfl, hb12⟩
    have HE : Hid _ := HB211.out.trans (hb12.mono HB211.out.size)
    clear x0 x1 x2 x3 x4 y0 y1 y2 y3 y4 H12 hb12
    go_wp2_with fail
    go_ret
    exact ⟨rfl, HG2.out.trans (HE.out.mono HG2.out.size)⟩
end Go.Proofs.Ytjeaicahdnoonaa

/- The closed facts of the row, one by one. -/
namespace Go.Proofs.Ytjeaicahdnoonaa
open Go.ChangeShapes Go.WideShapes Go.ChangeAt Go.RowKit
theorem wreTells_and {a b : Bool} (ha : a = true) (hb : b = true) : (a && b) = true := by rw [ha, hb]; rfl
theorem wreTells_j1 : Rows.wireTellsRow.wf (OpenSpec.ofChange Rows.wireTellsSpec) = true := by kernel_rfl
theorem wreTells_j2 : laidOutB Try.prog = true := by kernel_rfl
theorem wreTells_j3 : mapsRowed Try.prog = true := by kernel_rfl
theorem wreTells_j4 : Try.f3.params.all (Try.prog.readableRec ·) = true := by kernel_rfl
theorem wreTells_j5 : namedTie Try.prog Rows.wireTellsRow.named Rows.wireTellsSpec.vars = true := by kernel_rfl
theorem wreTells_j6 : (Rows.wireTellsRow.stops == []) = true := by kernel_rfl
theorem wreTells_j7 : (Try.prog.stops == []) = true := by kernel_rfl
theorem wreTells_j8 : (Rows.wireTellsRow.knobs == []) = true := by kernel_rfl
theorem wreTells_j9 : (Try.prog.stopKnobs == []) = true := by kernel_rfl
theorem wreTells_j10 : (Rows.wireTellsRow.inPlace == Try.prog.inPlace 3) = true := by kernel_rfl
theorem wreTells_j11 : (Rows.wireTellsRow.unfollowed == Try.prog.unfollowed 3) = true := by kernel_rfl
theorem wreTells_j12 : (Rows.wireTellsRow.recurses == Try.prog.recurses 3) = true := by kernel_rfl
theorem wreTells_j13 : (Rows.wireTellsRow.named == Try.prog.varsNamed 3) = true := by kernel_rfl
theorem wreTells_j14 : (Rows.wireTellsRow.maps == (Try.f3.params.toList ++ Rows.wireTellsSpec.plain.varTypes Try.prog).any (Try.prog.mapsRec ·)) = true := by kernel_rfl
theorem wreTells_j15 : (Rows.wireTellsRow.ifaces == (Try.f3.params.toList ++ Rows.wireTellsSpec.plain.varTypes Try.prog).any (Try.prog.ifacesRec ·)) = true := by kernel_rfl
theorem wreTells_j16 : (Rows.wireTellsRow.mapsOut == Try.prog.mapsAmong Try.f3.resultTypes.toList) = true := by kernel_rfl
theorem wreTells_j17 : (Rows.wireTellsRow.loops == (Try.f3.params.toList ++ Rows.wireTellsSpec.plain.varTypes Try.prog).any (Try.prog.loopsFrom ·)) = true := by kernel_rfl
theorem wreTells_j18 : (Rows.wireTellsRow.wideKeys == (Try.f3.params.toList ++ Rows.wireTellsSpec.plain.varTypes Try.prog ++ Try.f3.resultTypes.toList).any (Try.prog.wideKeysFrom ·)) = true := by kernel_rfl
theorem wreTells_j19 : Rows.wireTellsSpec.vars.all (Try.prog.varReadable ·) = true := by kernel_rfl
theorem wreTells_j20 : Try.f3.resultTypes.all (fun t => Try.prog.readableRec t && decide (t < Try.prog.types.size)) = true := by kernel_rfl
theorem wreTells_j21 : (Rows.wireTellsRow.ifacesOut == Try.f3.resultTypes.toList.any (Try.prog.ifacesRec ·)) = true := by kernel_rfl
theorem wreTells_j22 : (Rows.wireTellsRow.loopsOut == Try.f3.resultTypes.toList.any (Try.prog.loopsFrom ·)) = true := by kernel_rfl
theorem wreTells_j23 : (Rows.wireTellsRow.plainKeys == Try.prog.plainKeys) = true := by kernel_rfl
theorem wreTells_j24 : Rows.wireTellsRow.shortTexts.isNone = true := by kernel_rfl
theorem wreTells_j25 : Try.prog.stopsHeard = true := by kernel_rfl
theorem wreTells_j26 : Try.prog.mayEnter = true := by kernel_rfl
theorem wreTells_j27 : (Rows.wireTellsRow.lifted == Try.prog.liftsFinal) = true := by kernel_rfl
theorem wreTells_j28 : (Try.prog.make == some Rows.wireTellsRow.make) = true := by kernel_rfl
theorem wreTells_j29 : (Rows.wireTellsRow.kinds == (if Rows.wireTellsRow.domain.isEmpty then [] else Try.f3.params.toList.map fun t => match Try.prog.underlying t with | some (.int k) => some k | _ => none)) = true := by kernel_rfl
theorem wreTells_j30 : (Rows.wireTellsRow.pinned == Rows.wireTellsRow.pinnedBy) = true := by kernel_rfl
theorem wreTells_j31 : (Rows.wireTellsRow.veiled == (Try.f3.params.toList ++ Rows.wireTellsSpec.plain.varTypes Try.prog ++ Try.f3.resultTypes.toList).any (Try.prog.veiledRec ·)) = true := by kernel_rfl
theorem wreTells_j32 : Rows.wireTellsRow.veiledFits Try.prog Try.f3.params.toList (Try.f3.params.toList ++ Rows.wireTellsSpec.plain.varTypes Try.prog ++ Try.f3.resultTypes.toList) = true := by kernel_rfl
set_option maxRecDepth 100000 in
theorem wreTells_facts : joinedFacts Try.prog 3 Try.f3 (Rows.wireTellsSpec) Rows.wireTellsRow = true := by
  unfold joinedFacts
  exact wreTells_and (wreTells_and (wreTells_and (wreTells_and (wreTells_and (wreTells_and (wreTells_and (wreTells_and (wreTells_and (wreTells_and (wreTells_and (wreTells_and (wreTells_and (wreTells_and (wreTells_and (wreTells_and (wreTells_and (wreTells_and (wreTells_and (wreTells_and (wreTells_and (wreTells_and (wreTells_and (wreTells_and (wreTells_and (wreTells_and (wreTells_and (wreTells_and (wreTells_and (wreTells_and (wreTells_and wreTells_j1 wreTells_j2) wreTells_j3) wreTells_j4) wreTells_j5) wreTells_j6) wreTells_j7) wreTells_j8) wreTells_j9) wreTells_j10) wreTells_j11) wreTells_j12) wreTells_j13) wreTells_j14) wreTells_j15) wreTells_j16) wreTells_j17) wreTells_j18) wreTells_j19) wreTells_j20) wreTells_j21) wreTells_j22) wreTells_j23) wreTells_j24) wreTells_j25) wreTells_j26) wreTells_j27) wreTells_j28) wreTells_j29) wreTells_j30) wreTells_j31) wreTells_j32
end Go.Proofs.Ytjeaicahdnoonaa

