/- Own texts, one behind the other (part 6). -/
import Derived.Test.YthenjegmigeieaaGreatBundleE
import Derived.Test.YthenjegmigeieaaGreatRows
/- ready: is enough known of a literal? -/
namespace Go.Proofs.YthenjegmigeieaaGreat
open Go.RowKit

set_option maxRecDepth 100000 in
set_option maxHeartbeats 400000 in
theorem ready1_any (X : Nat) (y : Ru.Way) (t : Sc.Term) (w : World) (hW : WayAt w X y) (hy : Ru.Wf 8 y) (ht : Ru.TermIn 8 t) :
    Calls Tryz.prog 212 #[ptermVal t, .pointer (some ⟨X, 0, none⟩)] w fun e w' => e = .returned (.bool (!Sc.known y.known t)) ∧ Below w.heap.size w w' := by
  have bT := (Below.refl w.heap.size w).alloc (Nat.le_refl _) (.cells #[.int .i64 t.var, .int .i64 t.n] 147)
  have HW : Hid (WayAt (w.alloc (.cells #[.int .i64 t.var, .int .i64 t.n] 147)) X y) := hW.below bT
  have HB : Hid _ := bT
  have hTB := heap_alloc_new w (.cells #[.int .i64 t.var, .int .i64 t.n] 147)
  have t0 : (w.alloc (.cells #[.int .i64 t.var, .int .i64 t.n] 147)).cell? ⟨w.heap.size, 0, none⟩ = some (.int .i64 t.var) := by rw [Lib.cell_of_heap hTB]; rfl
  have t1 : (w.alloc (.cells #[.int .i64 t.var, .int .i64 t.n] 147)).cell? ⟨w.heap.size, 1, none⟩ = some (.int .i64 t.n) := by rw [Lib.cell_of_heap hTB]; rfl
  clear hW bT hTB
  go_enter Tryz.func212, Tryz.ntmps212
  go_upto_region 1 with fail
  generalize w.alloc (.cells #[.int .i64 t.var, .int .i64 t.n] 147) = w1 at *
  go_wp2_with (refine wpList_loadWay (wanted_none rfl) _ rfl _ rfl y HW.out hy ?_)
  refine Calls.mono (knows_any y t w1 hy ht) ?_
  rintro _ w2 ⟨rfl, hb2⟩
  have HB2 : Hid _ := HB.out.trans (hb2.mono HB.out.size)
  clear t0 t1 hb2
  go_wp2_with fail
  go_ret
  exact ⟨rfl, HB2.out⟩
theorem termD_drop' (l : List Sc.Term) (k : Nat) (hk : k < l.length) : l.drop k = Sc.termD l k :: l.drop (k + 1) := by
  rw [List.drop_eq_getElem_cons hk]
  simp [Sc.termD, List.getD_eq_getElem?_getD, hk]
set_option maxRecDepth 100000 in
set_option maxHeartbeats 1000000 in
theorem indexT_any (l : List Sc.Term) (v : Value) (X : Nat) (y : Ru.Way) (w : World) (hT : PTermsV w v l) (hl : l.length ≤ 1000000) (hW : WayAt w X y) (hy : Ru.Wf 8 y) (hI : Ru.TermsIn 8 l) :
    Calls Tryz.prog 226 #[v, .func (.func 212) #[] #[.pointer (some ⟨X, 0, none⟩)]] w fun e w' => ∃ r : Int, e = .returned (.int .i64 r) ∧ decide (0 ≤ r) = (!l.all (Sc.known y.known)) ∧ Below w.heap.size w w' := by
  obtain ⟨ao, cap, rfl, _, hA⟩ := hT
  have HA : Hid _ := hA
  have HW : Hid (WayAt w X y) := hW
  have HI : Hid _ := hI
  have he : ∀ args w, (callFunc 212 args).run Tryz.prog w = .ok (.enter 212 args) w := enters_of Tryz.func212 (by kernel_rfl) rfl
  clear hA hW hI
  go_enter Tryz.func226, Tryz.ntmps226
  go_wp2_with fail
  go_loopw [8] (fun i wr => ∃ k : Nat, k ≤ l.length ∧ i = .int .i64 k ∧ Hid (l.all (Sc.known y.known) = (l.drop k).all (Sc.known y.known)) ∧ Hid (Below w.heap.size w wr)) (fun i _ => l.length - (intOf i).toNat)
  case atStart => exact ⟨0, Nat.zero_le _, rfl, rfl, Below.refl _ _⟩
  case round =>
    obtain ⟨k, hk, rfl, HAL, HB⟩ := hrel
    by_cases hlt : k < l.length
    · obtain ⟨b, off, rfl, hc⟩ := pterms_at HA.out k hlt
      have hc := hc k hlt
      have q0 := cell_below HB.out hc.1
      have q1 := cell_below HB.out hc.2
      have HD : Hid (l.all (Sc.known y.known) = (Sc.known y.known (Sc.termD l k) && (l.drop (k + 1)).all (Sc.known y.known))) := by show _ = _; rw [HAL.out, termD_drop' l k hlt, List.all_cons]
      have HTk : Hid _ := HI.out _ (Ru.termD_mem hlt)
      clear hc HAL
      generalize Sc.termD l k = t at *
      go_wp2_with fail
      refine Calls.mono (ready1_any X y t wr (HW.out.below HB.out) hy HTk.out) ?_
      rintro e w1 ⟨he1, hb1⟩
      subst he1
      have HB2 : Hid _ := HB.out.trans (hb1.mono HB.out.size)
      clear hb1 q0 q1
      cases hx : Sc.known y.known t
      · have HV : Hid (l.all (Sc.known y.known) = false) := by show _ = _; rw [HD.out, hx]; rfl
        clear HD
        go_wp2_with fail
        go_ret
        exact ⟨k, rfl, by rw [HV.out]; simp, HB2.out⟩
      · have HV : Hid (l.all (Sc.known y.known) = (l.drop (k + 1)).all (Sc.known y.known)) := by show _ = _; rw [HD.out, hx]; rfl
        clear HD
        go_wp2_with fail
        go_roundw
        case rel => exact ⟨k + 1, by omega, by go_num, HV.out, HB2.out⟩
        case measure => simp [intOf]; omega
    · have HV : Hid (l.all (Sc.known y.known) = true) := by show _ = _; rw [HAL.out, List.drop_of_length_le (by omega)]; rfl
      go_wp2_with fail
      go_ret
      exact ⟨-1, rfl, by rw [HV.out]; rfl, HB.out⟩
set_option maxRecDepth 100000 in
set_option maxHeartbeats 1000000 in
theorem containsT_any (l : List Sc.Term) (v : Value) (X : Nat) (y : Ru.Way) (w : World) (hT : PTermsV w v l) (hl : l.length ≤ 1000000) (hW : WayAt w X y) (hy : Ru.Wf 8 y) (hI : Ru.TermsIn 8 l) :
    Calls Tryz.prog 211 #[v, .func (.func 212) #[] #[.pointer (some ⟨X, 0, none⟩)]] w fun e w' => e = .returned (.bool (!l.all (Sc.known y.known))) ∧ Below w.heap.size w w' := by
  have HI : Hid _ := indexT_any l v X y w hT hl hW hy hI
  obtain ⟨ao, cap, rfl, _, _⟩ := hT
  clear hW hI
  go_enter Tryz.func211, Tryz.ntmps211
  go_wp2_with fail
  refine Calls.mono HI.out ?_
  rintro e w1 ⟨r, rfl, hr, hb⟩
  go_wp2_with fail
  go_ret
  exact ⟨by rw [← hr]; rfl, hb⟩
def readyTvT (y : Ru.Way) (X b off ct : Nat) (t0 t1 : Sc.Term) : Nat → Value
  | 11 => wayVal y
  | 12 => .pointer (some ⟨X, 3, none⟩)
  | 13 => .slice (some ⟨b, off, none⟩) 3 ct
  | 14 => .pointer (some ⟨b, off, none⟩)
  | 15 => ptermVal t0
  | 16 => .bool true
  | 17 => .bool true
  | 18 => wayVal y
  | 19 => .pointer (some ⟨X, 3, none⟩)
  | 20 => .slice (some ⟨b, off, none⟩) 3 ct
  | 21 => .pointer (some ⟨b, off + 2, none⟩)
  | 22 => ptermVal t1
  | 23 => .bool (Sc.known y.known t1)
  | 24 => .bool (Sc.known y.known t1)
  | 4 => .bool (Sc.known y.known t1)
  | _ => .bool false

def readyTvF (y : Ru.Way) (X b off ct : Nat) (t0 : Sc.Term) : Nat → Value
  | 11 => wayVal y
  | 12 => .pointer (some ⟨X, 3, none⟩)
  | 13 => .slice (some ⟨b, off, none⟩) 3 ct
  | 14 => .pointer (some ⟨b, off, none⟩)
  | 15 => ptermVal t0
  | 16 => .bool false
  | 17 => .bool false
  | 18 => undef
  | 19 => undef
  | 20 => undef
  | 21 => undef
  | 22 => undef
  | 23 => undef
  | 24 => .bool false
  | 4 => .bool false
  | _ => .bool false

set_option maxRecDepth 100000 in
set_option maxHeartbeats 1000000 in
theorem ready_any (l : Sc.Lit) (vt : Value) (y : Ru.Way) (w : World) (hT : PTermsV w vt l.terms) (hy : Ru.Wf 8 y) (hI : Ru.TermsIn 8 l.terms) (h4 : l.kind = 4 → l.terms.length = 3) (hl : l.terms.length ≤ 1000000) :
    Calls Tryz.prog 181 #[plitVal l vt, wayVal y] w fun e w' => e = .returned (.bool (Ru.ready y l)) ∧ Below w.heap.size w w' := by
  have hmf : ∀ (fn : Fn) (first cap : Array Value) (w : World), (Instr.makeFunc fn first cap).run Tryz.prog w = .ok (.func fn first cap) w := fun _ _ _ _ => rfl
  have HT : Hid _ := hT
  obtain ⟨at_, ct, rfl, _⟩ := id hT
  obtain ⟨kd, op, pd, ts⟩ := l
  dsimp only at *
  obtain ⟨h0, h1, hb⟩ := ru_two w (.cells #[.int .i64 kd, .int .i64 op, .int .i64 pd, .slice at_ ts.length ct] 49) (.cells (wayArr y) 138)
  have HL : Hid _ := h0
  have HW : Hid (WayAt ((w.alloc (.cells #[.int .i64 kd, .int .i64 op, .int .i64 pd, .slice at_ ts.length ct] 49)).alloc (.cells (wayArr y) 138)) (w.heap.size + 1) y) := h1
  have HB : Hid _ := hb
  have HI : Hid _ := hI
  have HTq : Hid _ := ptermsV_below hT hb
  clear h0 h1 hb hT hI
  by_cases hk1 : kd = 1
  · have HV : Hid (Ru.ready y ⟨kd, op, pd, ts⟩ = true) := by show _ = _; unfold Ru.ready; rw [if_pos hk1]
    have g1 : (kd == 1) = true := by simpa using hk1
    clear h4 hk1
    have d0 : ((w.alloc (.cells #[.int .i64 kd, .int .i64 op, .int .i64 pd, .slice at_ ts.length ct] 49)).alloc (.cells (wayArr y) 138)).cell? ⟨w.heap.size, 0, none⟩ = some (.int .i64 kd) := by rw [Lib.cell_of_heap HL.out]; rfl
    go_enter Tryz.func181, Tryz.ntmps181
    go_wp2_with fail
    go_ret
    exact ⟨by rw [HV.out]; rfl, HB.out⟩
  · have g1 : (kd == 1) = false := by simpa using hk1
    by_cases hk4 : kd = 4
    · have g4 : (kd == 4) = true := by simpa using hk4
      have h3 := h4 hk4
      have hV0 : Ru.ready y ⟨kd, op, pd, ts⟩ = (Sc.known y.known (Sc.termD ts 0) && Sc.known y.known (Sc.termD ts 1)) := by unfold Ru.ready; rw [if_neg hk1, if_pos hk4]
      obtain ⟨b, off, rfl, hc⟩ := pterms_at (by obtain ⟨_, _, e, _, hA⟩ := HTq.out; injection e with e _ _; subst e; exact hA) 0 (by omega)
      have hc0 := hc 0 (by omega)
      have hc1 := hc 1 (by omega)
      have HT0 : Hid (Ru.TermIn 8 (Sc.termD ts 0)) := HI.out _ (Ru.termD_mem (by omega))
      have HT1 : Hid (Ru.TermIn 8 (Sc.termD ts 1)) := HI.out _ (Ru.termD_mem (by omega))
      obtain ⟨p0, p1⟩ := hc0
      obtain ⟨p2, p3⟩ := hc1
      clear hc h4 hk1 hk4
      have d0 : ((w.alloc (.cells #[.int .i64 kd, .int .i64 op, .int .i64 pd, .slice (some ⟨b, off, none⟩) ts.length ct] 49)).alloc (.cells (wayArr y) 138)).cell? ⟨w.heap.size, 0, none⟩ = some (.int .i64 kd) := by rw [Lib.cell_of_heap HL.out]; rfl
      have d3 : ((w.alloc (.cells #[.int .i64 kd, .int .i64 op, .int .i64 pd, .slice (some ⟨b, off, none⟩) ts.length ct] 49)).alloc (.cells (wayArr y) 138)).cell? ⟨w.heap.size, 3, none⟩ = some (.slice (some ⟨b, off, none⟩) ts.length ct) := by rw [Lib.cell_of_heap HL.out]; rfl
      generalize Sc.termD ts 0 = t0 at *
      generalize Sc.termD ts 1 = t1 at *
      clear HT HTq HL HI
      rw [Nat.zero_mul, Nat.add_zero] at p0 p1
      rw [Nat.one_mul] at p2 p3
      generalize ts.length = nl at *
      subst h3
      go_enter Tryz.func181, Tryz.ntmps181
      go_upto_region 5 with fail
      generalize (w.alloc (.cells #[.int .i64 kd, .int .i64 op, .int .i64 pd, .slice (some ⟨b, off, none⟩) 3 ct] 49)).alloc (.cells (wayArr y) 138) = w1 at *
      cases hk : Sc.known y.known t0
      · have HK : Hid _ := hk
        have HV : Hid (Ru.ready y ⟨kd, op, pd, ts⟩ = false) := by show _ = _; rw [hV0, hk]; rfl
        clear hk hV0
        refine wp_region_tabA (fun tQ vQ _ => vQ = readyTvF y w.heap.size b off ct t0 tQ) (by kernel_rfl) (by kernel_rfl) (fun _ _ _ _ _ h => h) ?hop ?hend
        case hop =>
          refine AllOps.cons (fun a y_ h => ?_) ?_
          · have e3 : a.eval (.tmp 3) = (.pointer (some ⟨w.heap.size + 1, 0, none⟩) : Value) := h.old 3 (by kernel_rfl)
            refine opOk_val (v := wayVal y) (w' := y_) (wanted_none rfl) ?_ (fun t ht => by cases ht; exact rfl) (Below.refl _ _)
            exact load_way rfl e3 (HW.out.below h.below) hy
          refine AllOps.cons (fun a y_ h => ?_) ?_
          · have e2 : a.eval (.tmp 2) = (.pointer (some ⟨w.heap.size, 0, none⟩) : Value) := h.old 2 (by kernel_rfl)
            refine opOk_val (v := .pointer (some ⟨w.heap.size, 3, none⟩)) (w' := y_) (wanted_none rfl) ?_ (fun t ht => by cases ht; exact rfl) (Below.refl _ _)
            have ec : ∀ v, a.eval (.const v) = v := fun _ => rfl
            generalize a.eval = ev at *
            clear h
            go_simp
          refine AllOps.cons (fun a y_ h => ?_) ?_
          · have e12 : a.eval (.tmp 12) = (.pointer (some ⟨w.heap.size, 3, none⟩) : Value) := h.of 12 (by kernel_rfl)
            have c3 := cell_below h.below d3
            refine opOk_val (v := .slice (some ⟨b, off, none⟩) 3 ct) (w' := y_) (wanted_none rfl) ?_ (fun t ht => by cases ht; exact rfl) (Below.refl _ _)
            have ec : ∀ v, a.eval (.const v) = v := fun _ => rfl
            generalize a.eval = ev at *
            clear h
            go_simp
          refine AllOps.cons (fun a y_ h => ?_) ?_
          · have e13 : a.eval (.tmp 13) = (.slice (some ⟨b, off, none⟩) 3 ct : Value) := h.of 13 (by kernel_rfl)
            refine opOk_val (v := .pointer (some ⟨b, off, none⟩)) (w' := y_) (wanted_none rfl) ?_ (fun t ht => by cases ht; exact rfl) (Below.refl _ _)
            have ec : ∀ v, a.eval (.const v) = v := fun _ => rfl
            generalize a.eval = ev at *
            clear h
            go_simp
          refine AllOps.cons (fun a y_ h => ?_) ?_
          · have e14 : a.eval (.tmp 14) = (.pointer (some ⟨b, off, none⟩) : Value) := h.of 14 (by kernel_rfl)
            have c0 := cell_below h.below p0
            have c1 := cell_below h.below p1
            refine opOk_val (v := ptermVal t0) (w' := y_) (wanted_none rfl) ?_ (fun t ht => by cases ht; exact rfl) (Below.refl _ _)
            have ec : ∀ v, a.eval (.const v) = v := fun _ => rfl
            generalize a.eval = ev at *
            clear h
            go_simp
          refine AllOps.cons (fun a y_ h => ?_) ?_
          · have e11 : a.eval (.tmp 11) = (wayVal y : Value) := h.of 11 (by kernel_rfl)
            have e15 : a.eval (.tmp 15) = (ptermVal t0 : Value) := h.of 15 (by kernel_rfl)
            refine opOk_call (f := 210) (args := #[wayVal y, ptermVal t0]) (wanted_none rfl) ?_ ?_
            · have ec : ∀ v, a.eval (.const v) = v := fun _ => rfl
              have ef : ∀ f, a.eval (.func f) = .func (.func f) #[] #[] := fun _ => rfl
              generalize a.eval = ev at *
              clear h
              go_simp
            · refine Calls.mono (knows_any y t0 y_ hy HT0.out) ?_
              rintro _ y2 ⟨rfl, hb2⟩
              exact ⟨_, rfl, fun t ht => by cases ht; exact congrArg Value.bool HK.out, hb2⟩
          refine AllOps.cons (fun a y_ h => ?_) ?_
          · have e16 : a.eval (.tmp 16) = (.bool false : Value) := h.of 16 (by kernel_rfl)
            refine opOk_val (v := .bool false) (w' := y_) (wanted_none rfl) ?_ (fun t ht => by cases ht; exact rfl) (Below.refl _ _)
            have ec : ∀ v, a.eval (.const v) = v := fun _ => rfl
            generalize a.eval = ev at *
            clear h
            go_simp
          refine AllOps.cons (fun a y_ h => ?_) ?_
          · exact opOk_skip (j := 6) (t := 17) (b := true) (c := false) rfl rfl rfl (h.of 17 (by kernel_rfl)) (by decide) (fun t ht => by cases ht; exact rfl)
          refine AllOps.cons (fun a y_ h => ?_) ?_
          · exact opOk_skip (j := 6) (t := 17) (b := true) (c := false) rfl rfl rfl (h.of 17 (by kernel_rfl)) (by decide) (fun t ht => by cases ht; exact rfl)
          refine AllOps.cons (fun a y_ h => ?_) ?_
          · exact opOk_skip (j := 6) (t := 17) (b := true) (c := false) rfl rfl rfl (h.of 17 (by kernel_rfl)) (by decide) (fun t ht => by cases ht; exact rfl)
          refine AllOps.cons (fun a y_ h => ?_) ?_
          · exact opOk_skip (j := 6) (t := 17) (b := true) (c := false) rfl rfl rfl (h.of 17 (by kernel_rfl)) (by decide) (fun t ht => by cases ht; exact rfl)
          refine AllOps.cons (fun a y_ h => ?_) ?_
          · exact opOk_skip (j := 6) (t := 17) (b := true) (c := false) rfl rfl rfl (h.of 17 (by kernel_rfl)) (by decide) (fun t ht => by cases ht; exact rfl)
          refine AllOps.cons (fun a y_ h => ?_) ?_
          · exact opOk_skip (j := 6) (t := 17) (b := true) (c := false) rfl rfl rfl (h.of 17 (by kernel_rfl)) (by decide) (fun t ht => by cases ht; exact rfl)
          refine AllOps.cons (fun a y_ h => ?_) ?_
          · have e17 : a.eval (.tmp 17) = (.bool false : Value) := h.of 17 (by kernel_rfl)
            have e23 : a.eval (.tmp 23) = (undef : Value) := h.of 23 (by kernel_rfl)
            refine opOk_val (v := .bool false) (w' := y_) (wanted_none rfl) ?_ (fun t ht => by cases ht; exact rfl) (Below.refl _ _)
            have ec : ∀ v, a.eval (.const v) = v := fun _ => rfl
            generalize a.eval = ev at *
            clear h
            go_simp
          refine AllOps.cons (fun a y_ h => ?_) ?_
          · have e24 : a.eval (.tmp 24) = (.bool false : Value) := h.of 24 (by kernel_rfl)
            refine opOk_val (v := .bool false) (w' := y_) (wanted_none rfl) ?_ (fun t ht => by cases ht; exact rfl) (Below.refl _ _)
            have ec : ∀ v, a.eval (.const v) = v := fun _ => rfl
            generalize a.eval = ev at *
            clear h
            go_simp
          exact AllOps.nil
        case hend =>
          rintro ⟨tm, df⟩ wE hbE hdE hsE hstE hTE
          have h4 : tm.getD 4 undef = .bool false := ends_at (T := fun tQ vQ _ => vQ = readyTvF y w.heap.size b off ct t0 tQ) (w := wE) (a := ⟨tm, df⟩) (t := 4) hTE (by kernel_rfl)
          obtain rfl : df = [] := hdE
          have hFE := tmps_fold [11, 12, 13, 14, 15, 16, 17, 18, 19, 20, 21, 22, 23, 24, 4] tm _ hsE hstE
          clear hsE hstE hTE
          simp only [List.foldl_cons, List.foldl_nil, h4] at hFE
          clear h4
          generalize tm.getD 11 undef = x11 at hFE
          generalize tm.getD 12 undef = x12 at hFE
          generalize tm.getD 13 undef = x13 at hFE
          generalize tm.getD 14 undef = x14 at hFE
          generalize tm.getD 15 undef = x15 at hFE
          generalize tm.getD 16 undef = x16 at hFE
          generalize tm.getD 17 undef = x17 at hFE
          generalize tm.getD 18 undef = x18 at hFE
          generalize tm.getD 19 undef = x19 at hFE
          generalize tm.getD 20 undef = x20 at hFE
          generalize tm.getD 21 undef = x21 at hFE
          generalize tm.getD 22 undef = x22 at hFE
          generalize tm.getD 23 undef = x23 at hFE
          generalize tm.getD 24 undef = x24 at hFE
          simp only [List.setIfInBounds_toArray, List.set_cons_zero, List.set_cons_succ] at hFE
          subst hFE
          go_wp2_with fail
          go_ret
          exact ⟨by rw [HV.out]; rfl, HB.out.trans (hbE.mono HB.out.size)⟩
      · have HK : Hid _ := hk
        have HV : Hid (Ru.ready y ⟨kd, op, pd, ts⟩ = Sc.known y.known t1) := by show _ = _; rw [hV0, hk]; rfl
        clear hk hV0
        refine wp_region_tabA (fun tQ vQ _ => vQ = readyTvT y w.heap.size b off ct t0 t1 tQ) (by kernel_rfl) (by kernel_rfl) (fun _ _ _ _ _ h => h) ?hop ?hend
        case hop =>
          refine AllOps.cons (fun a y_ h => ?_) ?_
          · have e3 : a.eval (.tmp 3) = (.pointer (some ⟨w.heap.size + 1, 0, none⟩) : Value) := h.old 3 (by kernel_rfl)
            refine opOk_val (v := wayVal y) (w' := y_) (wanted_none rfl) ?_ (fun t ht => by cases ht; exact rfl) (Below.refl _ _)
            exact load_way rfl e3 (HW.out.below h.below) hy
          refine AllOps.cons (fun a y_ h => ?_) ?_
          · have e2 : a.eval (.tmp 2) = (.pointer (some ⟨w.heap.size, 0, none⟩) : Value) := h.old 2 (by kernel_rfl)
            refine opOk_val (v := .pointer (some ⟨w.heap.size, 3, none⟩)) (w' := y_) (wanted_none rfl) ?_ (fun t ht => by cases ht; exact rfl) (Below.refl _ _)
            have ec : ∀ v, a.eval (.const v) = v := fun _ => rfl
            generalize a.eval = ev at *
            clear h
            go_simp
          refine AllOps.cons (fun a y_ h => ?_) ?_
          · have e12 : a.eval (.tmp 12) = (.pointer (some ⟨w.heap.size, 3, none⟩) : Value) := h.of 12 (by kernel_rfl)
            have c3 := cell_below h.below d3
            refine opOk_val (v := .slice (some ⟨b, off, none⟩) 3 ct) (w' := y_) (wanted_none rfl) ?_ (fun t ht => by cases ht; exact rfl) (Below.refl _ _)
            have ec : ∀ v, a.eval (.const v) = v := fun _ => rfl
            generalize a.eval = ev at *
            clear h
            go_simp
          refine AllOps.cons (fun a y_ h => ?_) ?_
          · have e13 : a.eval (.tmp 13) = (.slice (some ⟨b, off, none⟩) 3 ct : Value) := h.of 13 (by kernel_rfl)
            refine opOk_val (v := .pointer (some ⟨b, off, none⟩)) (w' := y_) (wanted_none rfl) ?_ (fun t ht => by cases ht; exact rfl) (Below.refl _ _)
            have ec : ∀ v, a.eval (.const v) = v := fun _ => rfl
            generalize a.eval = ev at *
            clear h
            go_simp
          refine AllOps.cons (fun a y_ h => ?_) ?_
          · have e14 : a.eval (.tmp 14) = (.pointer (some ⟨b, off, none⟩) : Value) := h.of 14 (by kernel_rfl)
            have c0 := cell_below h.below p0
            have c1 := cell_below h.below p1
            refine opOk_val (v := ptermVal t0) (w' := y_) (wanted_none rfl) ?_ (fun t ht => by cases ht; exact rfl) (Below.refl _ _)
            have ec : ∀ v, a.eval (.const v) = v := fun _ => rfl
            generalize a.eval = ev at *
            clear h
            go_simp
          refine AllOps.cons (fun a y_ h => ?_) ?_
          · have e11 : a.eval (.tmp 11) = (wayVal y : Value) := h.of 11 (by kernel_rfl)
            have e15 : a.eval (.tmp 15) = (ptermVal t0 : Value) := h.of 15 (by kernel_rfl)
            refine opOk_call (f := 210) (args := #[wayVal y, ptermVal t0]) (wanted_none rfl) ?_ ?_
            · have ec : ∀ v, a.eval (.const v) = v := fun _ => rfl
              have ef : ∀ f, a.eval (.func f) = .func (.func f) #[] #[] := fun _ => rfl
              generalize a.eval = ev at *
              clear h
              go_simp
            · refine Calls.mono (knows_any y t0 y_ hy HT0.out) ?_
              rintro _ y2 ⟨rfl, hb2⟩
              exact ⟨_, rfl, fun t ht => by cases ht; exact congrArg Value.bool HK.out, hb2⟩
          refine AllOps.cons (fun a y_ h => ?_) ?_
          · have e16 : a.eval (.tmp 16) = (.bool true : Value) := h.of 16 (by kernel_rfl)
            refine opOk_val (v := .bool true) (w' := y_) (wanted_none rfl) ?_ (fun t ht => by cases ht; exact rfl) (Below.refl _ _)
            have ec : ∀ v, a.eval (.const v) = v := fun _ => rfl
            generalize a.eval = ev at *
            clear h
            go_simp
          refine AllOps.cons (fun a y_ h => ?_) ?_
          · have e3 : a.eval (.tmp 3) = (.pointer (some ⟨w.heap.size + 1, 0, none⟩) : Value) := h.old 3 (by kernel_rfl)
            refine opOk_val (v := wayVal y) (w' := y_) (wanted_some (j := 6) (t := 17) (b := true) rfl rfl rfl (h.of 17 (by kernel_rfl))) ?_ (fun t ht => by cases ht; exact rfl) (Below.refl _ _)
            exact load_way rfl e3 (HW.out.below h.below) hy
          refine AllOps.cons (fun a y_ h => ?_) ?_
          · have e2 : a.eval (.tmp 2) = (.pointer (some ⟨w.heap.size, 0, none⟩) : Value) := h.old 2 (by kernel_rfl)
            refine opOk_val (v := .pointer (some ⟨w.heap.size, 3, none⟩)) (w' := y_) (wanted_some (j := 6) (t := 17) (b := true) rfl rfl rfl (h.of 17 (by kernel_rfl))) ?_ (fun t ht => by cases ht; exact rfl) (Below.refl _ _)
            have ec : ∀ v, a.eval (.const v) = v := fun _ => rfl
            generalize a.eval = ev at *
            clear h
            go_simp
          refine AllOps.cons (fun a y_ h => ?_) ?_
          · have e19 : a.eval (.tmp 19) = (.pointer (some ⟨w.heap.size, 3, none⟩) : Value) := h.of 19 (by kernel_rfl)
            have c3 := cell_below h.below d3
            refine opOk_val (v := .slice (some ⟨b, off, none⟩) 3 ct) (w' := y_) (wanted_some (j := 6) (t := 17) (b := true) rfl rfl rfl (h.of 17 (by kernel_rfl))) ?_ (fun t ht => by cases ht; exact rfl) (Below.refl _ _)
            have ec : ∀ v, a.eval (.const v) = v := fun _ => rfl
            generalize a.eval = ev at *
            clear h
            go_simp
          refine AllOps.cons (fun a y_ h => ?_) ?_
          · have e20 : a.eval (.tmp 20) = (.slice (some ⟨b, off, none⟩) 3 ct : Value) := h.of 20 (by kernel_rfl)
            refine opOk_val (v := .pointer (some ⟨b, off + 2, none⟩)) (w' := y_) (wanted_some (j := 6) (t := 17) (b := true) rfl rfl rfl (h.of 17 (by kernel_rfl))) ?_ (fun t ht => by cases ht; exact rfl) (Below.refl _ _)
            have ec : ∀ v, a.eval (.const v) = v := fun _ => rfl
            generalize a.eval = ev at *
            clear h
            go_simp
          refine AllOps.cons (fun a y_ h => ?_) ?_
          · have e21 : a.eval (.tmp 21) = (.pointer (some ⟨b, off + 2, none⟩) : Value) := h.of 21 (by kernel_rfl)
            have c0 := cell_below h.below p2
            have c1 := cell_below h.below p3
            refine opOk_val (v := ptermVal t1) (w' := y_) (wanted_some (j := 6) (t := 17) (b := true) rfl rfl rfl (h.of 17 (by kernel_rfl))) ?_ (fun t ht => by cases ht; exact rfl) (Below.refl _ _)
            have ec : ∀ v, a.eval (.const v) = v := fun _ => rfl
            generalize a.eval = ev at *
            clear h
            go_simp
          refine AllOps.cons (fun a y_ h => ?_) ?_
          · have e18 : a.eval (.tmp 18) = (wayVal y : Value) := h.of 18 (by kernel_rfl)
            have e22 : a.eval (.tmp 22) = (ptermVal t1 : Value) := h.of 22 (by kernel_rfl)
            refine opOk_call (f := 210) (args := #[wayVal y, ptermVal t1]) (wanted_some (j := 6) (t := 17) (b := true) rfl rfl rfl (h.of 17 (by kernel_rfl))) ?_ ?_
            · have ec : ∀ v, a.eval (.const v) = v := fun _ => rfl
              have ef : ∀ f, a.eval (.func f) = .func (.func f) #[] #[] := fun _ => rfl
              generalize a.eval = ev at *
              clear h
              go_simp
            · refine Calls.mono (knows_any y t1 y_ hy HT1.out) ?_
              rintro _ y2 ⟨rfl, hb2⟩
              exact ⟨_, rfl, fun t ht => by cases ht; exact rfl, hb2⟩
          refine AllOps.cons (fun a y_ h => ?_) ?_
          · have e17 : a.eval (.tmp 17) = (.bool true : Value) := h.of 17 (by kernel_rfl)
            have e23 : a.eval (.tmp 23) = (.bool (Sc.known y.known t1) : Value) := h.of 23 (by kernel_rfl)
            refine opOk_val (v := .bool (Sc.known y.known t1)) (w' := y_) (wanted_none rfl) ?_ (fun t ht => by cases ht; exact rfl) (Below.refl _ _)
            have ec : ∀ v, a.eval (.const v) = v := fun _ => rfl
            generalize a.eval = ev at *
            clear h
            go_simp
          refine AllOps.cons (fun a y_ h => ?_) ?_
          · have e24 : a.eval (.tmp 24) = (.bool (Sc.known y.known t1) : Value) := h.of 24 (by kernel_rfl)
            refine opOk_val (v := .bool (Sc.known y.known t1)) (w' := y_) (wanted_none rfl) ?_ (fun t ht => by cases ht; exact rfl) (Below.refl _ _)
            have ec : ∀ v, a.eval (.const v) = v := fun _ => rfl
            generalize a.eval = ev at *
            clear h
            go_simp
          exact AllOps.nil
        case hend =>
          rintro ⟨tm, df⟩ wE hbE hdE hsE hstE hTE
          have h4 : tm.getD 4 undef = .bool (Sc.known y.known t1) := ends_at (T := fun tQ vQ _ => vQ = readyTvT y w.heap.size b off ct t0 t1 tQ) (w := wE) (a := ⟨tm, df⟩) (t := 4) hTE (by kernel_rfl)
          obtain rfl : df = [] := hdE
          have hFE := tmps_fold [11, 12, 13, 14, 15, 16, 17, 18, 19, 20, 21, 22, 23, 24, 4] tm _ hsE hstE
          clear hsE hstE hTE
          simp only [List.foldl_cons, List.foldl_nil, h4] at hFE
          clear h4
          generalize tm.getD 11 undef = x11 at hFE
          generalize tm.getD 12 undef = x12 at hFE
          generalize tm.getD 13 undef = x13 at hFE
          generalize tm.getD 14 undef = x14 at hFE
          generalize tm.getD 15 undef = x15 at hFE
          generalize tm.getD 16 undef = x16 at hFE
          generalize tm.getD 17 undef = x17 at hFE
          generalize tm.getD 18 undef = x18 at hFE
          generalize tm.getD 19 undef = x19 at hFE
          generalize tm.getD 20 undef = x20 at hFE
          generalize tm.getD 21 undef = x21 at hFE
          generalize tm.getD 22 undef = x22 at hFE
          generalize tm.getD 23 undef = x23 at hFE
          generalize tm.getD 24 undef = x24 at hFE
          simp only [List.setIfInBounds_toArray, List.set_cons_zero, List.set_cons_succ] at hFE
          subst hFE
          go_wp2_with fail
          go_ret
          exact ⟨by rw [HV.out]; rfl, HB.out.trans (hbE.mono HB.out.size)⟩
    · have g4 : (kd == 4) = false := by simpa using hk4
      have HV : Hid (Ru.ready y ⟨kd, op, pd, ts⟩ = ts.all (Sc.known y.known)) := by show _ = _; unfold Ru.ready; rw [if_neg hk1, if_neg hk4]
      have d0 : ((w.alloc (.cells #[.int .i64 kd, .int .i64 op, .int .i64 pd, .slice at_ ts.length ct] 49)).alloc (.cells (wayArr y) 138)).cell? ⟨w.heap.size, 0, none⟩ = some (.int .i64 kd) := by rw [Lib.cell_of_heap HL.out]; rfl
      have d3 : ((w.alloc (.cells #[.int .i64 kd, .int .i64 op, .int .i64 pd, .slice at_ ts.length ct] 49)).alloc (.cells (wayArr y) 138)).cell? ⟨w.heap.size, 3, none⟩ = some (.slice at_ ts.length ct) := by rw [Lib.cell_of_heap HL.out]; rfl
      clear hk1 hk4 h4
      go_enter Tryz.func181, Tryz.ntmps181
      go_upto_region 6 with fail
      generalize (w.alloc (.cells #[.int .i64 kd, .int .i64 op, .int .i64 pd, .slice at_ ts.length ct] 49)).alloc (.cells (wayArr y) 138) = w1 at *
      go_wp2_with fail
      refine Calls.mono (containsT_any ts _ (w.heap.size + 1) y w1 HTq.out hl HW.out hy HI.out) ?_
      rintro _ w2 ⟨rfl, hb2⟩
      have HB2 : Hid _ := HB.out.trans (hb2.mono HB.out.size)
      clear hb2 d0 d3
      go_wp2_with fail
      go_ret
      exact ⟨by rw [HV.out]; simp, HB2.out⟩
end Go.Proofs.YthenjegmigeieaaGreat

/- Package rule: with: the way on from one on which terms are numbers. -/
namespace Go.Proofs.YthenjegmigeieaaGreat
open Go.RowKit

theorem WayAt.setKn {w : World} {b : Nat} {y : Ru.Way} (h : WayAt w b y) (hy : Ru.Wf 8 y) (i : Nat) : WayAt (w.setCell ⟨b, 8 + i, none⟩ (.bool true)) b ⟨y.nums, y.known.set i true⟩ := by
  unfold WayAt at h ⊢
  rw [Lib.heap_setCell_same h]
  congr 2
  unfold wayArr
  have h1 : (y.nums.map (Value.int .i64)).length = 8 := by rw [List.length_map, hy.n]
  rw [List.setIfInBounds_toArray, List.set_append_right _ _ (by omega), h1, Nat.add_sub_cancel_left, List.map_set]
theorem WayAt.setNum {w : World} {b : Nat} {y : Ru.Way} (h : WayAt w b y) (hy : Ru.Wf 8 y) {i : Nat} (hi : i < 8) (n : Int) : WayAt (w.setCell ⟨b, i, none⟩ (.int .i64 n)) b ⟨y.nums.set i n, y.known⟩ := by
  unfold WayAt at h ⊢
  rw [Lib.heap_setCell_same h]
  congr 2
  unfold wayArr
  have h1 : (y.nums.map (Value.int .i64)).length = 8 := by rw [List.length_map, hy.n]
  rw [List.setIfInBounds_toArray, List.set_append_left _ _ (by omega), List.map_set]

namespace Ru
def withO (y : Way) (ts : List Sc.Term) (ns : List Int) : Way := (withW y ts ns).getD way0
theorem with1_yes {y : Way} {t : Sc.Term} {n : Int} (hk : Sc.known y.known t = true) (h : num y.nums t = n) : with1 y t n = some y := by unfold with1; rw [if_pos hk, if_pos h]
theorem with1_no {y : Way} {t : Sc.Term} {n : Int} (hk : Sc.known y.known t = true) (h : ¬ num y.nums t = n) : with1 y t n = none := by unfold with1; rw [if_pos hk, if_neg h]
theorem with1_new {y : Way} {t : Sc.Term} {n : Int} (hk : Sc.known y.known t = false) : with1 y t n = some ⟨y.nums.set t.var.toNat n, y.known.set t.var.toNat true⟩ := by unfold with1; rw [if_neg (by rw [hk]; decide)]
theorem withW_drop (y : Way) (ts : List Sc.Term) (ns : List Int) (k : Nat) (h : k < ts.length) : withW y (ts.drop k) (ns.drop k) = match with1 y (Sc.termD ts k) (Sc.intD ns k) with | none => none | some y' => withW y' (ts.drop (k + 1)) (ns.drop (k + 1)) := by
  rw [List.drop_eq_getElem_cons h]
  have e1 : Sc.termD ts k = ts[k] := by unfold Sc.termD; rw [List.getD_eq_getElem?_getD, List.getElem?_eq_getElem h]; rfl
  have e2 : (ns.drop k).headD 0 = Sc.intD ns k := by
    unfold Sc.intD
    rw [List.headD_eq_head?_getD, List.head?_drop, List.getD_eq_getElem?_getD]
  have e3 : (ns.drop k).tail = ns.drop (k + 1) := by rw [List.tail_drop]
  show (match with1 y ts[k] ((ns.drop k).headD 0) with | none => none | some w' => withW w' (ts.drop (k + 1)) (ns.drop k).tail) = _
  rw [e1, e2, e3]
theorem withW_end (y : Way) (ts : List Sc.Term) (ns : List Int) : withW y (ts.drop ts.length) ns = some y := by rw [List.drop_length]; rfl
end Ru
/-- The loop: the way so far in its box, the answer's box as it was made. -/
structure WIn (w wr : World) (y : Ru.Way) : Prop where
  box : WayAt wr w.heap.size y
  res : WayAt wr (w.heap.size + 1) Ru.way0
  bel : Below w.heap.size w wr
  wf : Ru.Wf 8 y
theorem WIn.below {w wr wx : World} {y : Ru.Way} (h : WIn w wr y) (hb : Below wr.heap.size wr wx) : WIn w wx y :=
  ⟨h.box.below hb, h.res.below hb, h.bel.trans (hb.mono h.bel.size), h.wf⟩
theorem WIn.set {w wr : World} {y : Ru.Way} (h : WIn w wr y) {i : Nat} (hi : i < 8) (n : Int) : WIn w ((wr.setCell ⟨w.heap.size, 8 + i, none⟩ (.bool true)).setCell ⟨w.heap.size, i, none⟩ (.int .i64 n)) ⟨y.nums.set i n, y.known.set i true⟩ := by
  have h1 := h.box.setKn h.wf i
  have h2 := WayAt.setNum h1 ⟨h.wf.n, by simpa using h.wf.k⟩ hi n
  refine ⟨h2, ?_, ?_, ⟨by simpa using h.wf.n, by simpa using h.wf.k⟩⟩
  · unfold WayAt
    rw [heap_set_other (by omega), heap_set_other (by omega)]
    exact h.res
  · exact (h.bel.setCell (Nat.le_refl _) _).setCell (Nat.le_refl _) _

def withTv (z : Ru.Way) (t : Sc.Term) (bn on nl cn k : Nat) (n : Int) : Nat → Value
  | 33 => wayVal z
  | 34 => .agg #[.int .i64 t.var, .int .i64 t.n]
  | 35 => .int .i64 (Ru.num z.nums t)
  | 36 => .slice (some ⟨bn, on, none⟩) nl cn
  | 37 => .int .i64 k
  | 38 => .pointer (some ⟨bn, on + k, none⟩)
  | 39 => .int .i64 n
  | 40 => .bool (Ru.num z.nums t != n)
  | _ => .bool false

set_option maxRecDepth 100000 in
set_option maxHeartbeats 2000000 in
theorem with_any (y : Ru.Way) (ts : List Sc.Term) (ns : List Int) (vt vn : Value) (w : World) (hy : Ru.Wf 8 y) (hT : PTermsV w vt ts) (hN : IntsV w vn ns) (hl : ts.length = ns.length) (h3 : ts.length ≤ 1000) (hI : Ru.TermsIn 8 ts) :
    Calls Tryz.prog 189 #[wayVal y, vt, vn] w fun e w' => e = .returned (.tuple #[wayVal (Ru.withO y ts ns), .bool (Ru.withW y ts ns).isSome]) ∧ Below w.heap.size w w' := by
  obtain ⟨at_, ct, rfl, _, hT⟩ := hT
  obtain ⟨an, cn, rfl, hN⟩ := hN
  obtain ⟨h0, h1, hb⟩ := ru_two w (.cells (wayArr y) 138) (.cells #[.int .i64 0, .int .i64 0, .int .i64 0, .int .i64 0, .int .i64 0, .int .i64 0, .int .i64 0, .int .i64 0, .bool false, .bool false, .bool false, .bool false, .bool false, .bool false, .bool false, .bool false] 138)
  have HI : Hid (WIn w ((w.alloc (.cells (wayArr y) 138)).alloc (.cells #[.int .i64 0, .int .i64 0, .int .i64 0, .int .i64 0, .int .i64 0, .int .i64 0, .int .i64 0, .int .i64 0, .bool false, .bool false, .bool false, .bool false, .bool false, .bool false, .bool false, .bool false] 138)) y) := ⟨h0, h1, hb, hy⟩
  have HT : Hid _ := hT
  have HN : Hid _ := hN
  have HL : Hid _ := hl
  have HTI : Hid _ := hI
  clear h0 h1 hb hT hN hl hy hI
  go_enter Tryz.func189, Tryz.ntmps189
  go_wp2_with fail
  generalize (w.alloc (.cells (wayArr y) 138)).alloc (.cells #[.int .i64 0, .int .i64 0, .int .i64 0, .int .i64 0, .int .i64 0, .int .i64 0, .int .i64 0, .int .i64 0, .bool false, .bool false, .bool false, .bool false, .bool false, .bool false, .bool false, .bool false] 138) = w1 at *
  go_loopw [12] (fun i12 wr => ∃ (k : Nat) (y' : Ru.Way), k ≤ ts.length ∧ i12 = .int .i64 k ∧ Hid (WIn w wr y') ∧ Hid (Ru.withW y ts ns = Ru.withW y' (ts.drop k) (ns.drop k))) (fun i12 _ => ts.length - (intOf i12).toNat)
  case atStart => exact ⟨0, y, Nat.zero_le _, rfl, HI.out, rfl⟩
  case round =>
    clear HI
    obtain ⟨k, yy, hk, rfl, HW, HE⟩ := hrel
    by_cases hkl : k < ts.length
    · obtain ⟨b, off, rfl, hc⟩ := pterms_at HT.out k hkl
      have hc := hc k hkl
      obtain ⟨bn, on, rfl, z0⟩ := ints_at HN.out k (by rw [← HL.out]; exact hkl)
      have q0 := cell_below HW.out.bel hc.1
      have q1 := cell_below HW.out.bel hc.2
      have hkn : k < ns.length := by rw [← HL.out]; exact hkl
      have HD : Hid _ := Ru.withW_drop yy ts ns k hkl
      have HTk : Hid (Ru.TermIn 8 (Sc.termD ts k)) := HTI.out _ (Ru.termD_mem hkl)
      have Z0 : Hid _ := z0
      clear hc z0
      generalize Sc.termD ts k = t at *
      generalize Sc.intD ns k = n at *
      go_upto_region 4 with fail
      have bT := (Below.refl wr.heap.size wr).alloc (Nat.le_refl _) (.cells #[.int .i64 t.var, .int .i64 t.n] 147)
      have HWq : Hid _ := HW.out.below bT
      have HTB : Hid _ := heap_alloc_new wr (.cells #[.int .i64 t.var, .int .i64 t.n] 147)
      clear q0 q1 bT HW
      generalize wr.alloc (.cells #[.int .i64 t.var, .int .i64 t.n] 147) = wq at *
      generalize wr.heap.size = TB at *
      have t0 : wq.cell? ⟨TB, 0, none⟩ = some (.int .i64 t.var) := by rw [Lib.cell_of_heap HTB.out]; rfl
      have t1 : wq.cell? ⟨TB, 1, none⟩ = some (.int .i64 t.n) := by rw [Lib.cell_of_heap HTB.out]; rfl
      go_wp2_with (refine wpList_loadWay (wanted_none rfl) _ rfl _ rfl yy HWq.out.box HWq.out.wf ?_)
      clear t0 t1
      refine Calls.mono (knows_any yy t wq HWq.out.wf HTk.out) ?_
      rintro _ w2 ⟨rfl, hb2⟩
      have HW2 : Hid _ := HWq.out.below hb2
      have HT2 : Hid _ := (hb2.block _ (heap_lt HTB.out)).trans HTB.out
      clear hb2 HWq HTB
      cases hkn2 : Sc.known yy.known t
      · have HK : Hid _ := hkn2
        obtain ⟨h0, _⟩ := Ru.known_in (w := yy) (t := t) (by rw [hkn2]; decide)
        obtain ⟨v, hv⟩ : ∃ v : Nat, t.var = v := ⟨t.var.toNat, by omega⟩
        have hv8 : v < 8 := by rcases HTk.out with h9 | h9 <;> omega
        obtain ⟨var, nn⟩ := t
        dsimp only at hv
        subst hv
        have hne : ¬ TB = w.heap.size := fun e9 => by
          have h9 := HT2.out
          rw [e9, HW2.out.box] at h9
          injection h9 with h9
          injection h9 with h91 h92
          exact absurd h92 (by decide)
        have t0 : w2.cell? ⟨TB, 0, none⟩ = some (.int .i64 v) := by rw [Lib.cell_of_heap HT2.out]; rfl
        have b0 := HW2.out.box.kn HW2.out.wf hv8
        have f0 := Lib.frozen_of_heap HW2.out.box (8 + v)
        clear hkn2 h0
        go_upto_region 6 with fail
        have bel3 : Below w.heap.size w (w2.setCell ⟨w.heap.size, 8 + v, none⟩ (.bool true)) := HW2.out.bel.setCell (Nat.le_refl _) _
        have hT3 := (heap_set_other (w := w2) (i := 8 + v) (v := .bool true) hne).trans HT2.out
        have hB3 := HW2.out.box.setKn HW2.out.wf v
        have z4 := cell_below bel3 Z0.out
        have t0' : (w2.setCell ⟨w.heap.size, 8 + v, none⟩ (.bool true)).cell? ⟨TB, 0, none⟩ = some (.int .i64 v) := by rw [Lib.cell_of_heap hT3]; rfl
        have b1 := hB3.num ⟨HW2.out.wf.n, by simpa using HW2.out.wf.k⟩ hv8
        have f1 := Lib.frozen_of_heap hB3 v
        have HT3 : Hid _ := hT3
        have HW4 : Hid _ := HW2.out.set hv8 n
        clear hT3 hB3 bel3 t0 b0 f0
        go_region
        have hT4 := (heap_set_other (w := w2.setCell ⟨w.heap.size, 8 + v, none⟩ (.bool true)) (i := v) (v := .int .i64 n) hne).trans HT3.out
        have HT5 : Hid _ := hT4
        clear hT4 z4 t0' b1 f1 HT3 HT2 HW2
        generalize (w2.setCell ⟨w.heap.size, 8 + v, none⟩ (.bool true)).setCell ⟨w.heap.size, v, none⟩ (.int .i64 n) = w3 at *
        have HW4' : Hid _ := HW4.out.below ((Below.refl _ _).drew)
        have HT4 : Hid (w3.drew.heap[TB]? = some (.cells #[.int .i64 v, .int .i64 nn] 147)) := HT5.out
        clear HW4 HT5
        have HW4 : Hid _ := HW4'.out
        clear HW4'
        generalize w3.drew = w4 at *
        have HNUM : Hid (Ru.num (yy.nums.set v n) ⟨v, nn⟩ = n) := by
          show _ = _
          unfold Ru.num
          rw [if_neg (show ¬ (v : Int) < 0 by omega)]
          have h9 := HW4.out.wf.n
          simp only [List.length_set] at h9
          exact Ru.getD_set_eq _ _ _ _ (by show v < yy.nums.length; rw [h9]; exact hv8)
        have HE2 : Hid (Ru.withW y ts ns = Ru.withW ⟨yy.nums.set v n, yy.known.set v true⟩ (ts.drop (k + 1)) (ns.drop (k + 1))) := by
          show _ = _
          rw [HE.out, HD.out, Ru.with1_new HK.out]
          rfl
        go_upto_region 7 with fail
        refine wp_region_tabA (fun tQ vQ _ => vQ = withTv ((⟨yy.nums.set v n, yy.known.set v true⟩ : Ru.Way)) ⟨v, nn⟩ bn on ns.length cn k n tQ) (by kernel_rfl) (by kernel_rfl) (fun _ _ _ _ _ h => h) ?hopA ?hendA
        case hopA =>
          refine AllOps.cons (fun a y h => ?_) ?_
          · have e3 : a.eval (.tmp 3) = (.pointer (some ⟨w.heap.size, 0, none⟩) : Value) := h.old 3 (by kernel_rfl)
            refine opOk_val (v := wayVal (⟨yy.nums.set v n, yy.known.set v true⟩ : Ru.Way)) (w' := y) (wanted_none rfl) ?_ (fun t ht => by cases ht; exact rfl) (Below.refl _ _)
            exact load_way rfl e3 (HW4.out.below h.below).box HW4.out.wf
          refine AllOps.cons (fun a y h => ?_) ?_
          · have e9 : a.eval (.tmp 9) = (.pointer (some ⟨TB, 0, none⟩) : Value) := h.old 9 (by kernel_rfl)
            have c0 : y.cell? ⟨TB, 0, none⟩ = some (.int .i64 v) := by rw [Lib.cell_of_heap ((h.below.block _ (heap_lt HT4.out)).trans HT4.out)]; rfl
            have c1 : y.cell? ⟨TB, 1, none⟩ = some (.int .i64 nn) := by rw [Lib.cell_of_heap ((h.below.block _ (heap_lt HT4.out)).trans HT4.out)]; rfl
            refine opOk_val (v := .agg #[.int .i64 v, .int .i64 nn]) (w' := y) (wanted_none rfl) ?_ (fun t ht => by cases ht; exact rfl) (Below.refl _ _)
            have ec : ∀ v, a.eval (.const v) = v := fun _ => rfl
            generalize a.eval = ev at *
            clear h
            go_simp
          refine AllOps.cons (fun a y h => ?_) ?_
          · have e33 : a.eval (.tmp 33) = (wayVal (⟨yy.nums.set v n, yy.known.set v true⟩ : Ru.Way) : Value) := h.of 33 (by kernel_rfl)
            have e34 : a.eval (.tmp 34) = (.agg #[.int .i64 v, .int .i64 nn] : Value) := h.of 34 (by kernel_rfl)
            refine opOk_call (f := 187) (args := #[wayVal (⟨yy.nums.set v n, yy.known.set v true⟩ : Ru.Way), .agg #[.int .i64 v, .int .i64 nn]]) (wanted_none rfl) ?_ ?_
            · have ec : ∀ v, a.eval (.const v) = v := fun _ => rfl
              have ef : ∀ f, a.eval (.func f) = .func (.func f) #[] #[] := fun _ => rfl
              generalize a.eval = ev at *
              clear h
              go_simp
            · refine Calls.mono (number_any ((⟨yy.nums.set v n, yy.known.set v true⟩ : Ru.Way)) ⟨v, nn⟩ y HW4.out.wf HTk.out) ?_
              rintro _ y2 ⟨rfl, hb2⟩
              exact ⟨_, rfl, fun t ht => by cases ht; exact rfl, hb2⟩
          refine AllOps.cons (fun a y h => ?_) ?_
          · have e2 : a.eval (.tmp 2) = (.slice (some ⟨bn, on, none⟩) ns.length cn : Value) := h.old 2 (by kernel_rfl)
            refine opOk_val (v := .slice (some ⟨bn, on, none⟩) ns.length cn) (w' := y) (wanted_none rfl) ?_ (fun t ht => by cases ht; exact rfl) (Below.refl _ _)
            have ec : ∀ v, a.eval (.const v) = v := fun _ => rfl
            generalize a.eval = ev at *
            clear h
            go_simp
          refine AllOps.cons (fun a y h => ?_) ?_
          · have e8 : a.eval (.tmp 8) = (.int .i64 k : Value) := h.old 8 (by kernel_rfl)
            refine opOk_val (v := .int .i64 k) (w' := y) (wanted_none rfl) ?_ (fun t ht => by cases ht; exact rfl) (Below.refl _ _)
            have ec : ∀ v, a.eval (.const v) = v := fun _ => rfl
            generalize a.eval = ev at *
            clear h
            go_simp
          refine AllOps.cons (fun a y h => ?_) ?_
          · have e36 : a.eval (.tmp 36) = (.slice (some ⟨bn, on, none⟩) ns.length cn : Value) := h.of 36 (by kernel_rfl)
            have e37 : a.eval (.tmp 37) = (.int .i64 k : Value) := h.of 37 (by kernel_rfl)
            refine opOk_val (v := .pointer (some ⟨bn, on + k, none⟩)) (w' := y) (wanted_none rfl) ?_ (fun t ht => by cases ht; exact rfl) (Below.refl _ _)
            have ec : ∀ v, a.eval (.const v) = v := fun _ => rfl
            generalize a.eval = ev at *
            clear h
            go_simp
          refine AllOps.cons (fun a y h => ?_) ?_
          · have e38 : a.eval (.tmp 38) = (.pointer (some ⟨bn, on + k, none⟩) : Value) := h.of 38 (by kernel_rfl)
            have c2 := cell_below (HW4.out.below h.below).bel Z0.out
            refine opOk_val (v := .int .i64 n) (w' := y) (wanted_none rfl) ?_ (fun t ht => by cases ht; exact rfl) (Below.refl _ _)
            have ec : ∀ v, a.eval (.const v) = v := fun _ => rfl
            generalize a.eval = ev at *
            clear h
            go_simp
          refine AllOps.cons (fun a y h => ?_) ?_
          · have e35 : a.eval (.tmp 35) = (.int .i64 (Ru.num ((⟨yy.nums.set v n, yy.known.set v true⟩ : Ru.Way)).nums ⟨v, nn⟩) : Value) := h.of 35 (by kernel_rfl)
            have e39 : a.eval (.tmp 39) = (.int .i64 n : Value) := h.of 39 (by kernel_rfl)
            refine opOk_val (v := .bool (Ru.num ((⟨yy.nums.set v n, yy.known.set v true⟩ : Ru.Way)).nums ⟨v, nn⟩ != n)) (w' := y) (wanted_none rfl) ?_ (fun t ht => by cases ht; exact rfl) (Below.refl _ _)
            have ec : ∀ v, a.eval (.const v) = v := fun _ => rfl
            generalize a.eval = ev at *
            clear h
            go_simp
          exact AllOps.nil
        case hendA =>
          rintro ⟨tm, df⟩ wE hbE hdE hsE hstE hTE
          have h40 : tm.getD 40 undef = .bool (Ru.num ((⟨yy.nums.set v n, yy.known.set v true⟩ : Ru.Way)).nums ⟨v, nn⟩ != n) := ends_at (T := fun tQ vQ _ => vQ = withTv ((⟨yy.nums.set v n, yy.known.set v true⟩ : Ru.Way)) ⟨v, nn⟩ bn on ns.length cn k n tQ) (w := wE) (a := ⟨tm, df⟩) (t := 40) hTE (by kernel_rfl)
          obtain rfl : df = [] := hdE
          have hFE := tmps_fold [33, 34, 35, 36, 37, 38, 39, 40] tm _ hsE hstE
          clear hsE hstE hTE
          simp only [List.foldl_cons, List.foldl_nil, h40] at hFE
          clear h40
          generalize tm.getD 33 undef = x33 at hFE
          generalize tm.getD 34 undef = x34 at hFE
          generalize tm.getD 35 undef = x35 at hFE
          generalize tm.getD 36 undef = x36 at hFE
          generalize tm.getD 37 undef = x37 at hFE
          generalize tm.getD 38 undef = x38 at hFE
          generalize tm.getD 39 undef = x39 at hFE
          simp only [List.setIfInBounds_toArray, List.set_cons_zero, List.set_cons_succ] at hFE
          subst hFE
          have HW5 : Hid _ := HW4.out.below hbE
          clear hbE HW4 HT4
          have hq : (Ru.num (yy.nums.set v n) ⟨v, nn⟩ != n) = false := by rw [HNUM.out]; simp
          rw [hq]
          go_wp2_with fail
          go_roundw
          case rel => exact ⟨k + 1, _, hkl, by go_num, HW5.out, HE2.out⟩
          case measure => simp [intOf]; omega
      · have HK : Hid _ := hkn2
        clear hkn2
        have HW4 : Hid _ := HW2.out
        have HT4 : Hid _ := HT2.out
        clear HW2 HT2
        generalize w2 = w4 at *
        go_upto_region 7 with fail
        refine wp_region_tabA (fun tQ vQ _ => vQ = withTv (yy) t bn on ns.length cn k n tQ) (by kernel_rfl) (by kernel_rfl) (fun _ _ _ _ _ h => h) ?hopB ?hendB
        case hopB =>
          refine AllOps.cons (fun a y h => ?_) ?_
          · have e3 : a.eval (.tmp 3) = (.pointer (some ⟨w.heap.size, 0, none⟩) : Value) := h.old 3 (by kernel_rfl)
            refine opOk_val (v := wayVal yy) (w' := y) (wanted_none rfl) ?_ (fun t ht => by cases ht; exact rfl) (Below.refl _ _)
            exact load_way rfl e3 (HW4.out.below h.below).box HW4.out.wf
          refine AllOps.cons (fun a y h => ?_) ?_
          · have e9 : a.eval (.tmp 9) = (.pointer (some ⟨TB, 0, none⟩) : Value) := h.old 9 (by kernel_rfl)
            have c0 : y.cell? ⟨TB, 0, none⟩ = some (.int .i64 t.var) := by rw [Lib.cell_of_heap ((h.below.block _ (heap_lt HT4.out)).trans HT4.out)]; rfl
            have c1 : y.cell? ⟨TB, 1, none⟩ = some (.int .i64 t.n) := by rw [Lib.cell_of_heap ((h.below.block _ (heap_lt HT4.out)).trans HT4.out)]; rfl
            refine opOk_val (v := .agg #[.int .i64 t.var, .int .i64 t.n]) (w' := y) (wanted_none rfl) ?_ (fun t ht => by cases ht; exact rfl) (Below.refl _ _)
            have ec : ∀ v, a.eval (.const v) = v := fun _ => rfl
            generalize a.eval = ev at *
            clear h
            go_simp
          refine AllOps.cons (fun a y h => ?_) ?_
          · have e33 : a.eval (.tmp 33) = (wayVal yy : Value) := h.of 33 (by kernel_rfl)
            have e34 : a.eval (.tmp 34) = (.agg #[.int .i64 t.var, .int .i64 t.n] : Value) := h.of 34 (by kernel_rfl)
            refine opOk_call (f := 187) (args := #[wayVal yy, .agg #[.int .i64 t.var, .int .i64 t.n]]) (wanted_none rfl) ?_ ?_
            · have ec : ∀ v, a.eval (.const v) = v := fun _ => rfl
              have ef : ∀ f, a.eval (.func f) = .func (.func f) #[] #[] := fun _ => rfl
              generalize a.eval = ev at *
              clear h
              go_simp
            · refine Calls.mono (number_any (yy) t y HW4.out.wf HTk.out) ?_
              rintro _ y2 ⟨rfl, hb2⟩
              exact ⟨_, rfl, fun t ht => by cases ht; exact rfl, hb2⟩
          refine AllOps.cons (fun a y h => ?_) ?_
          · have e2 : a.eval (.tmp 2) = (.slice (some ⟨bn, on, none⟩) ns.length cn : Value) := h.old 2 (by kernel_rfl)
            refine opOk_val (v := .slice (some ⟨bn, on, none⟩) ns.length cn) (w' := y) (wanted_none rfl) ?_ (fun t ht => by cases ht; exact rfl) (Below.refl _ _)
            have ec : ∀ v, a.eval (.const v) = v := fun _ => rfl
            generalize a.eval = ev at *
            clear h
            go_simp
          refine AllOps.cons (fun a y h => ?_) ?_
          · have e8 : a.eval (.tmp 8) = (.int .i64 k : Value) := h.old 8 (by kernel_rfl)
            refine opOk_val (v := .int .i64 k) (w' := y) (wanted_none rfl) ?_ (fun t ht => by cases ht; exact rfl) (Below.refl _ _)
            have ec : ∀ v, a.eval (.const v) = v := fun _ => rfl
            generalize a.eval = ev at *
            clear h
            go_simp
          refine AllOps.cons (fun a y h => ?_) ?_
          · have e36 : a.eval (.tmp 36) = (.slice (some ⟨bn, on, none⟩) ns.length cn : Value) := h.of 36 (by kernel_rfl)
            have e37 : a.eval (.tmp 37) = (.int .i64 k : Value) := h.of 37 (by kernel_rfl)
            refine opOk_val (v := .pointer (some ⟨bn, on + k, none⟩)) (w' := y) (wanted_none rfl) ?_ (fun t ht => by cases ht; exact rfl) (Below.refl _ _)
            have ec : ∀ v, a.eval (.const v) = v := fun _ => rfl
            generalize a.eval = ev at *
            clear h
            go_simp
          refine AllOps.cons (fun a y h => ?_) ?_
          · have e38 : a.eval (.tmp 38) = (.pointer (some ⟨bn, on + k, none⟩) : Value) := h.of 38 (by kernel_rfl)
            have c2 := cell_below (HW4.out.below h.below).bel Z0.out
            refine opOk_val (v := .int .i64 n) (w' := y) (wanted_none rfl) ?_ (fun t ht => by cases ht; exact rfl) (Below.refl _ _)
            have ec : ∀ v, a.eval (.const v) = v := fun _ => rfl
            generalize a.eval = ev at *
            clear h
            go_simp
          refine AllOps.cons (fun a y h => ?_) ?_
          · have e35 : a.eval (.tmp 35) = (.int .i64 (Ru.num (yy).nums t) : Value) := h.of 35 (by kernel_rfl)
            have e39 : a.eval (.tmp 39) = (.int .i64 n : Value) := h.of 39 (by kernel_rfl)
            refine opOk_val (v := .bool (Ru.num (yy).nums t != n)) (w' := y) (wanted_none rfl) ?_ (fun t ht => by cases ht; exact rfl) (Below.refl _ _)
            have ec : ∀ v, a.eval (.const v) = v := fun _ => rfl
            generalize a.eval = ev at *
            clear h
            go_simp
          exact AllOps.nil
        case hendB =>
          rintro ⟨tm, df⟩ wE hbE hdE hsE hstE hTE
          have h40 : tm.getD 40 undef = .bool (Ru.num (yy).nums t != n) := ends_at (T := fun tQ vQ _ => vQ = withTv (yy) t bn on ns.length cn k n tQ) (w := wE) (a := ⟨tm, df⟩) (t := 40) hTE (by kernel_rfl)
          obtain rfl : df = [] := hdE
          have hFE := tmps_fold [33, 34, 35, 36, 37, 38, 39, 40] tm _ hsE hstE
          clear hsE hstE hTE
          simp only [List.foldl_cons, List.foldl_nil, h40] at hFE
          clear h40
          generalize tm.getD 33 undef = x33 at hFE
          generalize tm.getD 34 undef = x34 at hFE
          generalize tm.getD 35 undef = x35 at hFE
          generalize tm.getD 36 undef = x36 at hFE
          generalize tm.getD 37 undef = x37 at hFE
          generalize tm.getD 38 undef = x38 at hFE
          generalize tm.getD 39 undef = x39 at hFE
          simp only [List.setIfInBounds_toArray, List.set_cons_zero, List.set_cons_succ] at hFE
          subst hFE
          have HW5 : Hid _ := HW4.out.below hbE
          clear hbE HW4 HT4
          by_cases hnum : Ru.num yy.nums t = n
          · have HE2 : Hid (Ru.withW y ts ns = Ru.withW yy (ts.drop (k + 1)) (ns.drop (k + 1))) := by
              show _ = _
              rw [HE.out, HD.out, Ru.with1_yes HK.out hnum]
            have hq : (Ru.num yy.nums t != n) = false := by rw [hnum]; simp
            rw [hq]
            clear hnum hq
            go_wp2_with fail
            go_roundw
            case rel => exact ⟨k + 1, _, hkl, by go_num, HW5.out, HE2.out⟩
            case measure => simp [intOf]; omega
          · have HE2 : Hid (Ru.withW y ts ns = none) := by
              show _ = _
              rw [HE.out, HD.out, Ru.with1_no HK.out hnum]
            have hq : (Ru.num yy.nums t != n) = true := by simpa using hnum
            rw [hq]
            clear hnum hq
            go_wp2_with (refine wpList_storeWay rfl _ _ rfl _ rfl Ru.way0 Ru.way0 rfl HW5.out.res ⟨rfl, rfl⟩ ⟨rfl, rfl⟩ ?_)
            refine bodyPost_ret (results_way rfl rfl (way_set HW5.out.res) ⟨rfl, rfl⟩) rfl ⟨?_, way_set_below HW5.out.bel (Nat.le_succ _)⟩
            unfold Ru.withO
            rw [HE2.out]
            rfl
    · have hdd : decide (k < ts.length) = false := decide_eq_false hkl
      have hke : k = ts.length := by omega
      have HE2 : Hid (Ru.withW y ts ns = some yy) := by
        show _ = _
        rw [HE.out, hke]
        exact Ru.withW_end _ _ _
      clear hke
      go_wp2_with (first
        | (refine wpList_loadWay (wanted_none rfl) _ rfl _ rfl yy HW.out.box HW.out.wf ?_)
        | (refine wpList_storeWay rfl _ _ rfl _ rfl Ru.way0 yy rfl HW.out.res ⟨rfl, rfl⟩ HW.out.wf ?_))
      refine bodyPost_ret (results_way rfl rfl (way_set HW.out.res) HW.out.wf) rfl ⟨?_, way_set_below HW.out.bel (Nat.le_succ _)⟩
      unfold Ru.withO
      rw [HE2.out]
      rfl
end Go.Proofs.YthenjegmigeieaaGreat

/- Who is told of ways, one by one, and answers whether to go on. -/
namespace Go.Proofs.YthenjegmigeieaaGreat
open Go.RowKit

namespace Ru
section
variable {σ : Type}
/-- Told one by one, till it answers no. -/
def run (step : σ → Way → σ × Bool) : σ → List Way → σ × Bool
  | s, [] => (s, true)
  | s, x :: L => if (step s x).2 = true then run step (step s x).1 L else ((step s x).1, false)
/-- It may be told of each that it is told of. -/
def Lv (step : σ → Way → σ × Bool) (live : σ → Way → Prop) : σ → List Way → Prop
  | _, [] => True
  | s, x :: L => live s x ∧ ((step s x).2 = true → Lv step live (step s x).1 L)
theorem run_cons (step : σ → Way → σ × Bool) (s : σ) (x : Way) (L : List Way) : run step s (x :: L) = if (step s x).2 = true then run step (step s x).1 L else ((step s x).1, false) := rfl
theorem run_append (step : σ → Way → σ × Bool) : ∀ (L M : List Way) (s : σ), run step s (L ++ M) = if (run step s L).2 = true then run step (run step s L).1 M else ((run step s L).1, false)
  | [], M, s => by rw [List.nil_append]; show _ = if true = true then run step s M else _; rw [if_pos rfl]
  | x :: L, M, s => by
    rw [List.cons_append, run_cons, run_cons]
    by_cases h : (step s x).2 = true
    · rw [if_pos h, if_pos h, run_append step L M]
    · rw [if_neg h, if_neg h]
      rfl
theorem run_flat (step : σ → Way → σ × Bool) (f : Way → List Way) : ∀ (L : List Way) (s : σ), run step s (L.flatMap f) = run (fun s x => run step s (f x)) s L
  | [], s => rfl
  | x :: L, s => by
    rw [List.flatMap_cons, run_append]
    show _ = if (run step s (f x)).2 = true then run (fun s x => run step s (f x)) (run step s (f x)).1 L else ((run step s (f x)).1, false)
    rw [run_flat step f L]
theorem lv_append (step : σ → Way → σ × Bool) (live : σ → Way → Prop) : ∀ (L M : List Way) (s : σ), Lv step live s (L ++ M) → Lv step live s L ∧ ((run step s L).2 = true → Lv step live (run step s L).1 M)
  | [], M, s, h => ⟨trivial, fun _ => h⟩
  | x :: L, M, s, h => by
    obtain ⟨h1, h2⟩ := h
    refine ⟨⟨h1, fun hs => (lv_append step live L M _ (h2 hs)).1⟩, fun hr => ?_⟩
    rw [run_cons] at hr ⊢
    by_cases hs : (step s x).2 = true
    · rw [if_pos hs] at hr ⊢
      exact (lv_append step live L M _ (h2 hs)).2 hr
    · rw [if_neg hs] at hr
      cases hr
theorem lv_flat (step : σ → Way → σ × Bool) (live : σ → Way → Prop) (f : Way → List Way) : ∀ (L : List Way) (s : σ), Lv step live s (L.flatMap f) → Lv (fun s x => run step s (f x)) (fun s x => Lv step live s (f x)) s L
  | [], s, _ => trivial
  | x :: L, s, h => by
    rw [List.flatMap_cons] at h
    obtain ⟨h1, h2⟩ := lv_append step live _ _ _ h
    exact ⟨h1, fun hs => lv_flat step live f L _ (h2 hs)⟩
end
end Ru
/-- All stands but one block, and rows of lists of numbers; below n0 all stands. -/
structure Kp (n0 NB : Nat) (w w' : World) : Prop where
  os : w'.os = w.os
  tape : w'.tape = w.tape
  output : w'.output = w.output
  size : w.heap.size ≤ w'.heap.size
  low : ∀ k, k < n0 → w'.heap[k]? = w.heap[k]?
  keep : ∀ k c t, w.heap[k]? = some (.cells c t) → k ≠ NB → t ≠ 22 → w'.heap[k]? = some (.cells c t)
theorem Kp.trans {n0 NB : Nat} {a b c : World} (h : Kp n0 NB a b) (k : Kp n0 NB b c) : Kp n0 NB a c :=
  ⟨k.os.trans h.os, k.tape.trans h.tape, k.output.trans h.output, Nat.le_trans h.size k.size, fun j hj => (k.low j hj).trans (h.low j hj), fun j o t hj h1 h2 => k.keep j o t (h.keep j o t hj h1 h2) h1 h2⟩
theorem Kp.of_below {n0 NB : Nat} {w w' : World} (h : Below w.heap.size w w') (hn : n0 ≤ w.heap.size) : Kp n0 NB w w' :=
  ⟨h.os, h.tape, h.output, h.size, fun k hk => h.block k (Nat.lt_of_lt_of_le hk hn), fun k _ _ hk _ _ => (h.block k (heap_lt hk)).trans hk⟩
theorem Kp.below {n0 NB : Nat} {w0 w w' : World} (h : Kp n0 NB w w') (hb : Below n0 w0 w) : Below n0 w0 w' :=
  ⟨h.os.trans hb.os, h.tape.trans hb.tape, h.output.trans hb.output, Nat.le_trans hb.size h.size, fun k hk => (h.low k hk).trans (hb.block k hk)⟩
theorem Kp.way {n0 NB : Nat} {w w' : World} (h : Kp n0 NB w w') {b : Nat} {y : Ru.Way} (hb : b ≠ NB) (hW : WayAt w b y) : WayAt w' b y := h.keep b _ _ hW hb (by decide)
/-- Who is told: the closure h with what it caught. -/
structure Tell (n0 NB h : Nat) (cb : Array Value) {σ : Type} (step : σ → Ru.Way → σ × Bool) (live : σ → Ru.Way → Prop) (I : σ → World → Prop) : Prop where
  call : ∀ s w x, I s w → live s x → Ru.Wf 8 x → Calls Tryz.prog h (#[wayVal x] ++ cb) w fun e w' => e = .returned (.bool (step s x).2) ∧ I (step s x).1 w' ∧ Kp n0 NB w w'
  grow : ∀ s w w', I s w → Below w.heap.size w w' → I s w'
  room : ∀ s w, I s w → n0 ≤ w.heap.size ∧ NB < w.heap.size
end Go.Proofs.YthenjegmigeieaaGreat

/- holdYes: a literal of facts. -/
namespace Go.Proofs.YthenjegmigeieaaGreat
open Go.RowKit

namespace Ru
/-- The ways on by one fact. -/
def onF (l : Sc.Lit) (y : Way) (f : Rl.Fc) : Option Way := if f.pred = l.pred then withW y l.terms f.args else none
theorem on_yes {facts : List Rl.Fc} {l : Sc.Lit} {y : Way} (h : l.kind = 1) : on facts l y = facts.filterMap (onF l y) := by unfold on; rw [if_pos h]; rfl
theorem onF_drop (l : Sc.Lit) (y : Way) (facts : List Rl.Fc) (k : Nat) (h : k < facts.length) : (facts.drop k).filterMap (onF l y) = (onF l y (Rl.factD facts k)).toList ++ (facts.drop (k + 1)).filterMap (onF l y) := by
  rw [factD_drop facts k h, List.filterMap_cons]
  cases onF l y (Rl.factD facts k) <;> rfl
end Ru

set_option maxRecDepth 100000 in
set_option maxHeartbeats 2000000 in
theorem holdYes_any {σ : Type} {step : σ → Ru.Way → σ × Bool} {live : σ → Ru.Way → Prop} {I : σ → World → Prop} {NB hh : Nat} {cb : Array Value} (facts : List Rl.Fc) (l : Sc.Lit) (y : Ru.Way) (vf vt : Value) (w0 w : World) (s : σ)
    (hB0 : Below w0.heap.size w0 w) (hF : FactsV w0 vf facts) (hFl : facts.length ≤ 1000000) (hT : PTermsV w0 vt l.terms) (hTI : Ru.TermsIn 8 l.terms) (hA : ∀ f, f ∈ facts → f.pred = l.pred → l.terms.length = f.args.length) (hTl : l.terms.length ≤ 1000) (hy : Ru.Wf 8 y)
    (TL : Tell w0.heap.size NB hh cb step live I) (he : ∀ args w, (callFunc hh args).run Tryz.prog w = .ok (.enter hh args) w) (hI : I s w) (hLv : Ru.Lv step live s (facts.filterMap (Ru.onF l y))) :
    Calls Tryz.prog 184 #[vf, plitVal l vt, wayVal y, .func (.func hh) #[] cb] w fun e w' => e = .returned (.bool (Ru.run step s (facts.filterMap (Ru.onF l y))).2) ∧ I (Ru.run step s (facts.filterMap (Ru.onF l y))).1 w' ∧ Kp w0.heap.size NB w w' := by
  obtain ⟨ao, cap, rfl, _, hFA⟩ := hF
  have HT : Hid _ := hT
  obtain ⟨at_, ct, rfl, _⟩ := id hT
  obtain ⟨kd, op, pd, ts⟩ := l
  dsimp only at *
  obtain ⟨h0, h1, hb⟩ := ru_two w (.cells #[.int .i64 kd, .int .i64 op, .int .i64 pd, .slice at_ ts.length ct] 49) (.cells (wayArr y) 138)
  have HL : Hid _ := h0
  have HW : Hid (WayAt ((w.alloc (.cells #[.int .i64 kd, .int .i64 op, .int .i64 pd, .slice at_ ts.length ct] 49)).alloc (.cells (wayArr y) 138)) (w.heap.size + 1) y) := h1
  have hroom := TL.room s w hI
  have HI : Hid _ := TL.grow _ _ _ hI hb
  have HK : Hid (Kp w0.heap.size NB w ((w.alloc (.cells #[.int .i64 kd, .int .i64 op, .int .i64 pd, .slice at_ ts.length ct] 49)).alloc (.cells (wayArr y) 138))) := Kp.of_below hb hroom.1
  have HB0 : Hid _ := hB0
  have HFA : Hid _ := hFA
  have HA : Hid _ := hA
  have HTI : Hid _ := hTI
  have HLv : Hid _ := hLv
  have HTL : Hid _ := TL
  have hNB := hroom.2
  clear h0 h1 hb hT hI hroom hB0 hFA hA hTI hLv TL
  go_enter Tryz.func184, Tryz.ntmps184
  go_wp2_with fail
  generalize (w.alloc (.cells #[.int .i64 kd, .int .i64 op, .int .i64 pd, .slice at_ ts.length ct] 49)).alloc (.cells (wayArr y) 138) = w1 at *
  go_loopw [15] (fun i wr => ∃ (k : Nat) (s' : σ), k ≤ facts.length ∧ i = .int .i64 k ∧ Hid (I s' wr) ∧ Hid (Kp w0.heap.size NB w wr) ∧ Hid (wr.heap[w.heap.size]? = some (.cells #[.int .i64 kd, .int .i64 op, .int .i64 pd, .slice at_ ts.length ct] 49)) ∧ Hid (WayAt wr (w.heap.size + 1) y) ∧ Hid (Ru.run step s (facts.filterMap (Ru.onF ⟨kd, op, pd, ts⟩ y)) = Ru.run step s' ((facts.drop k).filterMap (Ru.onF ⟨kd, op, pd, ts⟩ y))) ∧ Hid (Ru.Lv step live s' ((facts.drop k).filterMap (Ru.onF ⟨kd, op, pd, ts⟩ y)))) (fun i _ => facts.length - (intOf i).toNat)
  case atStart => exact ⟨0, s, Nat.zero_le _, rfl, HI.out, HK.out, HL.out, HW.out, rfl, HLv.out⟩
  case round =>
    clear HI HK HL HW HLv
    obtain ⟨k, s', hk, rfl, HI, HK, HL, HW, HR, HLv⟩ := hrel
    by_cases hlt : k < facts.length
    · have HBr : Hid (Below w0.heap.size w0 wr) := HK.out.below HB0.out
      obtain ⟨b, off, rfl, p0, fv, p1, hIv⟩ := facts_at HFA.out k hlt
      have q0 := cell_below HBr.out p0
      have q1 := cell_below HBr.out p1
      have HIV : Hid (IntsV w0 fv (Rl.factD facts k).args) := hIv
      obtain ⟨af, cf, rfl, _⟩ := hIv
      have HD : Hid _ := Ru.onF_drop ⟨kd, op, pd, ts⟩ y facts k hlt
      have HAf : Hid ((Rl.factD facts k).pred = pd → ts.length = (Rl.factD facts k).args.length) := HA.out _ (factD_mem facts k hlt)
      clear p0 p1
      generalize Rl.factD facts k = f at *
      have d2 : wr.cell? ⟨w.heap.size, 2, none⟩ = some (.int .i64 pd) := by rw [Lib.cell_of_heap HL.out]; rfl
      go_upto_region 4 with fail
      have bT := (Below.refl wr.heap.size wr).alloc (Nat.le_refl _) (.cells #[.int .i64 f.pred, .slice af f.args.length cf] 55)
      have hTB := heap_alloc_new wr (.cells #[.int .i64 f.pred, .slice af f.args.length cf] 55)
      have HTB : Hid _ := hTB
      have HIq : Hid _ := HTL.out.grow _ _ _ HI.out bT
      have HKq : Hid _ := HK.out.trans (Kp.of_below bT (HTL.out.room _ _ HI.out).1)
      have HLq : Hid _ := (bT.block _ (heap_lt HL.out)).trans HL.out
      have HWq : Hid _ := HW.out.below bT
      clear q0 q1 d2 bT hTB HI HK HL HW HBr
      generalize wr.alloc (.cells #[.int .i64 f.pred, .slice af f.args.length cf] 55) = wq at *
      generalize wr.heap.size = TB at *
      have f0 : wq.cell? ⟨TB, 0, none⟩ = some (.int .i64 f.pred) := by rw [Lib.cell_of_heap HTB.out]; rfl
      have f1 : wq.cell? ⟨TB, 1, none⟩ = some (.slice af f.args.length cf) := by rw [Lib.cell_of_heap HTB.out]; rfl
      have d2 : wq.cell? ⟨w.heap.size, 2, none⟩ = some (.int .i64 pd) := by rw [Lib.cell_of_heap HLq.out]; rfl
      have d3 : wq.cell? ⟨w.heap.size, 3, none⟩ = some (.slice at_ ts.length ct) := by rw [Lib.cell_of_heap HLq.out]; rfl
      by_cases hp : f.pred = pd
      · have g1 : (f.pred == pd) = true := by simpa using hp
        have g2 : (f.pred != pd) = false := by simpa using hp
        have HOF : Hid (Ru.onF ⟨kd, op, pd, ts⟩ y f = Ru.withW y ts f.args) := by show _ = _; unfold Ru.onF; rw [if_pos hp]
        have HLE : Hid _ := HAf.out hp
        have HBq : Hid (Below w0.heap.size w0 wq) := HKq.out.below HB0.out
        clear hp
        go_wp2_with (refine wpList_loadWay (wanted_none rfl) _ rfl _ rfl y HWq.out hy ?_)
        refine Calls.mono (with_any y ts f.args _ _ wq hy (ptermsV_below HT.out HBq.out) (intsV_below HIV.out HBq.out) HLE.out hTl HTI.out) ?_
        rintro _ w2 ⟨rfl, hb2⟩
        have HI2 : Hid _ := HTL.out.grow _ _ _ HIq.out hb2
        have HK2 : Hid _ := HKq.out.trans (Kp.of_below hb2 (HTL.out.room _ _ HIq.out).1)
        have HL2 : Hid _ := (hb2.block _ (heap_lt HLq.out)).trans HLq.out
        have HW2 : Hid (WayAt w2 (w.heap.size + 1) y) := WayAt.below HWq.out hb2
        have hNB2 := (HTL.out.room _ _ HI2.out)
        clear hb2 f0 f1 d2 d3 g1 g2 HIq HKq HLq HWq HTB HBq
        have HZW : Hid (Ru.Wf 8 (Ru.withO y ts f.args)) := by
          show Ru.Wf 8 _
          unfold Ru.withO
          cases hx : Ru.withW y ts f.args with
          | none => exact ⟨rfl, rfl⟩
          | some z => exact Ru.withW_wf hy hx
        have bZ := (Below.refl w2.heap.size w2).alloc (Nat.le_refl _) (.cells (wayArr (Ru.withO y ts f.args)) 138)
        have HI3 : Hid _ := HTL.out.grow _ _ _ HI2.out bZ
        have HK3 : Hid _ := HK2.out.trans (Kp.of_below bZ hNB2.1)
        have HL3 : Hid _ := (bZ.block _ (heap_lt HL2.out)).trans HL2.out
        have HW3 : Hid _ := WayAt.below HW2.out bZ
        have HZ3 : Hid (WayAt (w2.alloc (.cells (wayArr (Ru.withO y ts f.args)) 138)) w2.heap.size (Ru.withO y ts f.args)) := heap_alloc_new w2 _
        clear bZ hNB2
        go_upto_region 6 with (refine wpList_storeWay rfl _ _ rfl w2.heap.size rfl Ru.way0 (Ru.withO y ts f.args) rfl (heap_alloc_new w2 _) ⟨rfl, rfl⟩ HZW.out ?_; rw [World.setRow_alloc_new])
        generalize w2.alloc (.cells (wayArr (Ru.withO y ts f.args)) 138) = w3 at *
        generalize w2.heap.size = ZB at *
        clear HI2 HK2 HL2 HW2
        cases hx : Ru.withW y ts f.args with
        | none =>
          have HOF2 : Hid (Ru.onF ⟨kd, op, pd, ts⟩ y f = none) := HOF.out.trans hx
          have hs : (none : Option Ru.Way).isSome = false := rfl
          clear hx
          go_wp2_with fail
          go_roundw
          case rel => exact ⟨k + 1, s', hlt, by go_num, HI3.out, HK3.out, HL3.out, HW3.out, by show _ = _; rw [HR.out, HD.out, HOF2.out]; rfl, by have h9 := HLv.out; rw [HD.out, HOF2.out] at h9; exact h9⟩
          case measure => simp [intOf]; omega
        | some z =>
          have HOF2 : Hid (Ru.onF ⟨kd, op, pd, ts⟩ y f = some z) := HOF.out.trans hx
          have hz : Ru.withO y ts f.args = z := by unfold Ru.withO; rw [hx]; rfl
          rw [hz] at HZ3 HZW
          have HLv2 : Hid (Ru.Lv step live s' (z :: (facts.drop (k + 1)).filterMap (Ru.onF ⟨kd, op, pd, ts⟩ y))) := by have h9 := HLv.out; rw [HD.out, HOF2.out] at h9; exact h9
          have HR2 : Hid (Ru.run step s (facts.filterMap (Ru.onF ⟨kd, op, pd, ts⟩ y)) = Ru.run step s' (z :: (facts.drop (k + 1)).filterMap (Ru.onF ⟨kd, op, pd, ts⟩ y))) := by show _ = _; rw [HR.out, HD.out, HOF2.out]; rfl
          clear hx hz HLv HR HOF HOF2
          go_wp2_with (refine wpList_loadWay (by first | exact wanted_none rfl | exact wanted_some rfl rfl rfl rfl) _ rfl _ rfl z HZ3.out HZW.out ?_)
          refine Calls.mono (HTL.out.call s' w3 z HI3.out HLv2.out.1 HZW.out) ?_
          rintro e w4 ⟨he4, hI4, hK4⟩
          subst he4
          have HI4 : Hid _ := hI4
          have HK4 : Hid _ := HK3.out.trans hK4
          have HL4 : Hid _ := hK4.keep _ _ _ HL3.out (by omega) (by decide)
          have HW4 : Hid _ := hK4.way (by omega) HW3.out
          clear hI4 hK4
          cases hq : (step s' z).2
          · have HE : Hid (Ru.run step s (facts.filterMap (Ru.onF ⟨kd, op, pd, ts⟩ y)) = ((step s' z).1, false)) := by show _ = _; rw [HR2.out, Ru.run_cons, hq]; rfl
            clear hq
            go_wp2_with fail
            go_ret
            exact ⟨by rw [HE.out]; rfl, by rw [HE.out]; exact HI4.out, HK4.out⟩
          · have HE : Hid (Ru.run step s (facts.filterMap (Ru.onF ⟨kd, op, pd, ts⟩ y)) = Ru.run step (step s' z).1 ((facts.drop (k + 1)).filterMap (Ru.onF ⟨kd, op, pd, ts⟩ y))) := by show _ = _; rw [HR2.out, Ru.run_cons, if_pos hq]
            have HLv3 : Hid _ := HLv2.out.2 hq
            clear hq
            go_wp2_with fail
            go_roundw
            case rel => exact ⟨k + 1, _, hlt, by go_num, HI4.out, HK4.out, HL4.out, HW4.out, HE.out, HLv3.out⟩
            case measure => simp [intOf]; omega
      · have g1 : (f.pred == pd) = false := by simpa using hp
        have g2 : (f.pred != pd) = true := by simpa using hp
        have HOF : Hid (Ru.onF ⟨kd, op, pd, ts⟩ y f = none) := by show _ = _; unfold Ru.onF; rw [if_neg hp]
        clear hp
        go_wp2_with fail
        go_roundw
        case rel => exact ⟨k + 1, s', hlt, by go_num, HIq.out, HKq.out, HLq.out, HWq.out, by show _ = _; rw [HR.out, HD.out, HOF.out]; rfl, by have h9 := HLv.out; rw [HD.out, HOF.out] at h9; exact h9⟩
        case measure => simp [intOf]; omega
    · have HE : Hid (Ru.run step s (facts.filterMap (Ru.onF ⟨kd, op, pd, ts⟩ y)) = (s', true)) := by show _ = _; rw [HR.out, List.drop_of_length_le (by omega)]; rfl
      have hdd : decide (k < facts.length) = false := decide_eq_false hlt
      go_wp2_with fail
      go_ret
      exact ⟨by rw [HE.out]; rfl, by rw [HE.out]; exact HI.out, HK.out⟩
end Go.Proofs.YthenjegmigeieaaGreat

/- hold: each way on by one literal is told. -/
namespace Go.Proofs.YthenjegmigeieaaGreat
open Go.RowKit

section
variable {P : Program} {ops : Array Oper} {Q : Exit → Act → World → Prop} {i : Nat} {o : Oper} {K : Act → World → Prop} {a : Act} {w : World}
theorem wpOp_call {f : FuncId} {args : Array Value} (ho : ops[i]? = some o) (hw : Region.wanted o (yielded ops a.tmps) = true) (hr : (execOp a.eval o).run P w = .ok (.enter f args) w)
    (hc : Calls P f args w fun e w' => ∃ v, e = .returned v ∧ K (a.put o.dst v) w') : wpOp P ops Q i K a w := by
  unfold wpOp
  rw [ho]
  dsimp only
  rw [if_pos hw]
  left
  unfold Oper.wp
  rw [hr, Oper.upon_enter]
  refine Calls.mono hc ?_
  rintro e w' ⟨v, rfl, h⟩
  exact h
end
def hold5FV (X : Nat) (vf vt : Value) (pd : Int) (y : Ru.Way) (hh : Nat) (cb : Array Value) (tQ : Nat) (vQ : Value) : Prop :=
  match tQ with
  | 23 => vQ = (vf : Value)
  | 24 => vQ = (.pointer (some ⟨X, 2, none⟩) : Value)
  | 25 => vQ = (.int .i64 pd : Value)
  | 26 => vQ = (.pointer (some ⟨X, 3, none⟩) : Value)
  | 27 => vQ = (vt : Value)
  | 28 => vQ = (.pointer (some ⟨X + 1, 0, none⟩) : Value)
  | 29 => vQ = (.slice (some ⟨X + 1, 0, none⟩) 8 8 : Value)
  | 31 => vQ = (.bool false : Value)
  | 32 => vQ = (.bool false : Value)
  | 33 => vQ = (.func (.func hh) #[] cb : Value)
  | 34 => vQ = (wayVal y : Value)
  | _ => True
def hold5FT (X : Nat) (vf vt : Value) (pd : Int) (xs : List Int) (y : Ru.Way) (hh : Nat) (cb : Array Value) (tQ : Nat) (vQ : Value) (WQ : World) : Prop := if tQ = 30 then ∃ u, vQ = .agg #[.int .i64 pd, u] ∧ IntsV WQ u xs else hold5FV X vf vt pd y hh cb tQ vQ
theorem hold5FT_mono (X : Nat) (vf vt : Value) (pd : Int) (xs : List Int) (y : Ru.Way) (hh : Nat) (cb : Array Value) (tQ : Nat) (vQ : Value) (W W' : World) (hb : Below W.heap.size W W') (h : hold5FT X vf vt pd xs y hh cb tQ vQ W) : hold5FT X vf vt pd xs y hh cb tQ vQ W' := by
  unfold hold5FT at h ⊢
  by_cases ht : tQ = 30
  · rw [if_pos ht] at h ⊢
    obtain ⟨u, h1, h2⟩ := h
    exact ⟨u, h1, intsV_below h2 hb⟩
  · rw [if_neg ht] at h ⊢
    exact h

def hold5TV (X : Nat) (vf vt : Value) (pd : Int) (tQ : Nat) (vQ : Value) : Prop :=
  match tQ with
  | 23 => vQ = (vf : Value)
  | 24 => vQ = (.pointer (some ⟨X, 2, none⟩) : Value)
  | 25 => vQ = (.int .i64 pd : Value)
  | 26 => vQ = (.pointer (some ⟨X, 3, none⟩) : Value)
  | 27 => vQ = (vt : Value)
  | 28 => vQ = (.pointer (some ⟨X + 1, 0, none⟩) : Value)
  | 29 => vQ = (.slice (some ⟨X + 1, 0, none⟩) 8 8 : Value)
  | 31 => vQ = (.bool true : Value)
  | 32 => vQ = (.bool true : Value)
  | 33 => vQ = undef
  | 34 => vQ = undef
  | 35 => vQ = undef
  | 36 => vQ = .bool true
  | 8 => vQ = .bool true
  | _ => True
def hold5TT (X : Nat) (vf vt : Value) (pd : Int) (xs : List Int) (tQ : Nat) (vQ : Value) (WQ : World) : Prop := if tQ = 30 then ∃ u, vQ = .agg #[.int .i64 pd, u] ∧ IntsV WQ u xs else hold5TV X vf vt pd tQ vQ
theorem hold5TT_mono (X : Nat) (vf vt : Value) (pd : Int) (xs : List Int) (tQ : Nat) (vQ : Value) (W W' : World) (hb : Below W.heap.size W W') (h : hold5TT X vf vt pd xs tQ vQ W) : hold5TT X vf vt pd xs tQ vQ W' := by
  unfold hold5TT at h ⊢
  by_cases ht : tQ = 30
  · rw [if_pos ht] at h ⊢
    obtain ⟨u, h1, h2⟩ := h
    exact ⟨u, h1, intsV_below h2 hb⟩
  · rw [if_neg ht] at h ⊢
    exact h

set_option maxRecDepth 100000 in
set_option maxHeartbeats 2000000 in
theorem hold2_any {σ : Type} {step : σ → Ru.Way → σ × Bool} {live : σ → Ru.Way → Prop} {I : σ → World → Prop} {NB hh : Nat} {cb : Array Value} (facts : List Rl.Fc) (l : Sc.Lit) (y : Ru.Way) (vf vt : Value) (w0 w : World) (s : σ)
    (hB0 : Below w0.heap.size w0 w) (hF : FactsV w0 vf facts) (hFl : facts.length ≤ 1000000) (hFF : ∀ f, f ∈ facts → FFit f) (hT : PTermsV w0 vt l.terms) (hTI : Ru.TermsIn 8 l.terms) (hTl : l.terms.length ≤ 1000) (hy : Ru.Wf 8 y) (hk : l.kind = 2)
    (TL : Tell w0.heap.size NB hh cb step live I) (he : ∀ args w, (callFunc hh args).run Tryz.prog w = .ok (.enter hh args) w) (hI : I s w) (hLv : Ru.Lv step live s (Ru.on facts l y)) :
    Calls Tryz.prog 145 #[vf, plitVal l vt, wayVal y, .func (.func hh) #[] cb] w fun e w' => e = .returned (.bool (Ru.run step s (Ru.on facts l y)).2) ∧ I (Ru.run step s (Ru.on facts l y)).1 w' ∧ Kp w0.heap.size NB w w' := by
  have HT : Hid _ := hT
  obtain ⟨at_, ct, rfl, _⟩ := id hT
  obtain ⟨kd, op, pd, ts⟩ := l
  dsimp only at *
  subst hk
  have hon : Ru.on facts ⟨2, op, pd, ts⟩ y = if Rl.has facts ⟨pd, Ru.fill ts y.nums⟩ = true then [] else [y] := by unfold Ru.on; rfl
  generalize hLL : Ru.on facts ⟨2, op, pd, ts⟩ y = LL at *
  have HON : Hid _ := hon
  clear hon hLL
  obtain ⟨h0, h1, hb⟩ := ru_two w (.cells #[.int .i64 2, .int .i64 op, .int .i64 pd, .slice at_ ts.length ct] 49) (.cells (wayArr y) 138)
  have hroom0 := TL.room s w hI
  have HL : Hid _ := h0
  have HW : Hid (WayAt ((w.alloc (.cells #[.int .i64 2, .int .i64 op, .int .i64 pd, .slice at_ ts.length ct] 49)).alloc (.cells (wayArr y) 138)) (w.heap.size + 1) y) := h1
  have HI : Hid _ := TL.grow _ _ _ hI hb
  have HK : Hid (Kp w0.heap.size NB w ((w.alloc (.cells #[.int .i64 2, .int .i64 op, .int .i64 pd, .slice at_ ts.length ct] 49)).alloc (.cells (wayArr y) 138))) := Kp.of_below hb hroom0.1
  have hBq := HK.out.below hB0
  have HTq : Hid _ := ptermsV_below hT hBq
  have HFq : Hid _ := factsV_below hF hBq
  have HFF : Hid _ := hFF
  have HTL : Hid _ := TL
  have HWF : Hid _ := hy
  have HTN : Hid (Ru.TermsIn y.nums.length ts) := by show Ru.TermsIn _ _; rw [hy.n]; exact hTI
  have HFN : Hid (FFit ⟨pd, Ru.fill ts y.nums⟩) := by show (Ru.fill ts y.nums).length ≤ _; unfold Ru.fill; rw [List.length_map]; omega
  have d0 : ((w.alloc (.cells #[.int .i64 2, .int .i64 op, .int .i64 pd, .slice at_ ts.length ct] 49)).alloc (.cells (wayArr y) 138)).cell? ⟨w.heap.size, 0, none⟩ = some (.int .i64 2) := by rw [Lib.cell_of_heap h0]; rfl
  have d2 : ((w.alloc (.cells #[.int .i64 2, .int .i64 op, .int .i64 pd, .slice at_ ts.length ct] 49)).alloc (.cells (wayArr y) 138)).cell? ⟨w.heap.size, 2, none⟩ = some (.int .i64 pd) := by rw [Lib.cell_of_heap h0]; rfl
  have d3 : ((w.alloc (.cells #[.int .i64 2, .int .i64 op, .int .i64 pd, .slice at_ ts.length ct] 49)).alloc (.cells (wayArr y) 138)).cell? ⟨w.heap.size, 3, none⟩ = some (.slice at_ ts.length ct) := by rw [Lib.cell_of_heap h0]; rfl
  have hroom := TL.room _ _ HI.out
  clear h0 h1 hb hT hI hB0 hF hFF hTI TL hBq HT HL
  go_enter Tryz.func145, Tryz.ntmps145
  go_upto_region 5 with fail
  generalize (w.alloc (.cells #[.int .i64 2, .int .i64 op, .int .i64 pd, .slice at_ ts.length ct] 49)).alloc (.cells (wayArr y) 138) = w1 at *
  cases hh0 : Rl.has facts ⟨pd, Ru.fill ts y.nums⟩
  · have HHAS : Hid _ := hh0
    have HL1 : Hid (LL = [y]) := by show _ = _; rw [HON.out, hh0]; rfl
    rw [HL1.out] at hLv
    have HLv2 : Hid _ := hLv.1
    have HE : Hid (Ru.run step s LL = ((step s y).1, (step s y).2)) := by
      show _ = _
      rw [HL1.out, Ru.run_cons]
      cases hq : (step s y).2 <;> rfl
    clear hh0 hLv HON HL1
    refine wp_region_tail (hold5FT w.heap.size vf (.slice at_ ts.length ct) pd (Ru.fill ts y.nums) y hh cb) 12 (by decide) (by kernel_rfl) (by kernel_rfl) (by kernel_rfl) (hold5FT_mono w.heap.size vf (.slice at_ ts.length ct) pd (Ru.fill ts y.nums) y hh cb) ?hopA ?htailA
    case hopA =>
      refine AllOps.cons (fun a y_ h => ?_) ?_
      · have e0 : a.eval (.tmp 0) = (vf : Value) := h.old 0 (by kernel_rfl)
        refine opOk_val (v := vf) (w' := y_) (wanted_none rfl) ?_ (fun t ht => by cases ht; exact rfl) (Below.refl _ _)
        have ec : ∀ v, a.eval (.const v) = v := fun _ => rfl
        generalize a.eval = ev at *
        clear h
        go_simp
      refine AllOps.cons (fun a y_ h => ?_) ?_
      · have e5 : a.eval (.tmp 5) = (.pointer (some ⟨w.heap.size, 0, none⟩) : Value) := h.old 5 (by kernel_rfl)
        refine opOk_val (v := .pointer (some ⟨w.heap.size, 2, none⟩)) (w' := y_) (wanted_none rfl) ?_ (fun t ht => by cases ht; exact rfl) (Below.refl _ _)
        have ec : ∀ v, a.eval (.const v) = v := fun _ => rfl
        generalize a.eval = ev at *
        clear h
        go_simp
      refine AllOps.cons (fun a y_ h => ?_) ?_
      · have e24 : a.eval (.tmp 24) = (.pointer (some ⟨w.heap.size, 2, none⟩) : Value) := h.of 24 (by kernel_rfl)
        have c2 := cell_below h.below d2
        refine opOk_val (v := .int .i64 pd) (w' := y_) (wanted_none rfl) ?_ (fun t ht => by cases ht; exact rfl) (Below.refl _ _)
        have ec : ∀ v, a.eval (.const v) = v := fun _ => rfl
        generalize a.eval = ev at *
        clear h
        go_simp
      refine AllOps.cons (fun a y_ h => ?_) ?_
      · have e5 : a.eval (.tmp 5) = (.pointer (some ⟨w.heap.size, 0, none⟩) : Value) := h.old 5 (by kernel_rfl)
        refine opOk_val (v := .pointer (some ⟨w.heap.size, 3, none⟩)) (w' := y_) (wanted_none rfl) ?_ (fun t ht => by cases ht; exact rfl) (Below.refl _ _)
        have ec : ∀ v, a.eval (.const v) = v := fun _ => rfl
        generalize a.eval = ev at *
        clear h
        go_simp
      refine AllOps.cons (fun a y_ h => ?_) ?_
      · have e26 : a.eval (.tmp 26) = (.pointer (some ⟨w.heap.size, 3, none⟩) : Value) := h.of 26 (by kernel_rfl)
        have c3 := cell_below h.below d3
        refine opOk_val (v := .slice at_ ts.length ct) (w' := y_) (wanted_none rfl) ?_ (fun t ht => by cases ht; exact rfl) (Below.refl _ _)
        have ec : ∀ v, a.eval (.const v) = v := fun _ => rfl
        generalize a.eval = ev at *
        clear h
        go_simp
      refine AllOps.cons (fun a y_ h => ?_) ?_
      · have e6 : a.eval (.tmp 6) = (.pointer (some ⟨w.heap.size + 1, 0, none⟩) : Value) := h.old 6 (by kernel_rfl)
        refine opOk_val (v := .pointer (some ⟨w.heap.size + 1, 0, none⟩)) (w' := y_) (wanted_none rfl) ?_ (fun t ht => by cases ht; exact rfl) (Below.refl _ _)
        have ec : ∀ v, a.eval (.const v) = v := fun _ => rfl
        generalize a.eval = ev at *
        clear h
        go_simp
      refine AllOps.cons (fun a y_ h => ?_) ?_
      · have e28 : a.eval (.tmp 28) = (.pointer (some ⟨w.heap.size + 1, 0, none⟩) : Value) := h.of 28 (by kernel_rfl)
        refine opOk_val (v := .slice (some ⟨w.heap.size + 1, 0, none⟩) 8 8) (w' := y_) (wanted_none rfl) ?_ (fun t ht => by cases ht; exact rfl) (Below.refl _ _)
        have ec : ∀ v, a.eval (.const v) = v := fun _ => rfl
        generalize a.eval = ev at *
        clear h
        go_simp
      refine AllOps.cons (fun a y_ h => ?_) ?_
      · have e25 : a.eval (.tmp 25) = (.int .i64 pd : Value) := h.of 25 (by kernel_rfl)
        have e27 : a.eval (.tmp 27) = (.slice at_ ts.length ct : Value) := h.of 27 (by kernel_rfl)
        have e29 : a.eval (.tmp 29) = (.slice (some ⟨w.heap.size + 1, 0, none⟩) 8 8 : Value) := h.of 29 (by kernel_rfl)
        refine opOk_call (f := 57) (args := #[.int .i64 pd, .slice at_ ts.length ct, .slice (some ⟨w.heap.size + 1, 0, none⟩) 8 8]) (wanted_none rfl) ?_ ?_
        · have ec : ∀ v, a.eval (.const v) = v := fun _ => rfl
          have ef : ∀ f, a.eval (.func f) = .func (.func f) #[] #[] := fun _ => rfl
          generalize a.eval = ev at *
          clear h
          go_simp
        · refine Calls.mono (FillFact_any pd ts y.nums _ _ y_ (ptermsV_below HTq.out h.below) (WayAt.ints (WayAt.below HW.out h.below) hy) (by omega) HTN.out) ?_
          rintro _ y2 ⟨v, rfl, hv, hb2⟩
          exact ⟨_, rfl, fun t ht => by cases ht; exact ⟨v, rfl, hv.ints⟩, hb2⟩
      refine AllOps.cons (fun a y_ h => ?_) ?_
      · have e23 : a.eval (.tmp 23) = (vf : Value) := h.of 23 (by kernel_rfl)
        obtain ⟨u, e30, hu⟩ : ∃ u, a.eval (.tmp 30) = .agg #[.int .i64 pd, u] ∧ IntsV y_ u (Ru.fill ts y.nums) := h.of 30 (by kernel_rfl)
        refine opOk_call (f := 185) (args := #[vf, .agg #[.int .i64 pd, u]]) (wanted_none rfl) ?_ ?_
        · have ec : ∀ v, a.eval (.const v) = v := fun _ => rfl
          have ef : ∀ f, a.eval (.func f) = .func (.func f) #[] #[] := fun _ => rfl
          generalize a.eval = ev at *
          clear h
          go_simp
        · refine Calls.mono (Has_any facts ⟨pd, Ru.fill ts y.nums⟩ _ _ y_ (factsV_below HFq.out h.below) hu (by omega) HFF.out HFN.out) ?_
          rintro _ y2 ⟨rfl, hb2⟩
          exact ⟨_, rfl, fun t ht => by cases ht; exact congrArg Value.bool HHAS.out, hb2⟩
      refine AllOps.cons (fun a y_ h => ?_) ?_
      · have e31 : a.eval (.tmp 31) = (.bool false : Value) := h.of 31 (by kernel_rfl)
        refine opOk_val (v := .bool false) (w' := y_) (wanted_none rfl) ?_ (fun t ht => by cases ht; exact rfl) (Below.refl _ _)
        have ec : ∀ v, a.eval (.const v) = v := fun _ => rfl
        generalize a.eval = ev at *
        clear h
        go_simp
      refine AllOps.cons (fun a y_ h => ?_) ?_
      · have e3 : a.eval (.tmp 3) = (.func (.func hh) #[] cb : Value) := h.old 3 (by kernel_rfl)
        refine opOk_val (v := .func (.func hh) #[] cb) (w' := y_) (wanted_some (j := 9) (t := 32) (b := false) rfl rfl rfl (h.of 32 (by kernel_rfl))) ?_ (fun t ht => by cases ht; exact rfl) (Below.refl _ _)
        have ec : ∀ v, a.eval (.const v) = v := fun _ => rfl
        generalize a.eval = ev at *
        clear h
        go_simp
      refine AllOps.cons (fun a y_ h => ?_) ?_
      · have e6 : a.eval (.tmp 6) = (.pointer (some ⟨w.heap.size + 1, 0, none⟩) : Value) := h.old 6 (by kernel_rfl)
        refine opOk_val (v := wayVal y) (w' := y_) (wanted_some (j := 9) (t := 32) (b := false) rfl rfl rfl (h.of 32 (by kernel_rfl))) ?_ (fun t ht => by cases ht; exact rfl) (Below.refl _ _)
        exact load_way rfl e6 (WayAt.below HW.out h.below) hy
      exact AllOps.nil
    case htailA =>
      rintro ⟨tm0, df⟩ y_ hI
      have e33 : Act.eval ⟨tm0, df⟩ (.tmp 33) = .func (.func hh) #[] cb := hI.all 10 _ 33 (by decide) rfl rfl
      have e34 : Act.eval ⟨tm0, df⟩ (.tmp 34) = wayVal y := hI.all 11 _ 34 (by decide) rfl rfl
      have e32 : tm0.getD 32 undef = .bool false := hI.all 9 _ 32 (by decide) rfl rfl
      have hsN : tm0.size = 97 := hI.size
      show wpOps Tryz.prog _ _ [12, 13, 14] _ _
      rw [wpOps_cons]
      refine wpOp_call (f := hh) (args := #[wayVal y] ++ cb) rfl (wanted_some (j := 9) (t := 32) (b := false) rfl rfl rfl e32) ?_ ?_
      · show Sem.run Tryz.prog (execOp (Act.eval ⟨tm0, df⟩) _) y_ = _
        generalize Act.eval ⟨tm0, df⟩ = ev at *
        clear hI
        go_simp
      refine Calls.mono (HTL.out.call s y_ y (HTL.out.grow _ _ _ HI.out hI.below) HLv2.out HWF.out) ?_
      rintro eR w4 ⟨he4, hI4, hK4⟩
      refine ⟨_, he4, ?_⟩
      rw [wpOps_cons]
      refine wpOp_val (v := (.bool (step s y).2)) (w' := w4) rfl (wanted_none rfl) ?_ ?_
      · have q1 : Act.eval (Act.put ⟨tm0, df⟩ (some 35) (.bool (step s y).2)) (.tmp 32) = .bool false := (put_get_ne (a := ⟨tm0, df⟩) (t := 35) (u := 32) (by decide)).trans e32
        have q2 : Act.eval (Act.put ⟨tm0, df⟩ (some 35) (.bool (step s y).2)) (.tmp 35) = (.bool (step s y).2) := put_get_self (by show 35 < tm0.size; omega)
        have ec : ∀ v, Act.eval (Act.put ⟨tm0, df⟩ (some 35) (.bool (step s y).2)) (.const v) = v := fun _ => rfl
        show Sem.run Tryz.prog (execOp (Act.eval (Act.put ⟨tm0, df⟩ (some 35) (.bool (step s y).2))) _) w4 = _
        generalize Act.eval (Act.put ⟨tm0, df⟩ (some 35) (.bool (step s y).2)) = ev at *
        clear hI
        go_simp
      rw [wpOps_cons]
      refine wpOp_val (v := (.bool (step s y).2)) (w' := w4) rfl (wanted_none rfl) ?_ ?_
      · have q2 : Act.eval (Act.put (Act.put ⟨tm0, df⟩ (some 35) (.bool (step s y).2)) (some 36) (.bool (step s y).2)) (.tmp 36) = (.bool (step s y).2) := put_get_self (by rw [put_size]; show 36 < tm0.size; omega)
        show Sem.run Tryz.prog (execOp (Act.eval (Act.put (Act.put ⟨tm0, df⟩ (some 35) (.bool (step s y).2)) (some 36) (.bool (step s y).2))) _) w4 = _
        generalize Act.eval (Act.put (Act.put ⟨tm0, df⟩ (some 35) (.bool (step s y).2)) (some 36) (.bool (step s y).2)) = ev at *
        clear hI
        go_simp
      have hst : ∀ t, t ∉ [23, 24, 25, 26, 27, 28, 29, 30, 31, 32, 33, 34, 35, 36, 8] → (((tm0.setIfInBounds 35 (.bool (step s y).2)).setIfInBounds 36 (.bool (step s y).2)).setIfInBounds 8 (.bool (step s y).2)).getD t undef = _ := fun t ht => by
        have hA : t ≠ 35 := fun e => ht (by rw [e]; decide)
        have hB : t ≠ 36 := fun e => ht (by rw [e]; decide)
        have hC : t ≠ 8 := fun e => ht (by rw [e]; decide)
        exact ((put_get_ne (a := (Act.put (Act.put ⟨tm0, df⟩ (some 35) (.bool (step s y).2)) (some 36) (.bool (step s y).2))) hC).trans ((put_get_ne (a := Act.put ⟨tm0, df⟩ (some 35) (.bool (step s y).2)) hB).trans (put_get_ne (a := ⟨tm0, df⟩) hA))).trans (hI.still t ht)
      have h8 : (((tm0.setIfInBounds 35 (.bool (step s y).2)).setIfInBounds 36 (.bool (step s y).2)).setIfInBounds 8 (.bool (step s y).2)).getD 8 undef = (.bool (step s y).2) := put_get_self (a := (Act.put (Act.put ⟨tm0, df⟩ (some 35) (.bool (step s y).2)) (some 36) (.bool (step s y).2))) (by rw [put_size, put_size]; show 8 < tm0.size; omega)
      have hKy : Kp w0.heap.size NB _ _ := Kp.of_below hI.below hroom.1
      obtain rfl : df = [] := hI.defers
      have hs2 : (((tm0.setIfInBounds 35 (.bool (step s y).2)).setIfInBounds 36 (.bool (step s y).2)).setIfInBounds 8 (.bool (step s y).2)).size = 97 := by simp [hsN]
      clear hI e33 e34 e32 hsN he4
      show Exit.then _ _ Exit.normal ⟨(((tm0.setIfInBounds 35 (.bool (step s y).2)).setIfInBounds 36 (.bool (step s y).2)).setIfInBounds 8 (.bool (step s y).2)), []⟩ w4
      generalize (((tm0.setIfInBounds 35 (.bool (step s y).2)).setIfInBounds 36 (.bool (step s y).2)).setIfInBounds 8 (.bool (step s y).2)) = tm at *
      have hF8 := tmps_fold [23, 24, 25, 26, 27, 28, 29, 30, 31, 32, 33, 34, 35, 36, 8] tm _ (hs2.trans (by rfl)) hst
      clear hs2 hst
      simp only [List.foldl_cons, List.foldl_nil, h8] at hF8
      clear h8
      generalize tm.getD 23 undef = x23 at hF8
      generalize tm.getD 24 undef = x24 at hF8
      generalize tm.getD 25 undef = x25 at hF8
      generalize tm.getD 26 undef = x26 at hF8
      generalize tm.getD 27 undef = x27 at hF8
      generalize tm.getD 28 undef = x28 at hF8
      generalize tm.getD 29 undef = x29 at hF8
      generalize tm.getD 30 undef = x30 at hF8
      generalize tm.getD 31 undef = x31 at hF8
      generalize tm.getD 32 undef = x32 at hF8
      generalize tm.getD 33 undef = x33 at hF8
      generalize tm.getD 34 undef = x34 at hF8
      generalize tm.getD 35 undef = x35 at hF8
      generalize tm.getD 36 undef = x36 at hF8
      simp only [List.setIfInBounds_toArray, List.set_cons_zero, List.set_cons_succ] at hF8
      subst hF8
      go_wp2_with fail
      go_ret
      exact ⟨by rw [HE.out]; rfl, by rw [HE.out]; exact hI4, HK.out.trans (hKy.trans hK4)⟩
  · have HHAS : Hid _ := hh0
    have HE : Hid (Ru.run step s LL = (s, true)) := by show _ = _; rw [HON.out, hh0]; rfl
    clear hh0 hLv HON
    refine wp_region_tabA (hold5TT w.heap.size vf (.slice at_ ts.length ct) pd (Ru.fill ts y.nums)) (by kernel_rfl) (by kernel_rfl) (hold5TT_mono w.heap.size vf (.slice at_ ts.length ct) pd (Ru.fill ts y.nums)) ?hopB ?hendB
    case hopB =>
      refine AllOps.cons (fun a y_ h => ?_) ?_
      · have e0 : a.eval (.tmp 0) = (vf : Value) := h.old 0 (by kernel_rfl)
        refine opOk_val (v := vf) (w' := y_) (wanted_none rfl) ?_ (fun t ht => by cases ht; exact rfl) (Below.refl _ _)
        have ec : ∀ v, a.eval (.const v) = v := fun _ => rfl
        generalize a.eval = ev at *
        clear h
        go_simp
      refine AllOps.cons (fun a y_ h => ?_) ?_
      · have e5 : a.eval (.tmp 5) = (.pointer (some ⟨w.heap.size, 0, none⟩) : Value) := h.old 5 (by kernel_rfl)
        refine opOk_val (v := .pointer (some ⟨w.heap.size, 2, none⟩)) (w' := y_) (wanted_none rfl) ?_ (fun t ht => by cases ht; exact rfl) (Below.refl _ _)
        have ec : ∀ v, a.eval (.const v) = v := fun _ => rfl
        generalize a.eval = ev at *
        clear h
        go_simp
      refine AllOps.cons (fun a y_ h => ?_) ?_
      · have e24 : a.eval (.tmp 24) = (.pointer (some ⟨w.heap.size, 2, none⟩) : Value) := h.of 24 (by kernel_rfl)
        have c2 := cell_below h.below d2
        refine opOk_val (v := .int .i64 pd) (w' := y_) (wanted_none rfl) ?_ (fun t ht => by cases ht; exact rfl) (Below.refl _ _)
        have ec : ∀ v, a.eval (.const v) = v := fun _ => rfl
        generalize a.eval = ev at *
        clear h
        go_simp
      refine AllOps.cons (fun a y_ h => ?_) ?_
      · have e5 : a.eval (.tmp 5) = (.pointer (some ⟨w.heap.size, 0, none⟩) : Value) := h.old 5 (by kernel_rfl)
        refine opOk_val (v := .pointer (some ⟨w.heap.size, 3, none⟩)) (w' := y_) (wanted_none rfl) ?_ (fun t ht => by cases ht; exact rfl) (Below.refl _ _)
        have ec : ∀ v, a.eval (.const v) = v := fun _ => rfl
        generalize a.eval = ev at *
        clear h
        go_simp
      refine AllOps.cons (fun a y_ h => ?_) ?_
      · have e26 : a.eval (.tmp 26) = (.pointer (some ⟨w.heap.size, 3, none⟩) : Value) := h.of 26 (by kernel_rfl)
        have c3 := cell_below h.below d3
        refine opOk_val (v := .slice at_ ts.length ct) (w' := y_) (wanted_none rfl) ?_ (fun t ht => by cases ht; exact rfl) (Below.refl _ _)
        have ec : ∀ v, a.eval (.const v) = v := fun _ => rfl
        generalize a.eval = ev at *
        clear h
        go_simp
      refine AllOps.cons (fun a y_ h => ?_) ?_
      · have e6 : a.eval (.tmp 6) = (.pointer (some ⟨w.heap.size + 1, 0, none⟩) : Value) := h.old 6 (by kernel_rfl)
        refine opOk_val (v := .pointer (some ⟨w.heap.size + 1, 0, none⟩)) (w' := y_) (wanted_none rfl) ?_ (fun t ht => by cases ht; exact rfl) (Below.refl _ _)
        have ec : ∀ v, a.eval (.const v) = v := fun _ => rfl
        generalize a.eval = ev at *
        clear h
        go_simp
      refine AllOps.cons (fun a y_ h => ?_) ?_
      · have e28 : a.eval (.tmp 28) = (.pointer (some ⟨w.heap.size + 1, 0, none⟩) : Value) := h.of 28 (by kernel_rfl)
        refine opOk_val (v := .slice (some ⟨w.heap.size + 1, 0, none⟩) 8 8) (w' := y_) (wanted_none rfl) ?_ (fun t ht => by cases ht; exact rfl) (Below.refl _ _)
        have ec : ∀ v, a.eval (.const v) = v := fun _ => rfl
        generalize a.eval = ev at *
        clear h
        go_simp
      refine AllOps.cons (fun a y_ h => ?_) ?_
      · have e25 : a.eval (.tmp 25) = (.int .i64 pd : Value) := h.of 25 (by kernel_rfl)
        have e27 : a.eval (.tmp 27) = (.slice at_ ts.length ct : Value) := h.of 27 (by kernel_rfl)
        have e29 : a.eval (.tmp 29) = (.slice (some ⟨w.heap.size + 1, 0, none⟩) 8 8 : Value) := h.of 29 (by kernel_rfl)
        refine opOk_call (f := 57) (args := #[.int .i64 pd, .slice at_ ts.length ct, .slice (some ⟨w.heap.size + 1, 0, none⟩) 8 8]) (wanted_none rfl) ?_ ?_
        · have ec : ∀ v, a.eval (.const v) = v := fun _ => rfl
          have ef : ∀ f, a.eval (.func f) = .func (.func f) #[] #[] := fun _ => rfl
          generalize a.eval = ev at *
          clear h
          go_simp
        · refine Calls.mono (FillFact_any pd ts y.nums _ _ y_ (ptermsV_below HTq.out h.below) (WayAt.ints (WayAt.below HW.out h.below) hy) (by omega) HTN.out) ?_
          rintro _ y2 ⟨v, rfl, hv, hb2⟩
          exact ⟨_, rfl, fun t ht => by cases ht; exact ⟨v, rfl, hv.ints⟩, hb2⟩
      refine AllOps.cons (fun a y_ h => ?_) ?_
      · have e23 : a.eval (.tmp 23) = (vf : Value) := h.of 23 (by kernel_rfl)
        obtain ⟨u, e30, hu⟩ : ∃ u, a.eval (.tmp 30) = .agg #[.int .i64 pd, u] ∧ IntsV y_ u (Ru.fill ts y.nums) := h.of 30 (by kernel_rfl)
        refine opOk_call (f := 185) (args := #[vf, .agg #[.int .i64 pd, u]]) (wanted_none rfl) ?_ ?_
        · have ec : ∀ v, a.eval (.const v) = v := fun _ => rfl
          have ef : ∀ f, a.eval (.func f) = .func (.func f) #[] #[] := fun _ => rfl
          generalize a.eval = ev at *
          clear h
          go_simp
        · refine Calls.mono (Has_any facts ⟨pd, Ru.fill ts y.nums⟩ _ _ y_ (factsV_below HFq.out h.below) hu (by omega) HFF.out HFN.out) ?_
          rintro _ y2 ⟨rfl, hb2⟩
          exact ⟨_, rfl, fun t ht => by cases ht; exact congrArg Value.bool HHAS.out, hb2⟩
      refine AllOps.cons (fun a y_ h => ?_) ?_
      · have e31 : a.eval (.tmp 31) = (.bool true : Value) := h.of 31 (by kernel_rfl)
        refine opOk_val (v := .bool true) (w' := y_) (wanted_none rfl) ?_ (fun t ht => by cases ht; exact rfl) (Below.refl _ _)
        have ec : ∀ v, a.eval (.const v) = v := fun _ => rfl
        generalize a.eval = ev at *
        clear h
        go_simp
      refine AllOps.cons (fun a y_ h => ?_) ?_
      · exact opOk_skip (j := 9) (t := 32) (b := false) (c := true) rfl rfl rfl (h.of 32 (by kernel_rfl)) (by decide) (fun t ht => by cases ht; exact rfl)
      refine AllOps.cons (fun a y_ h => ?_) ?_
      · exact opOk_skip (j := 9) (t := 32) (b := false) (c := true) rfl rfl rfl (h.of 32 (by kernel_rfl)) (by decide) (fun t ht => by cases ht; exact rfl)
      refine AllOps.cons (fun a y_ h => ?_) ?_
      · exact opOk_skip (j := 9) (t := 32) (b := false) (c := true) rfl rfl rfl (h.of 32 (by kernel_rfl)) (by decide) (fun t ht => by cases ht; exact rfl)
      refine AllOps.cons (fun a y_ h => ?_) ?_
      · have e32 : a.eval (.tmp 32) = (.bool true : Value) := h.of 32 (by kernel_rfl)
        have e35 : a.eval (.tmp 35) = (undef : Value) := h.of 35 (by kernel_rfl)
        refine opOk_val (v := .bool true) (w' := y_) (wanted_none rfl) ?_ (fun t ht => by cases ht; exact rfl) (Below.refl _ _)
        have ec : ∀ v, a.eval (.const v) = v := fun _ => rfl
        generalize a.eval = ev at *
        clear h
        go_simp
      refine AllOps.cons (fun a y_ h => ?_) ?_
      · have e36 : a.eval (.tmp 36) = (.bool true : Value) := h.of 36 (by kernel_rfl)
        refine opOk_val (v := .bool true) (w' := y_) (wanted_none rfl) ?_ (fun t ht => by cases ht; exact rfl) (Below.refl _ _)
        have ec : ∀ v, a.eval (.const v) = v := fun _ => rfl
        generalize a.eval = ev at *
        clear h
        go_simp
      exact AllOps.nil
    case hendB =>
      rintro ⟨tm, df⟩ wE hbE hdE hsE hstE hTE
      have h8 : tm.getD 8 undef = .bool true := ends_at (T := hold5TT w.heap.size vf (.slice at_ ts.length ct) pd (Ru.fill ts y.nums)) (w := wE) (a := ⟨tm, df⟩) (t := 8) hTE (by kernel_rfl)
      obtain rfl : df = [] := hdE
      have hFE := tmps_fold [23, 24, 25, 26, 27, 28, 29, 30, 31, 32, 33, 34, 35, 36, 8] tm _ hsE hstE
      clear hsE hstE hTE
      simp only [List.foldl_cons, List.foldl_nil, h8] at hFE
      clear h8
      generalize tm.getD 23 undef = x23 at hFE
      generalize tm.getD 24 undef = x24 at hFE
      generalize tm.getD 25 undef = x25 at hFE
      generalize tm.getD 26 undef = x26 at hFE
      generalize tm.getD 27 undef = x27 at hFE
      generalize tm.getD 28 undef = x28 at hFE
      generalize tm.getD 29 undef = x29 at hFE
      generalize tm.getD 30 undef = x30 at hFE
      generalize tm.getD 31 undef = x31 at hFE
      generalize tm.getD 32 undef = x32 at hFE
      generalize tm.getD 33 undef = x33 at hFE
      generalize tm.getD 34 undef = x34 at hFE
      generalize tm.getD 35 undef = x35 at hFE
      generalize tm.getD 36 undef = x36 at hFE
      simp only [List.setIfInBounds_toArray, List.set_cons_zero, List.set_cons_succ] at hFE
      subst hFE
      have hKy : Kp w0.heap.size NB _ _ := Kp.of_below hbE hroom.1
      have HIE : Hid _ := HTL.out.grow _ _ _ HI.out hbE
      clear hbE
      go_wp2_with fail
      go_ret
      exact ⟨by rw [HE.out]; rfl, by rw [HE.out]; exact HIE.out, HK.out.trans hKy⟩
end Go.Proofs.YthenjegmigeieaaGreat

/- hold: a test. -/
namespace Go.Proofs.YthenjegmigeieaaGreat
open Go.RowKit

def hold7T (y : Ru.Way) (X b off ct : Nat) (op : Int) (t0 t1 : Sc.Term) (hh : Nat) (cb : Array Value) : Nat → Value
  | 39 => .pointer (some ⟨X, 1, none⟩)
  | 40 => .int .i64 op
  | 41 => wayVal y
  | 42 => .pointer (some ⟨X, 3, none⟩)
  | 43 => .slice (some ⟨b, off, none⟩) 2 ct
  | 44 => .pointer (some ⟨b, off, none⟩)
  | 45 => ptermVal t0
  | 46 => .int .i64 (Ru.num y.nums t0)
  | 47 => wayVal y
  | 48 => .pointer (some ⟨X, 3, none⟩)
  | 49 => .slice (some ⟨b, off, none⟩) 2 ct
  | 50 => .pointer (some ⟨b, off + 2, none⟩)
  | 51 => ptermVal t1
  | 52 => .int .i64 (Ru.num y.nums t1)
  | 53 => .bool true
  | 54 => .bool false
  | 55 => .bool false
  | 56 => .func (.func hh) #[] cb
  | 57 => wayVal y
  | _ => .bool false

def hold7F (y : Ru.Way) (X b off ct : Nat) (op : Int) (t0 t1 : Sc.Term) : Nat → Value
  | 39 => .pointer (some ⟨X, 1, none⟩)
  | 40 => .int .i64 op
  | 41 => wayVal y
  | 42 => .pointer (some ⟨X, 3, none⟩)
  | 43 => .slice (some ⟨b, off, none⟩) 2 ct
  | 44 => .pointer (some ⟨b, off, none⟩)
  | 45 => ptermVal t0
  | 46 => .int .i64 (Ru.num y.nums t0)
  | 47 => wayVal y
  | 48 => .pointer (some ⟨X, 3, none⟩)
  | 49 => .slice (some ⟨b, off, none⟩) 2 ct
  | 50 => .pointer (some ⟨b, off + 2, none⟩)
  | 51 => ptermVal t1
  | 52 => .int .i64 (Ru.num y.nums t1)
  | 53 => .bool false
  | 54 => .bool true
  | 55 => .bool true
  | 56 => undef
  | 57 => undef
  | 58 => undef
  | 59 => .bool true
  | 8 => .bool true
  | _ => .bool false

set_option maxRecDepth 100000 in
set_option maxHeartbeats 2000000 in
theorem hold3_any {σ : Type} {step : σ → Ru.Way → σ × Bool} {live : σ → Ru.Way → Prop} {I : σ → World → Prop} {NB hh : Nat} {cb : Array Value} (facts : List Rl.Fc) (l : Sc.Lit) (y : Ru.Way) (vf vt : Value) (w0 w : World) (s : σ)
    (hB0 : Below w0.heap.size w0 w) (hT : PTermsV w0 vt l.terms) (hTI : Ru.TermsIn 8 l.terms) (hTl : l.terms.length = 2) (hy : Ru.Wf 8 y) (hk : l.kind = 3)
    (TL : Tell w0.heap.size NB hh cb step live I) (he : ∀ args w, (callFunc hh args).run Tryz.prog w = .ok (.enter hh args) w) (hI : I s w) (hLv : Ru.Lv step live s (Ru.on facts l y)) :
    Calls Tryz.prog 145 #[vf, plitVal l vt, wayVal y, .func (.func hh) #[] cb] w fun e w' => e = .returned (.bool (Ru.run step s (Ru.on facts l y)).2) ∧ I (Ru.run step s (Ru.on facts l y)).1 w' ∧ Kp w0.heap.size NB w w' := by
  obtain ⟨at_, ct, rfl, _, hTA⟩ := id hT
  obtain ⟨kd, op, pd, ts⟩ := l
  dsimp only at *
  subst hk
  obtain ⟨t0, t1, rfl⟩ : ∃ t0 t1, ts = [t0, t1] := by
    match ts, hTl with
    | [a, b], _ => exact ⟨a, b, rfl⟩
  have hon : Ru.on facts ⟨3, op, pd, [t0, t1]⟩ y = if Ru.isSo op (Ru.num y.nums t0) (Ru.num y.nums t1) = true then [y] else [] := by unfold Ru.on; rfl
  generalize hLL : Ru.on facts ⟨3, op, pd, [t0, t1]⟩ y = LL at *
  have HON : Hid _ := hon
  have HT0 : Hid (Ru.TermIn 8 t0) := hTI t0 (by simp)
  have HT1 : Hid (Ru.TermIn 8 t1) := hTI t1 (by simp)
  obtain ⟨b, off, rfl, hc⟩ := pterms_at hTA 0 (by simp)
  obtain ⟨p0, p1⟩ := hc 0 (by simp)
  obtain ⟨p2, p3⟩ := hc 1 (by simp)
  rw [Nat.zero_mul, Nat.add_zero] at p0 p1
  rw [Nat.one_mul] at p2 p3
  clear hon hLL hc hTA hT hTI hTl
  show Calls Tryz.prog 145 #[vf, .agg #[.int .i64 3, .int .i64 op, .int .i64 pd, .slice (some ⟨b, off, none⟩) 2 ct], wayVal y, .func (.func hh) #[] cb] w _
  obtain ⟨h0, h1, hb⟩ := ru_two w (.cells #[.int .i64 3, .int .i64 op, .int .i64 pd, .slice (some ⟨b, off, none⟩) 2 ct] 49) (.cells (wayArr y) 138)
  have hroom0 := TL.room s w hI
  have HW : Hid (WayAt ((w.alloc (.cells #[.int .i64 3, .int .i64 op, .int .i64 pd, .slice (some ⟨b, off, none⟩) 2 ct] 49)).alloc (.cells (wayArr y) 138)) (w.heap.size + 1) y) := h1
  have HI : Hid _ := TL.grow _ _ _ hI hb
  have HK : Hid (Kp w0.heap.size NB w ((w.alloc (.cells #[.int .i64 3, .int .i64 op, .int .i64 pd, .slice (some ⟨b, off, none⟩) 2 ct] 49)).alloc (.cells (wayArr y) 138))) := Kp.of_below hb hroom0.1
  have hBq := HK.out.below hB0
  replace p0 : ((w.alloc (.cells #[.int .i64 3, .int .i64 op, .int .i64 pd, .slice (some ⟨b, off, none⟩) 2 ct] 49)).alloc (.cells (wayArr y) 138)).cell? ⟨b, off, none⟩ = some (.int .i64 t0.var) := cell_below hBq p0
  replace p1 : ((w.alloc (.cells #[.int .i64 3, .int .i64 op, .int .i64 pd, .slice (some ⟨b, off, none⟩) 2 ct] 49)).alloc (.cells (wayArr y) 138)).cell? ⟨b, off + 1, none⟩ = some (.int .i64 t0.n) := cell_below hBq p1
  replace p2 : ((w.alloc (.cells #[.int .i64 3, .int .i64 op, .int .i64 pd, .slice (some ⟨b, off, none⟩) 2 ct] 49)).alloc (.cells (wayArr y) 138)).cell? ⟨b, off + 2, none⟩ = some (.int .i64 t1.var) := cell_below hBq p2
  replace p3 : ((w.alloc (.cells #[.int .i64 3, .int .i64 op, .int .i64 pd, .slice (some ⟨b, off, none⟩) 2 ct] 49)).alloc (.cells (wayArr y) 138)).cell? ⟨b, off + 2 + 1, none⟩ = some (.int .i64 t1.n) := cell_below hBq p3
  have HTL : Hid _ := TL
  have HWF : Hid _ := hy
  have d0 : ((w.alloc (.cells #[.int .i64 3, .int .i64 op, .int .i64 pd, .slice (some ⟨b, off, none⟩) 2 ct] 49)).alloc (.cells (wayArr y) 138)).cell? ⟨w.heap.size, 0, none⟩ = some (.int .i64 3) := by rw [Lib.cell_of_heap h0]; rfl
  have d1 : ((w.alloc (.cells #[.int .i64 3, .int .i64 op, .int .i64 pd, .slice (some ⟨b, off, none⟩) 2 ct] 49)).alloc (.cells (wayArr y) 138)).cell? ⟨w.heap.size, 1, none⟩ = some (.int .i64 op) := by rw [Lib.cell_of_heap h0]; rfl
  have d3 : ((w.alloc (.cells #[.int .i64 3, .int .i64 op, .int .i64 pd, .slice (some ⟨b, off, none⟩) 2 ct] 49)).alloc (.cells (wayArr y) 138)).cell? ⟨w.heap.size, 3, none⟩ = some (.slice (some ⟨b, off, none⟩) 2 ct) := by rw [Lib.cell_of_heap h0]; rfl
  have hroom := TL.room _ _ HI.out
  clear h0 h1 hb hI hB0 TL hBq
  go_enter Tryz.func145, Tryz.ntmps145
  go_upto_region 7 with fail
  generalize ((w.alloc (.cells #[.int .i64 3, .int .i64 op, .int .i64 pd, .slice (some ⟨b, off, none⟩) 2 ct] 49)).alloc (.cells (wayArr y) 138)) = w1 at *
  cases hso : Ru.isSo op (Ru.num y.nums t0) (Ru.num y.nums t1)
  · have HSO : Hid _ := hso
    have HE : Hid (Ru.run step s LL = (s, true)) := by show _ = _; rw [HON.out, hso]; rfl
    clear hso hLv HON
    refine wp_region_tabA (fun tQ vQ _ => vQ = hold7F y w.heap.size b off ct op t0 t1 tQ) (by kernel_rfl) (by kernel_rfl) (fun _ _ _ _ _ h => h) ?hopB ?hendB
    case hopB =>
      refine AllOps.cons (fun a y_ h => ?_) ?_
      · have e5 : a.eval (.tmp 5) = (.pointer (some ⟨w.heap.size, 0, none⟩) : Value) := h.old 5 (by kernel_rfl)
        refine opOk_val (v := .pointer (some ⟨w.heap.size, 1, none⟩)) (w' := y_) (wanted_none rfl) ?_ (fun t ht => by cases ht; exact rfl) (Below.refl _ _)
        have ec : ∀ v, a.eval (.const v) = v := fun _ => rfl
        generalize a.eval = ev at *
        clear h
        go_simp
      refine AllOps.cons (fun a y_ h => ?_) ?_
      · have e39 : a.eval (.tmp 39) = (.pointer (some ⟨w.heap.size, 1, none⟩) : Value) := h.of 39 (by kernel_rfl)
        have c1 := cell_below h.below d1
        refine opOk_val (v := .int .i64 op) (w' := y_) (wanted_none rfl) ?_ (fun t ht => by cases ht; exact rfl) (Below.refl _ _)
        have ec : ∀ v, a.eval (.const v) = v := fun _ => rfl
        generalize a.eval = ev at *
        clear h
        go_simp
      refine AllOps.cons (fun a y_ h => ?_) ?_
      · have e6 : a.eval (.tmp 6) = (.pointer (some ⟨w.heap.size + 1, 0, none⟩) : Value) := h.old 6 (by kernel_rfl)
        refine opOk_val (v := wayVal y) (w' := y_) (wanted_none rfl) ?_ (fun t ht => by cases ht; exact rfl) (Below.refl _ _)
        exact load_way rfl e6 (WayAt.below HW.out h.below) hy
      refine AllOps.cons (fun a y_ h => ?_) ?_
      · have e5 : a.eval (.tmp 5) = (.pointer (some ⟨w.heap.size, 0, none⟩) : Value) := h.old 5 (by kernel_rfl)
        refine opOk_val (v := .pointer (some ⟨w.heap.size, 3, none⟩)) (w' := y_) (wanted_none rfl) ?_ (fun t ht => by cases ht; exact rfl) (Below.refl _ _)
        have ec : ∀ v, a.eval (.const v) = v := fun _ => rfl
        generalize a.eval = ev at *
        clear h
        go_simp
      refine AllOps.cons (fun a y_ h => ?_) ?_
      · have e42 : a.eval (.tmp 42) = (.pointer (some ⟨w.heap.size, 3, none⟩) : Value) := h.of 42 (by kernel_rfl)
        have c3 := cell_below h.below d3
        refine opOk_val (v := .slice (some ⟨b, off, none⟩) 2 ct) (w' := y_) (wanted_none rfl) ?_ (fun t ht => by cases ht; exact rfl) (Below.refl _ _)
        have ec : ∀ v, a.eval (.const v) = v := fun _ => rfl
        generalize a.eval = ev at *
        clear h
        go_simp
      refine AllOps.cons (fun a y_ h => ?_) ?_
      · have e43 : a.eval (.tmp 43) = (.slice (some ⟨b, off, none⟩) 2 ct : Value) := h.of 43 (by kernel_rfl)
        refine opOk_val (v := .pointer (some ⟨b, off, none⟩)) (w' := y_) (wanted_none rfl) ?_ (fun t ht => by cases ht; exact rfl) (Below.refl _ _)
        have ec : ∀ v, a.eval (.const v) = v := fun _ => rfl
        generalize a.eval = ev at *
        clear h
        go_simp
      refine AllOps.cons (fun a y_ h => ?_) ?_
      · have e44 : a.eval (.tmp 44) = (.pointer (some ⟨b, off, none⟩) : Value) := h.of 44 (by kernel_rfl)
        have c0 := cell_below h.below p0
        have c1 := cell_below h.below p1
        refine opOk_val (v := ptermVal t0) (w' := y_) (wanted_none rfl) ?_ (fun t ht => by cases ht; exact rfl) (Below.refl _ _)
        have ec : ∀ v, a.eval (.const v) = v := fun _ => rfl
        generalize a.eval = ev at *
        clear h
        go_simp
      refine AllOps.cons (fun a y_ h => ?_) ?_
      · have e41 : a.eval (.tmp 41) = (wayVal y : Value) := h.of 41 (by kernel_rfl)
        have e45 : a.eval (.tmp 45) = (ptermVal t0 : Value) := h.of 45 (by kernel_rfl)
        refine opOk_call (f := 187) (args := #[wayVal y, ptermVal t0]) (wanted_none rfl) ?_ ?_
        · have ec : ∀ v, a.eval (.const v) = v := fun _ => rfl
          have ef : ∀ f, a.eval (.func f) = .func (.func f) #[] #[] := fun _ => rfl
          generalize a.eval = ev at *
          clear h
          go_simp
        · refine Calls.mono (number_any y t0 y_ hy HT0.out) ?_
          rintro _ y2 ⟨rfl, hb2⟩
          exact ⟨_, rfl, fun t ht => by cases ht; exact rfl, hb2⟩
      refine AllOps.cons (fun a y_ h => ?_) ?_
      · have e6 : a.eval (.tmp 6) = (.pointer (some ⟨w.heap.size + 1, 0, none⟩) : Value) := h.old 6 (by kernel_rfl)
        refine opOk_val (v := wayVal y) (w' := y_) (wanted_none rfl) ?_ (fun t ht => by cases ht; exact rfl) (Below.refl _ _)
        exact load_way rfl e6 (WayAt.below HW.out h.below) hy
      refine AllOps.cons (fun a y_ h => ?_) ?_
      · have e5 : a.eval (.tmp 5) = (.pointer (some ⟨w.heap.size, 0, none⟩) : Value) := h.old 5 (by kernel_rfl)
        refine opOk_val (v := .pointer (some ⟨w.heap.size, 3, none⟩)) (w' := y_) (wanted_none rfl) ?_ (fun t ht => by cases ht; exact rfl) (Below.refl _ _)
        have ec : ∀ v, a.eval (.const v) = v := fun _ => rfl
        generalize a.eval = ev at *
        clear h
        go_simp
      refine AllOps.cons (fun a y_ h => ?_) ?_
      · have e48 : a.eval (.tmp 48) = (.pointer (some ⟨w.heap.size, 3, none⟩) : Value) := h.of 48 (by kernel_rfl)
        have c3 := cell_below h.below d3
        refine opOk_val (v := .slice (some ⟨b, off, none⟩) 2 ct) (w' := y_) (wanted_none rfl) ?_ (fun t ht => by cases ht; exact rfl) (Below.refl _ _)
        have ec : ∀ v, a.eval (.const v) = v := fun _ => rfl
        generalize a.eval = ev at *
        clear h
        go_simp
      refine AllOps.cons (fun a y_ h => ?_) ?_
      · have e49 : a.eval (.tmp 49) = (.slice (some ⟨b, off, none⟩) 2 ct : Value) := h.of 49 (by kernel_rfl)
        refine opOk_val (v := .pointer (some ⟨b, off + 2, none⟩)) (w' := y_) (wanted_none rfl) ?_ (fun t ht => by cases ht; exact rfl) (Below.refl _ _)
        have ec : ∀ v, a.eval (.const v) = v := fun _ => rfl
        generalize a.eval = ev at *
        clear h
        go_simp
      refine AllOps.cons (fun a y_ h => ?_) ?_
      · have e50 : a.eval (.tmp 50) = (.pointer (some ⟨b, off + 2, none⟩) : Value) := h.of 50 (by kernel_rfl)
        have c0 := cell_below h.below p2
        have c1 := cell_below h.below p3
        refine opOk_val (v := ptermVal t1) (w' := y_) (wanted_none rfl) ?_ (fun t ht => by cases ht; exact rfl) (Below.refl _ _)
        have ec : ∀ v, a.eval (.const v) = v := fun _ => rfl
        generalize a.eval = ev at *
        clear h
        go_simp
      refine AllOps.cons (fun a y_ h => ?_) ?_
      · have e47 : a.eval (.tmp 47) = (wayVal y : Value) := h.of 47 (by kernel_rfl)
        have e51 : a.eval (.tmp 51) = (ptermVal t1 : Value) := h.of 51 (by kernel_rfl)
        refine opOk_call (f := 187) (args := #[wayVal y, ptermVal t1]) (wanted_none rfl) ?_ ?_
        · have ec : ∀ v, a.eval (.const v) = v := fun _ => rfl
          have ef : ∀ f, a.eval (.func f) = .func (.func f) #[] #[] := fun _ => rfl
          generalize a.eval = ev at *
          clear h
          go_simp
        · refine Calls.mono (number_any y t1 y_ hy HT1.out) ?_
          rintro _ y2 ⟨rfl, hb2⟩
          exact ⟨_, rfl, fun t ht => by cases ht; exact rfl, hb2⟩
      refine AllOps.cons (fun a y_ h => ?_) ?_
      · have e40 : a.eval (.tmp 40) = (.int .i64 op : Value) := h.of 40 (by kernel_rfl)
        have e46 : a.eval (.tmp 46) = (.int .i64 (Ru.num y.nums t0) : Value) := h.of 46 (by kernel_rfl)
        have e52 : a.eval (.tmp 52) = (.int .i64 (Ru.num y.nums t1) : Value) := h.of 52 (by kernel_rfl)
        refine opOk_call (f := 186) (args := #[.int .i64 op, .int .i64 (Ru.num y.nums t0), .int .i64 (Ru.num y.nums t1)]) (wanted_none rfl) ?_ ?_
        · have ec : ∀ v, a.eval (.const v) = v := fun _ => rfl
          have ef : ∀ f, a.eval (.func f) = .func (.func f) #[] #[] := fun _ => rfl
          generalize a.eval = ev at *
          clear h
          go_simp
        · refine Calls.mono (isSo_any op (Ru.num y.nums t0) (Ru.num y.nums t1) y_) ?_
          rintro _ y2 ⟨rfl, rfl⟩
          exact ⟨_, rfl, fun t ht => by cases ht; exact congrArg Value.bool HSO.out, Below.refl _ _⟩
      refine AllOps.cons (fun a y_ h => ?_) ?_
      · have e53 : a.eval (.tmp 53) = (.bool false : Value) := h.of 53 (by kernel_rfl)
        refine opOk_val (v := .bool true) (w' := y_) (wanted_none rfl) ?_ (fun t ht => by cases ht; exact rfl) (Below.refl _ _)
        have ec : ∀ v, a.eval (.const v) = v := fun _ => rfl
        generalize a.eval = ev at *
        clear h
        go_simp
      refine AllOps.cons (fun a y_ h => ?_) ?_
      · have e54 : a.eval (.tmp 54) = (.bool true : Value) := h.of 54 (by kernel_rfl)
        refine opOk_val (v := .bool true) (w' := y_) (wanted_none rfl) ?_ (fun t ht => by cases ht; exact rfl) (Below.refl _ _)
        have ec : ∀ v, a.eval (.const v) = v := fun _ => rfl
        generalize a.eval = ev at *
        clear h
        go_simp
      refine AllOps.cons (fun a y_ h => ?_) ?_
      · exact opOk_skip (j := 16) (t := 55) (b := false) (c := true) rfl rfl rfl (h.of 55 (by kernel_rfl)) (by decide) (fun t ht => by cases ht; exact rfl)
      refine AllOps.cons (fun a y_ h => ?_) ?_
      · exact opOk_skip (j := 16) (t := 55) (b := false) (c := true) rfl rfl rfl (h.of 55 (by kernel_rfl)) (by decide) (fun t ht => by cases ht; exact rfl)
      refine AllOps.cons (fun a y_ h => ?_) ?_
      · exact opOk_skip (j := 16) (t := 55) (b := false) (c := true) rfl rfl rfl (h.of 55 (by kernel_rfl)) (by decide) (fun t ht => by cases ht; exact rfl)
      refine AllOps.cons (fun a y_ h => ?_) ?_
      · have e55 : a.eval (.tmp 55) = (.bool true : Value) := h.of 55 (by kernel_rfl)
        have e58 : a.eval (.tmp 58) = (undef : Value) := h.of 58 (by kernel_rfl)
        refine opOk_val (v := .bool true) (w' := y_) (wanted_none rfl) ?_ (fun t ht => by cases ht; exact rfl) (Below.refl _ _)
        have ec : ∀ v, a.eval (.const v) = v := fun _ => rfl
        generalize a.eval = ev at *
        clear h
        go_simp
      refine AllOps.cons (fun a y_ h => ?_) ?_
      · have e59 : a.eval (.tmp 59) = (.bool true : Value) := h.of 59 (by kernel_rfl)
        refine opOk_val (v := .bool true) (w' := y_) (wanted_none rfl) ?_ (fun t ht => by cases ht; exact rfl) (Below.refl _ _)
        have ec : ∀ v, a.eval (.const v) = v := fun _ => rfl
        generalize a.eval = ev at *
        clear h
        go_simp
      exact AllOps.nil
    case hendB =>
      rintro ⟨tm, df⟩ wE hbE hdE hsE hstE hTE
      have h8 : tm.getD 8 undef = .bool true := ends_at (T := fun tQ vQ _ => vQ = hold7F y w.heap.size b off ct op t0 t1 tQ) (w := wE) (a := ⟨tm, df⟩) (t := 8) hTE (by kernel_rfl)
      obtain rfl : df = [] := hdE
      have hFE := tmps_fold [39, 40, 41, 42, 43, 44, 45, 46, 47, 48, 49, 50, 51, 52, 53, 54, 55, 56, 57, 58, 59, 8] tm _ hsE hstE
      clear hsE hstE hTE
      simp only [List.foldl_cons, List.foldl_nil, h8] at hFE
      clear h8
      generalize tm.getD 39 undef = x39 at hFE
      generalize tm.getD 40 undef = x40 at hFE
      generalize tm.getD 41 undef = x41 at hFE
      generalize tm.getD 42 undef = x42 at hFE
      generalize tm.getD 43 undef = x43 at hFE
      generalize tm.getD 44 undef = x44 at hFE
      generalize tm.getD 45 undef = x45 at hFE
      generalize tm.getD 46 undef = x46 at hFE
      generalize tm.getD 47 undef = x47 at hFE
      generalize tm.getD 48 undef = x48 at hFE
      generalize tm.getD 49 undef = x49 at hFE
      generalize tm.getD 50 undef = x50 at hFE
      generalize tm.getD 51 undef = x51 at hFE
      generalize tm.getD 52 undef = x52 at hFE
      generalize tm.getD 53 undef = x53 at hFE
      generalize tm.getD 54 undef = x54 at hFE
      generalize tm.getD 55 undef = x55 at hFE
      generalize tm.getD 56 undef = x56 at hFE
      generalize tm.getD 57 undef = x57 at hFE
      generalize tm.getD 58 undef = x58 at hFE
      generalize tm.getD 59 undef = x59 at hFE
      simp only [List.setIfInBounds_toArray, List.set_cons_zero, List.set_cons_succ] at hFE
      subst hFE
      have hKy : Kp w0.heap.size NB _ _ := Kp.of_below hbE hroom.1
      have HIE : Hid _ := HTL.out.grow _ _ _ HI.out hbE
      clear hbE
      go_wp2_with fail
      go_ret
      exact ⟨by rw [HE.out]; rfl, by rw [HE.out]; exact HIE.out, HK.out.trans hKy⟩
  · have HSO : Hid _ := hso
    have HL1 : Hid (LL = [y]) := by show _ = _; rw [HON.out, hso]; rfl
    rw [HL1.out] at hLv
    have HLv2 : Hid _ := hLv.1
    have HE : Hid (Ru.run step s LL = ((step s y).1, (step s y).2)) := by
      show _ = _
      rw [HL1.out, Ru.run_cons]
      cases hq : (step s y).2 <;> rfl
    clear hso hLv HON HL1
    refine wp_region_tail (fun tQ vQ _ => vQ = hold7T y w.heap.size b off ct op t0 t1 hh cb tQ) 19 (by decide) (by kernel_rfl) (by kernel_rfl) (by kernel_rfl) (fun _ _ _ _ _ h => h) ?hopA ?htailA
    case hopA =>
      refine AllOps.cons (fun a y_ h => ?_) ?_
      · have e5 : a.eval (.tmp 5) = (.pointer (some ⟨w.heap.size, 0, none⟩) : Value) := h.old 5 (by kernel_rfl)
        refine opOk_val (v := .pointer (some ⟨w.heap.size, 1, none⟩)) (w' := y_) (wanted_none rfl) ?_ (fun t ht => by cases ht; exact rfl) (Below.refl _ _)
        have ec : ∀ v, a.eval (.const v) = v := fun _ => rfl
        generalize a.eval = ev at *
        clear h
        go_simp
      refine AllOps.cons (fun a y_ h => ?_) ?_
      · have e39 : a.eval (.tmp 39) = (.pointer (some ⟨w.heap.size, 1, none⟩) : Value) := h.of 39 (by kernel_rfl)
        have c1 := cell_below h.below d1
        refine opOk_val (v := .int .i64 op) (w' := y_) (wanted_none rfl) ?_ (fun t ht => by cases ht; exact rfl) (Below.refl _ _)
        have ec : ∀ v, a.eval (.const v) = v := fun _ => rfl
        generalize a.eval = ev at *
        clear h
        go_simp
      refine AllOps.cons (fun a y_ h => ?_) ?_
      · have e6 : a.eval (.tmp 6) = (.pointer (some ⟨w.heap.size + 1, 0, none⟩) : Value) := h.old 6 (by kernel_rfl)
        refine opOk_val (v := wayVal y) (w' := y_) (wanted_none rfl) ?_ (fun t ht => by cases ht; exact rfl) (Below.refl _ _)
        exact load_way rfl e6 (WayAt.below HW.out h.below) hy
      refine AllOps.cons (fun a y_ h => ?_) ?_
      · have e5 : a.eval (.tmp 5) = (.pointer (some ⟨w.heap.size, 0, none⟩) : Value) := h.old 5 (by kernel_rfl)
        refine opOk_val (v := .pointer (some ⟨w.heap.size, 3, none⟩)) (w' := y_) (wanted_none rfl) ?_ (fun t ht => by cases ht; exact rfl) (Below.refl _ _)
        have ec : ∀ v, a.eval (.const v) = v := fun _ => rfl
        generalize a.eval = ev at *
        clear h
        go_simp
      refine AllOps.cons (fun a y_ h => ?_) ?_
      · have e42 : a.eval (.tmp 42) = (.pointer (some ⟨w.heap.size, 3, none⟩) : Value) := h.of 42 (by kernel_rfl)
        have c3 := cell_below h.below d3
        refine opOk_val (v := .slice (some ⟨b, off, none⟩) 2 ct) (w' := y_) (wanted_none rfl) ?_ (fun t ht => by cases ht; exact rfl) (Below.refl _ _)
        have ec : ∀ v, a.eval (.const v) = v := fun _ => rfl
        generalize a.eval = ev at *
        clear h
        go_simp
      refine AllOps.cons (fun a y_ h => ?_) ?_
      · have e43 : a.eval (.tmp 43) = (.slice (some ⟨b, off, none⟩) 2 ct : Value) := h.of 43 (by kernel_rfl)
        refine opOk_val (v := .pointer (some ⟨b, off, none⟩)) (w' := y_) (wanted_none rfl) ?_ (fun t ht => by cases ht; exact rfl) (Below.refl _ _)
        have ec : ∀ v, a.eval (.const v) = v := fun _ => rfl
        generalize a.eval = ev at *
        clear h
        go_simp
      refine AllOps.cons (fun a y_ h => ?_) ?_
      · have e44 : a.eval (.tmp 44) = (.pointer (some ⟨b, off, none⟩) : Value) := h.of 44 (by kernel_rfl)
        have c0 := cell_below h.below p0
        have c1 := cell_below h.below p1
        refine opOk_val (v := ptermVal t0) (w' := y_) (wanted_none rfl) ?_ (fun t ht => by cases ht; exact rfl) (Below.refl _ _)
        have ec : ∀ v, a.eval (.const v) = v := fun _ => rfl
        generalize a.eval = ev at *
        clear h
        go_simp
      refine AllOps.cons (fun a y_ h => ?_) ?_
      · have e41 : a.eval (.tmp 41) = (wayVal y : Value) := h.of 41 (by kernel_rfl)
        have e45 : a.eval (.tmp 45) = (ptermVal t0 : Value) := h.of 45 (by kernel_rfl)
        refine opOk_call (f := 187) (args := #[wayVal y, ptermVal t0]) (wanted_none rfl) ?_ ?_
        · have ec : ∀ v, a.eval (.const v) = v := fun _ => rfl
          have ef : ∀ f, a.eval (.func f) = .func (.func f) #[] #[] := fun _ => rfl
          generalize a.eval = ev at *
          clear h
          go_simp
        · refine Calls.mono (number_any y t0 y_ hy HT0.out) ?_
          rintro _ y2 ⟨rfl, hb2⟩
          exact ⟨_, rfl, fun t ht => by cases ht; exact rfl, hb2⟩
      refine AllOps.cons (fun a y_ h => ?_) ?_
      · have e6 : a.eval (.tmp 6) = (.pointer (some ⟨w.heap.size + 1, 0, none⟩) : Value) := h.old 6 (by kernel_rfl)
        refine opOk_val (v := wayVal y) (w' := y_) (wanted_none rfl) ?_ (fun t ht => by cases ht; exact rfl) (Below.refl _ _)
        exact load_way rfl e6 (WayAt.below HW.out h.below) hy
      refine AllOps.cons (fun a y_ h => ?_) ?_
      · have e5 : a.eval (.tmp 5) = (.pointer (some ⟨w.heap.size, 0, none⟩) : Value) := h.old 5 (by kernel_rfl)
        refine opOk_val (v := .pointer (some ⟨w.heap.size, 3, none⟩)) (w' := y_) (wanted_none rfl) ?_ (fun t ht => by cases ht; exact rfl) (Below.refl _ _)
        have ec : ∀ v, a.eval (.const v) = v := fun _ => rfl
        generalize a.eval = ev at *
        clear h
        go_simp
      refine AllOps.cons (fun a y_ h => ?_) ?_
      · have e48 : a.eval (.tmp 48) = (.pointer (some ⟨w.heap.size, 3, none⟩) : Value) := h.of 48 (by kernel_rfl)
        have c3 := cell_below h.below d3
        refine opOk_val (v := .slice (some ⟨b, off, none⟩) 2 ct) (w' := y_) (wanted_none rfl) ?_ (fun t ht => by cases ht; exact rfl) (Below.refl _ _)
        have ec : ∀ v, a.eval (.const v) = v := fun _ => rfl
        generalize a.eval = ev at *
        clear h
        go_simp
      refine AllOps.cons (fun a y_ h => ?_) ?_
      · have e49 : a.eval (.tmp 49) = (.slice (some ⟨b, off, none⟩) 2 ct : Value) := h.of 49 (by kernel_rfl)
        refine opOk_val (v := .pointer (some ⟨b, off + 2, none⟩)) (w' := y_) (wanted_none rfl) ?_ (fun t ht => by cases ht; exact rfl) (Below.refl _ _)
        have ec : ∀ v, a.eval (.const v) = v := fun _ => rfl
        generalize a.eval = ev at *
        clear h
        go_simp
      refine AllOps.cons (fun a y_ h => ?_) ?_
      · have e50 : a.eval (.tmp 50) = (.pointer (some ⟨b, off + 2, none⟩) : Value) := h.of 50 (by kernel_rfl)
        have c0 := cell_below h.below p2
        have c1 := cell_below h.below p3
        refine opOk_val (v := ptermVal t1) (w' := y_) (wanted_none rfl) ?_ (fun t ht => by cases ht; exact rfl) (Below.refl _ _)
        have ec : ∀ v, a.eval (.const v) = v := fun _ => rfl
        generalize a.eval = ev at *
        clear h
        go_simp
      refine AllOps.cons (fun a y_ h => ?_) ?_
      · have e47 : a.eval (.tmp 47) = (wayVal y : Value) := h.of 47 (by kernel_rfl)
        have e51 : a.eval (.tmp 51) = (ptermVal t1 : Value) := h.of 51 (by kernel_rfl)
        refine opOk_call (f := 187) (args := #[wayVal y, ptermVal t1]) (wanted_none rfl) ?_ ?_
        · have ec : ∀ v, a.eval (.const v) = v := fun _ => rfl
          have ef : ∀ f, a.eval (.func f) = .func (.func f) #[] #[] := fun _ => rfl
          generalize a.eval = ev at *
          clear h
          go_simp
        · refine Calls.mono (number_any y t1 y_ hy HT1.out) ?_
          rintro _ y2 ⟨rfl, hb2⟩
          exact ⟨_, rfl, fun t ht => by cases ht; exact rfl, hb2⟩
      refine AllOps.cons (fun a y_ h => ?_) ?_
      · have e40 : a.eval (.tmp 40) = (.int .i64 op : Value) := h.of 40 (by kernel_rfl)
        have e46 : a.eval (.tmp 46) = (.int .i64 (Ru.num y.nums t0) : Value) := h.of 46 (by kernel_rfl)
        have e52 : a.eval (.tmp 52) = (.int .i64 (Ru.num y.nums t1) : Value) := h.of 52 (by kernel_rfl)
        refine opOk_call (f := 186) (args := #[.int .i64 op, .int .i64 (Ru.num y.nums t0), .int .i64 (Ru.num y.nums t1)]) (wanted_none rfl) ?_ ?_
        · have ec : ∀ v, a.eval (.const v) = v := fun _ => rfl
          have ef : ∀ f, a.eval (.func f) = .func (.func f) #[] #[] := fun _ => rfl
          generalize a.eval = ev at *
          clear h
          go_simp
        · refine Calls.mono (isSo_any op (Ru.num y.nums t0) (Ru.num y.nums t1) y_) ?_
          rintro _ y2 ⟨rfl, rfl⟩
          exact ⟨_, rfl, fun t ht => by cases ht; exact congrArg Value.bool HSO.out, Below.refl _ _⟩
      refine AllOps.cons (fun a y_ h => ?_) ?_
      · have e53 : a.eval (.tmp 53) = (.bool true : Value) := h.of 53 (by kernel_rfl)
        refine opOk_val (v := .bool false) (w' := y_) (wanted_none rfl) ?_ (fun t ht => by cases ht; exact rfl) (Below.refl _ _)
        have ec : ∀ v, a.eval (.const v) = v := fun _ => rfl
        generalize a.eval = ev at *
        clear h
        go_simp
      refine AllOps.cons (fun a y_ h => ?_) ?_
      · have e54 : a.eval (.tmp 54) = (.bool false : Value) := h.of 54 (by kernel_rfl)
        refine opOk_val (v := .bool false) (w' := y_) (wanted_none rfl) ?_ (fun t ht => by cases ht; exact rfl) (Below.refl _ _)
        have ec : ∀ v, a.eval (.const v) = v := fun _ => rfl
        generalize a.eval = ev at *
        clear h
        go_simp
      refine AllOps.cons (fun a y_ h => ?_) ?_
      · have e3 : a.eval (.tmp 3) = (.func (.func hh) #[] cb : Value) := h.old 3 (by kernel_rfl)
        refine opOk_val (v := .func (.func hh) #[] cb) (w' := y_) (wanted_some (j := 16) (t := 55) (b := false) rfl rfl rfl (h.of 55 (by kernel_rfl))) ?_ (fun t ht => by cases ht; exact rfl) (Below.refl _ _)
        have ec : ∀ v, a.eval (.const v) = v := fun _ => rfl
        generalize a.eval = ev at *
        clear h
        go_simp
      refine AllOps.cons (fun a y_ h => ?_) ?_
      · have e6 : a.eval (.tmp 6) = (.pointer (some ⟨w.heap.size + 1, 0, none⟩) : Value) := h.old 6 (by kernel_rfl)
        refine opOk_val (v := wayVal y) (w' := y_) (wanted_some (j := 16) (t := 55) (b := false) rfl rfl rfl (h.of 55 (by kernel_rfl))) ?_ (fun t ht => by cases ht; exact rfl) (Below.refl _ _)
        exact load_way rfl e6 (WayAt.below HW.out h.below) hy
      exact AllOps.nil
    case htailA =>
      rintro ⟨tm0, df⟩ y_ hI
      have e56 : Act.eval ⟨tm0, df⟩ (.tmp 56) = .func (.func hh) #[] cb := hI.all 17 _ 56 (by decide) rfl rfl
      have e57 : Act.eval ⟨tm0, df⟩ (.tmp 57) = wayVal y := hI.all 18 _ 57 (by decide) rfl rfl
      have e55 : tm0.getD 55 undef = .bool false := hI.all 16 _ 55 (by decide) rfl rfl
      have hsN : tm0.size = 97 := hI.size
      show wpOps Tryz.prog _ _ [19, 20, 21] _ _
      rw [wpOps_cons]
      refine wpOp_call (f := hh) (args := #[wayVal y] ++ cb) rfl (wanted_some (j := 16) (t := 55) (b := false) rfl rfl rfl e55) ?_ ?_
      · show Sem.run Tryz.prog (execOp (Act.eval ⟨tm0, df⟩) _) y_ = _
        generalize Act.eval ⟨tm0, df⟩ = ev at *
        clear hI
        go_simp
      refine Calls.mono (HTL.out.call s y_ y (HTL.out.grow _ _ _ HI.out hI.below) HLv2.out HWF.out) ?_
      rintro eR w4 ⟨he4, hI4, hK4⟩
      refine ⟨_, he4, ?_⟩
      rw [wpOps_cons]
      refine wpOp_val (v := (.bool (step s y).2)) (w' := w4) rfl (wanted_none rfl) ?_ ?_
      · have q1 : Act.eval (Act.put ⟨tm0, df⟩ (some 58) (.bool (step s y).2)) (.tmp 55) = .bool false := (put_get_ne (a := ⟨tm0, df⟩) (t := 58) (u := 55) (by decide)).trans e55
        have q2 : Act.eval (Act.put ⟨tm0, df⟩ (some 58) (.bool (step s y).2)) (.tmp 58) = (.bool (step s y).2) := put_get_self (by show 58 < tm0.size; omega)
        have ec : ∀ v, Act.eval (Act.put ⟨tm0, df⟩ (some 58) (.bool (step s y).2)) (.const v) = v := fun _ => rfl
        show Sem.run Tryz.prog (execOp (Act.eval (Act.put ⟨tm0, df⟩ (some 58) (.bool (step s y).2))) _) w4 = _
        generalize Act.eval (Act.put ⟨tm0, df⟩ (some 58) (.bool (step s y).2)) = ev at *
        clear hI
        go_simp
      rw [wpOps_cons]
      refine wpOp_val (v := (.bool (step s y).2)) (w' := w4) rfl (wanted_none rfl) ?_ ?_
      · have q2 : Act.eval (Act.put (Act.put ⟨tm0, df⟩ (some 58) (.bool (step s y).2)) (some 59) (.bool (step s y).2)) (.tmp 59) = (.bool (step s y).2) := put_get_self (by rw [put_size]; show 59 < tm0.size; omega)
        show Sem.run Tryz.prog (execOp (Act.eval (Act.put (Act.put ⟨tm0, df⟩ (some 58) (.bool (step s y).2)) (some 59) (.bool (step s y).2))) _) w4 = _
        generalize Act.eval (Act.put (Act.put ⟨tm0, df⟩ (some 58) (.bool (step s y).2)) (some 59) (.bool (step s y).2)) = ev at *
        clear hI
        go_simp
      have hst : ∀ t, t ∉ [39, 40, 41, 42, 43, 44, 45, 46, 47, 48, 49, 50, 51, 52, 53, 54, 55, 56, 57, 58, 59, 8] → (((tm0.setIfInBounds 58 (.bool (step s y).2)).setIfInBounds 59 (.bool (step s y).2)).setIfInBounds 8 (.bool (step s y).2)).getD t undef = _ := fun t ht => by
        have hA : t ≠ 58 := fun e => ht (by rw [e]; decide)
        have hB : t ≠ 59 := fun e => ht (by rw [e]; decide)
        have hC : t ≠ 8 := fun e => ht (by rw [e]; decide)
        exact ((put_get_ne (a := (Act.put (Act.put ⟨tm0, df⟩ (some 58) (.bool (step s y).2)) (some 59) (.bool (step s y).2))) hC).trans ((put_get_ne (a := Act.put ⟨tm0, df⟩ (some 58) (.bool (step s y).2)) hB).trans (put_get_ne (a := ⟨tm0, df⟩) hA))).trans (hI.still t ht)
      have h8 : (((tm0.setIfInBounds 58 (.bool (step s y).2)).setIfInBounds 59 (.bool (step s y).2)).setIfInBounds 8 (.bool (step s y).2)).getD 8 undef = (.bool (step s y).2) := put_get_self (a := (Act.put (Act.put ⟨tm0, df⟩ (some 58) (.bool (step s y).2)) (some 59) (.bool (step s y).2))) (by rw [put_size, put_size]; show 8 < tm0.size; omega)
      have hKy : Kp w0.heap.size NB _ _ := Kp.of_below hI.below hroom.1
      obtain rfl : df = [] := hI.defers
      have hs2 : (((tm0.setIfInBounds 58 (.bool (step s y).2)).setIfInBounds 59 (.bool (step s y).2)).setIfInBounds 8 (.bool (step s y).2)).size = 97 := by simp [hsN]
      clear hI e56 e57 e55 hsN he4
      show Exit.then _ _ Exit.normal ⟨(((tm0.setIfInBounds 58 (.bool (step s y).2)).setIfInBounds 59 (.bool (step s y).2)).setIfInBounds 8 (.bool (step s y).2)), []⟩ w4
      generalize (((tm0.setIfInBounds 58 (.bool (step s y).2)).setIfInBounds 59 (.bool (step s y).2)).setIfInBounds 8 (.bool (step s y).2)) = tm at *
      have hF8 := tmps_fold [39, 40, 41, 42, 43, 44, 45, 46, 47, 48, 49, 50, 51, 52, 53, 54, 55, 56, 57, 58, 59, 8] tm _ (hs2.trans (by rfl)) hst
      clear hs2 hst
      simp only [List.foldl_cons, List.foldl_nil, h8] at hF8
      clear h8
      generalize tm.getD 39 undef = x39 at hF8
      generalize tm.getD 40 undef = x40 at hF8
      generalize tm.getD 41 undef = x41 at hF8
      generalize tm.getD 42 undef = x42 at hF8
      generalize tm.getD 43 undef = x43 at hF8
      generalize tm.getD 44 undef = x44 at hF8
      generalize tm.getD 45 undef = x45 at hF8
      generalize tm.getD 46 undef = x46 at hF8
      generalize tm.getD 47 undef = x47 at hF8
      generalize tm.getD 48 undef = x48 at hF8
      generalize tm.getD 49 undef = x49 at hF8
      generalize tm.getD 50 undef = x50 at hF8
      generalize tm.getD 51 undef = x51 at hF8
      generalize tm.getD 52 undef = x52 at hF8
      generalize tm.getD 53 undef = x53 at hF8
      generalize tm.getD 54 undef = x54 at hF8
      generalize tm.getD 55 undef = x55 at hF8
      generalize tm.getD 56 undef = x56 at hF8
      generalize tm.getD 57 undef = x57 at hF8
      generalize tm.getD 58 undef = x58 at hF8
      generalize tm.getD 59 undef = x59 at hF8
      simp only [List.setIfInBounds_toArray, List.set_cons_zero, List.set_cons_succ] at hF8
      subst hF8
      go_wp2_with fail
      go_ret
      exact ⟨by rw [HE.out]; rfl, by rw [HE.out]; exact hI4, HK.out.trans (hKy.trans hK4)⟩
end Go.Proofs.YthenjegmigeieaaGreat

