/- Own texts, one behind the other (part 2). -/
import Derived.Test.YtmfaodapofamfaaGreatBundleA
import Derived.Test.YtmfaodapofamfaaGreatRows
import Derived.Maps.RangeWalk
import Derived.Maps.OwnSet
import Derived.DeepKeys4
/- The document's Check of an update. -/
namespace Go.Proofs.YtmfaodapofamfaaGreat
open Go.RowKit

set_option maxRecDepth 100000 in
set_option maxHeartbeats 1000000 in
theorem IsNumber_any (n : Int) (w : World) : Calls Tryz.prog 48 #[.int .i64 n] w fun e w' => e = .returned (.bool (Wr.numOk n)) ∧ w' = w := by
  have HR : Hid (Wr.numOk n = (decide (-1000000 ≤ n) && decide (n ≤ 1000000))) := by
    show _ = _
    unfold Wr.numOk
    simp only [Bool.decide_and]
  have HC : Hid _ := between_any n (-1000000) 1000000 w
  go_enter Tryz.func48, Tryz.ntmps48
  go_wp2_with (go_at_call 47; refine Calls.mono HC.out ?_; rintro e z ⟨rfl, rfl⟩)
  go_ret
  exact ⟨by rw [HR.out]; rfl, rfl⟩
theorem all_step {α : Type} (P : α → Bool) (d : α) (l : List α) (k : Nat) (hk : k < l.length) (h : l.all P = (l.drop k).all P) : l.all P = (P (l.getD k d) && (l.drop (k + 1)).all P) := by
  rw [h, List.drop_eq_getElem_cons hk, List.all_cons, List.getD_eq_getElem?_getD, List.getElem?_eq_getElem hk]
  rfl
theorem all_end {α : Type} (P : α → Bool) (l : List α) (k : Nat) (hk : ¬ k < l.length) (h : l.all P = (l.drop k).all P) : l.all P = true := by
  rw [h, List.drop_of_length_le (by omega)]
  rfl

set_option maxRecDepth 100000 in
set_option maxHeartbeats 3000000 in
theorem CheckUpdate_any (u : Wr.Up) (vp vs vt : Value) (w : World) (hP : IdsV w vp u.ps) (hS : FactsV w vs u.says) (hT : IdsV w vt u.ts) (hF : ∀ f, f ∈ u.says → FFit f) (hl : u.ps.length ≤ 9223372036854775807 ∧ u.says.length ≤ 9223372036854775807 ∧ u.ts.length ≤ 9223372036854775807) :
    Calls Tryz.prog 10 #[upVal u vp vs vt] w fun e w' => e = .returned (.int .i64 (Wr.check u)) ∧ Below w.heap.size w w' := by
  obtain ⟨⟨a, n⟩, ps, says, ts⟩ := u
  dsimp only at hP hS hT hF hl
  obtain ⟨ap, cp, rfl, _⟩ := id hP
  obtain ⟨as_, cs, rfl, _⟩ := id hS
  obtain ⟨at_, ct, rfl, _⟩ := id hT
  have HK : Hid (Wr.check ⟨⟨a, n⟩, ps, says, ts⟩ = if Wr.isId ⟨a, n⟩ = false then 3
    else if 6 < ps.length ∨ 6 < says.length ∨ 6 < ts.length then 2
    else if ps.all Wr.isId = false ∨ ts.all Wr.isId = false then 3
    else if Wr.rise Wr.idOrd ps = false ∨ Wr.rise Wr.idOrd ts = false then 4
    else if (decide (1 < n) && !Wr.has ps ⟨a, n - 1⟩) = true then 5
    else if says.all Wr.factOk = false then 3
    else if Wr.rise Rl.ord says = false then 4 else 0) := rfl
  have hG : Below w.heap.size w (w.alloc (.cells #[.int .i64 a, .int .i64 n, .slice ap ps.length cp, .slice as_ says.length cs, .slice at_ ts.length ct] 30)) := ((Gr.refl w).alloc _).below
  have hB := heap_alloc_new w (.cells #[.int .i64 a, .int .i64 n, .slice ap ps.length cp, .slice as_ says.length cs, .slice at_ ts.length ct] 30)
  have HID : Hid (Wr.isId ⟨a, n⟩ = true → 1 ≤ n ∧ n ≤ 200) := fun h => (of_decide_eq_true h).2.2
  go_enter Tryz.func10, Tryz.ntmps10
  go_upto_region 1 with fail
  generalize w.alloc (.cells #[.int .i64 a, .int .i64 n, .slice ap ps.length cp, .slice as_ says.length cs, .slice at_ ts.length ct] 30) = w2 at *
  have c0 : w2.cell? ⟨w.heap.size, 0, none⟩ = some (.int .i64 a) := by rw [Lib.cell_of_heap hB]; rfl
  have c1 : w2.cell? ⟨w.heap.size, 1, none⟩ = some (.int .i64 n) := by rw [Lib.cell_of_heap hB]; rfl
  have c2 : w2.cell? ⟨w.heap.size, 2, none⟩ = some (.slice ap ps.length cp) := by rw [Lib.cell_of_heap hB]; rfl
  have c3 : w2.cell? ⟨w.heap.size, 3, none⟩ = some (.slice as_ says.length cs) := by rw [Lib.cell_of_heap hB]; rfl
  have c4 : w2.cell? ⟨w.heap.size, 4, none⟩ = some (.slice at_ ts.length ct) := by rw [Lib.cell_of_heap hB]; rfl
  have KB : ∀ {z w' : World}, Below w2.heap.size w2 z → Below z.heap.size z w' → Below w2.heap.size w2 w' ∧ w'.cell? ⟨w.heap.size, 0, none⟩ = some (.int .i64 a) ∧ w'.cell? ⟨w.heap.size, 1, none⟩ = some (.int .i64 n) ∧ w'.cell? ⟨w.heap.size, 2, none⟩ = some (.slice ap ps.length cp) ∧ w'.cell? ⟨w.heap.size, 3, none⟩ = some (.slice as_ says.length cs) ∧ w'.cell? ⟨w.heap.size, 4, none⟩ = some (.slice at_ ts.length ct) := fun hz h => by
    have h3 := hz.trans (h.mono hz.size)
    exact ⟨h3, cell_below h3 c0, cell_below h3 c1, cell_below h3 c2, cell_below h3 c3, cell_below h3 c4⟩
  have HP : IdsV w2 (.slice ap ps.length cp) ps := idsV_below hP hG
  have HS : FactsV w2 (.slice as_ says.length cs) says := factsV_below hS hG
  have HT : IdsV w2 (.slice at_ ts.length ct) ts := idsV_below hT hG
  have HSA : Hid (FactsAt w2 as_ says) := by
    obtain ⟨x, y, hv, _, h⟩ := HS
    injection hv with e1 _ e2
    subst e1
    exact h
  have HFF : Hid (∀ f, f ∈ says → FFit f) := hF
  have HG : Hid _ := hG
  clear hP hS hT hG hB
  have H15 : Hid (∀ z, Below w2.heap.size w2 z → Calls Tryz.prog 43 #[idVal ⟨a, n⟩] z fun e w' => e = .returned (.bool (Wr.isId ⟨a, n⟩)) ∧ Below w2.heap.size w2 w' ∧ w'.cell? ⟨w.heap.size, 0, none⟩ = some (.int .i64 a) ∧ w'.cell? ⟨w.heap.size, 1, none⟩ = some (.int .i64 n) ∧ w'.cell? ⟨w.heap.size, 2, none⟩ = some (.slice ap ps.length cp) ∧ w'.cell? ⟨w.heap.size, 3, none⟩ = some (.slice as_ says.length cs) ∧ w'.cell? ⟨w.heap.size, 4, none⟩ = some (.slice at_ ts.length ct)) := fun z hz => ((isId_any ⟨a, n⟩ z).mono fun e w' h => (⟨h.1, h.2.below⟩ : _ ∧ Below z.heap.size z w')).mono fun e w' h => ⟨h.1, KB hz h.2⟩
  have HP16 : Hid (∀ z, Below w2.heap.size w2 z → ps.length ≤ 1000000 → Calls Tryz.prog 44 #[.slice ap ps.length cp] z fun e w' => e = .returned (.bool (ps.all Wr.isId)) ∧ Below w2.heap.size w2 w' ∧ w'.cell? ⟨w.heap.size, 0, none⟩ = some (.int .i64 a) ∧ w'.cell? ⟨w.heap.size, 1, none⟩ = some (.int .i64 n) ∧ w'.cell? ⟨w.heap.size, 2, none⟩ = some (.slice ap ps.length cp) ∧ w'.cell? ⟨w.heap.size, 3, none⟩ = some (.slice as_ says.length cs) ∧ w'.cell? ⟨w.heap.size, 4, none⟩ = some (.slice at_ ts.length ct)) := fun z hz hp => ((areIds_any ps _ z (idsV_below HP hz) hp).mono fun e w' h => (⟨h.1, h.2.below⟩ : _ ∧ Below z.heap.size z w')).mono fun e w' h => ⟨h.1, KB hz h.2⟩
  have HT16 : Hid (∀ z, Below w2.heap.size w2 z → ts.length ≤ 1000000 → Calls Tryz.prog 44 #[.slice at_ ts.length ct] z fun e w' => e = .returned (.bool (ts.all Wr.isId)) ∧ Below w2.heap.size w2 w' ∧ w'.cell? ⟨w.heap.size, 0, none⟩ = some (.int .i64 a) ∧ w'.cell? ⟨w.heap.size, 1, none⟩ = some (.int .i64 n) ∧ w'.cell? ⟨w.heap.size, 2, none⟩ = some (.slice ap ps.length cp) ∧ w'.cell? ⟨w.heap.size, 3, none⟩ = some (.slice as_ says.length cs) ∧ w'.cell? ⟨w.heap.size, 4, none⟩ = some (.slice at_ ts.length ct)) := fun z hz hp => ((areIds_any ts _ z (idsV_below HT hz) hp).mono fun e w' h => (⟨h.1, h.2.below⟩ : _ ∧ Below z.heap.size z w')).mono fun e w' h => ⟨h.1, KB hz h.2⟩
  have HP17 : Hid (∀ z, Below w2.heap.size w2 z → ps.length ≤ 1000000 → Calls Tryz.prog 45 #[.slice ap ps.length cp] z fun e w' => e = .returned (.bool (Wr.rise Wr.idOrd ps)) ∧ Below w2.heap.size w2 w' ∧ w'.cell? ⟨w.heap.size, 0, none⟩ = some (.int .i64 a) ∧ w'.cell? ⟨w.heap.size, 1, none⟩ = some (.int .i64 n) ∧ w'.cell? ⟨w.heap.size, 2, none⟩ = some (.slice ap ps.length cp) ∧ w'.cell? ⟨w.heap.size, 3, none⟩ = some (.slice as_ says.length cs) ∧ w'.cell? ⟨w.heap.size, 4, none⟩ = some (.slice at_ ts.length ct)) := fun z hz hp => (idsRise_any ps _ z (idsV_below HP hz) hp).mono fun e w' h => ⟨h.1, KB hz h.2⟩
  have HT17 : Hid (∀ z, Below w2.heap.size w2 z → ts.length ≤ 1000000 → Calls Tryz.prog 45 #[.slice at_ ts.length ct] z fun e w' => e = .returned (.bool (Wr.rise Wr.idOrd ts)) ∧ Below w2.heap.size w2 w' ∧ w'.cell? ⟨w.heap.size, 0, none⟩ = some (.int .i64 a) ∧ w'.cell? ⟨w.heap.size, 1, none⟩ = some (.int .i64 n) ∧ w'.cell? ⟨w.heap.size, 2, none⟩ = some (.slice ap ps.length cp) ∧ w'.cell? ⟨w.heap.size, 3, none⟩ = some (.slice as_ says.length cs) ∧ w'.cell? ⟨w.heap.size, 4, none⟩ = some (.slice at_ ts.length ct)) := fun z hz hp => (idsRise_any ts _ z (idsV_below HT hz) hp).mono fun e w' h => ⟨h.1, KB hz h.2⟩
  have H18 : Hid (∀ z, Below w2.heap.size w2 z → ps.length ≤ 1000000 → Calls Tryz.prog 46 #[.slice ap ps.length cp, idVal ⟨a, n - 1⟩] z fun e w' => e = .returned (.bool (Wr.has ps ⟨a, n - 1⟩)) ∧ Below w2.heap.size w2 w' ∧ w'.cell? ⟨w.heap.size, 0, none⟩ = some (.int .i64 a) ∧ w'.cell? ⟨w.heap.size, 1, none⟩ = some (.int .i64 n) ∧ w'.cell? ⟨w.heap.size, 2, none⟩ = some (.slice ap ps.length cp) ∧ w'.cell? ⟨w.heap.size, 3, none⟩ = some (.slice as_ says.length cs) ∧ w'.cell? ⟨w.heap.size, 4, none⟩ = some (.slice at_ ts.length ct)) := fun z hz hp => (HasId_any ps ⟨a, n - 1⟩ _ z (idsV_below HP hz) hp).mono fun e w' h => ⟨h.1, KB hz h.2⟩
  have HB2 : Below w2.heap.size w2 w2 := Below.refl _ _
  have HKB : Hid _ := @KB
  clear HP HS HT hF KB
  generalize Wr.isId ⟨a, n⟩ = b0 at *
  generalize ps.all Wr.isId = b1 at *
  generalize ts.all Wr.isId = b2 at *
  generalize Wr.rise Wr.idOrd ps = b3 at *
  generalize Wr.rise Wr.idOrd ts = b4 at *
  generalize Wr.has ps ⟨a, n - 1⟩ = b5 at *
  cases b0
  · go_wp2_with (go_at_call 43; refine Calls.mono (H15.out _ (by assumption)) ?_; rintro e z1 ⟨rfl, hb1, x10, x11, x12, x13, x14⟩)
    go_ret
    exact ⟨by rw [HK.out]; rfl, HG.out.trans (hb1.mono HG.out.size)⟩
  rw [if_neg (by decide)] at HK
  have hn := HID.out rfl
  go_upto_region 3 with (go_at_call 43; refine Calls.mono (H15.out _ (by assumption)) ?_; rintro e z1 ⟨rfl, hb1, x10, x11, x12, x13, x14⟩)
  clear H15 c0 c1 c2 c3 c4 HB2
  by_cases l_ps : 6 < ps.length
  · have dn : decide (6 < ps.length) = true := decide_eq_true l_ps
    have di : decide ((6 : Int) < (ps.length : Int)) = true := decide_eq_true (by omega)
    rw [if_pos (by omega)] at HK
    go_wp2_with fail
    go_ret
    exact ⟨by rw [HK.out]; rfl, HG.out.trans (hb1.mono HG.out.size)⟩
  have dn_ps : decide (6 < ps.length) = false := decide_eq_false l_ps
  have di_ps : decide ((6 : Int) < (ps.length : Int)) = false := decide_eq_false (by omega)
  by_cases l_says : 6 < says.length
  · have dn : decide (6 < says.length) = true := decide_eq_true l_says
    have di : decide ((6 : Int) < (says.length : Int)) = true := decide_eq_true (by omega)
    rw [if_pos (by omega)] at HK
    go_wp2_with fail
    go_ret
    exact ⟨by rw [HK.out]; rfl, HG.out.trans (hb1.mono HG.out.size)⟩
  have dn_says : decide (6 < says.length) = false := decide_eq_false l_says
  have di_says : decide ((6 : Int) < (says.length : Int)) = false := decide_eq_false (by omega)
  by_cases l_ts : 6 < ts.length
  · have dn : decide (6 < ts.length) = true := decide_eq_true l_ts
    have di : decide ((6 : Int) < (ts.length : Int)) = true := decide_eq_true (by omega)
    rw [if_pos (by omega)] at HK
    go_wp2_with fail
    go_ret
    exact ⟨by rw [HK.out]; rfl, HG.out.trans (hb1.mono HG.out.size)⟩
  have dn_ts : decide (6 < ts.length) = false := decide_eq_false l_ts
  have di_ts : decide ((6 : Int) < (ts.length : Int)) = false := decide_eq_false (by omega)
  rw [if_neg (by omega)] at HK
  have lp : ps.length ≤ 1000000 := by omega
  have lt : ts.length ≤ 1000000 := by omega
  go_upto_region 5 with fail
  clear dn_ps di_ps dn_says di_says dn_ts di_ts
  cases b1
  · rw [if_pos (Or.inl rfl)] at HK
    go_wp2_with (go_at_call 44; refine Calls.mono (HP16.out _ (by assumption) (by omega)) ?_; rintro e z2 ⟨rfl, hb2, x20, x21, x22, x23, x24⟩)
    go_ret
    exact ⟨by rw [HK.out]; rfl, HG.out.trans (hb2.mono HG.out.size)⟩
  cases b2
  · rw [if_pos (Or.inr rfl)] at HK
    go_wp2_with (first | (go_at_call 44; with_reducible refine Calls.mono (HP16.out _ (by assumption) lp) ?_; rintro e z2 ⟨rfl, hb2, x20, x21, x22, x23, x24⟩) | (go_at_call 44; with_reducible refine Calls.mono (HT16.out _ (by assumption) lt) ?_; rintro e z3 ⟨rfl, hb3, x30, x31, x32, x33, x34⟩))
    go_ret
    exact ⟨by rw [HK.out]; rfl, HG.out.trans (hb3.mono HG.out.size)⟩
  rw [if_neg (by decide)] at HK
  go_upto_region 7 with (first | (go_at_call 44; with_reducible refine Calls.mono (HP16.out _ (by assumption) lp) ?_; rintro e z2 ⟨rfl, hb2, x20, x21, x22, x23, x24⟩) | (go_at_call 44; with_reducible refine Calls.mono (HT16.out _ (by assumption) lt) ?_; rintro e z3 ⟨rfl, hb3, x30, x31, x32, x33, x34⟩))
  clear HP16 HT16
  cases b3
  · rw [if_pos (Or.inl rfl)] at HK
    go_wp2_with (go_at_call 45; refine Calls.mono (HP17.out _ (by assumption) (by omega)) ?_; rintro e z2 ⟨rfl, hb2, x20, x21, x22, x23, x24⟩)
    go_ret
    exact ⟨by rw [HK.out]; rfl, HG.out.trans (hb2.mono HG.out.size)⟩
  cases b4
  · rw [if_pos (Or.inr rfl)] at HK
    go_wp2_with (first | (go_at_call 45; with_reducible refine Calls.mono (HP17.out _ (by assumption) lp) ?_; rintro e z2 ⟨rfl, hb2, x20, x21, x22, x23, x24⟩) | (go_at_call 45; with_reducible refine Calls.mono (HT17.out _ (by assumption) lt) ?_; rintro e z3 ⟨rfl, hb3, x30, x31, x32, x33, x34⟩))
    go_ret
    exact ⟨by rw [HK.out]; rfl, HG.out.trans (hb3.mono HG.out.size)⟩
  rw [if_neg (by decide)] at HK
  go_upto_region 9 with (first | (go_at_call 45; with_reducible refine Calls.mono (HP17.out _ (by assumption) lp) ?_; rintro e z2 ⟨rfl, hb2, x20, x21, x22, x23, x24⟩) | (go_at_call 45; with_reducible refine Calls.mono (HT17.out _ (by assumption) lt) ?_; rintro e z3 ⟨rfl, hb3, x30, x31, x32, x33, x34⟩))
  clear HP17 HT17
  have hwr : IntKind.i64.wrap (n - 1) = n - 1 := by
    simp [IntKind.wrap, IntKind.bits, IntKind.signed]
    omega
  by_cases hn1 : 1 < n
  · have d1 : decide (1 < n) = true := decide_eq_true hn1
    rw [d1, Bool.true_and] at HK
    cases b5
    · rw [if_pos (by decide)] at HK
      go_wp2_with (go_at_call 46; refine Calls.mono (H18.out _ (by assumption) lp) ?_; rintro e z5 ⟨rfl, hb5, x50, x51, x52, x53, x54⟩)
      go_ret
      exact ⟨by rw [HK.out]; rfl, HG.out.trans (hb5.mono HG.out.size)⟩
    rw [if_neg (by decide)] at HK
    go_upto_region 11 with (go_at_call 46; refine Calls.mono (H18.out _ (by assumption) lp) ?_; rintro e z5 ⟨rfl, hb5, x50, x51, x52, x53, x54⟩)
    clear H18
    obtain ⟨wz, hwz, kb, k0, k1, k2, k3, k4⟩ : ∃ wz, wz = z5 ∧ Below w2.heap.size w2 wz ∧ wz.cell? ⟨w.heap.size, 0, none⟩ = some (.int .i64 a) ∧ wz.cell? ⟨w.heap.size, 1, none⟩ = some (.int .i64 n) ∧ wz.cell? ⟨w.heap.size, 2, none⟩ = some (.slice ap ps.length cp) ∧ wz.cell? ⟨w.heap.size, 3, none⟩ = some (.slice as_ says.length cs) ∧ wz.cell? ⟨w.heap.size, 4, none⟩ = some (.slice at_ ts.length ct) := ⟨z5, rfl, hb5, x50, x51, x52, x53, x54⟩
    subst hwz
    clear x20 x21 x22 x23 x24 x30 x31 x32 x33 x34 x10 x11 x12 x13 x14 hb1 hb2 hb3
    go_wp2_with fail
    go_loopw [3] (fun iv wr => ∃ k : Nat, k ≤ says.length ∧ iv = .int .i64 k ∧ Hid (says.all Wr.factOk = (says.drop k).all Wr.factOk) ∧ Below w2.heap.size w2 wr ∧ wr.cell? ⟨w.heap.size, 0, none⟩ = some (.int .i64 a) ∧ wr.cell? ⟨w.heap.size, 1, none⟩ = some (.int .i64 n) ∧ wr.cell? ⟨w.heap.size, 2, none⟩ = some (.slice ap ps.length cp) ∧ wr.cell? ⟨w.heap.size, 3, none⟩ = some (.slice as_ says.length cs) ∧ wr.cell? ⟨w.heap.size, 4, none⟩ = some (.slice at_ ts.length ct)) (fun iv _ => says.length - (intOf iv).toNat)
    case atStart => exact ⟨0, Nat.zero_le _, rfl, rfl, kb, k0, k1, k2, k3, k4⟩
    case round =>
      obtain ⟨k, hk, rfl, HR, hbw, y0, y1, y2, y3, y4⟩ := hrel
      by_cases hlt : k < says.length
      · obtain ⟨b, off, rfl, p0, fv, p1, hIv⟩ := facts_at HSA.out k hlt
        have HD : Hid (says.all Wr.factOk = (Wr.factOk (Rl.factD says k) && (says.drop (k + 1)).all Wr.factOk)) := all_step Wr.factOk ⟨0, []⟩ says k hlt HR.out
        have HFL : Hid (FFit (Rl.factD says k)) := HFF.out _ (factD_mem says k hlt)
        have a0 := cell_below hbw p0
        have a1 := cell_below hbw p1
        clear p0 p1 HR
        generalize Rl.factD says k = x at *
        obtain ⟨xp, xs⟩ := x
        obtain ⟨af, cf, rfl, hIA⟩ := hIv
        dsimp only at a0 a1 hIA
        have HIA : Hid (IntsAt w2 af xs) := hIA
        clear hIA
        have hxl : xs.length ≤ 9223372036854775807 := HFL.out
        have HFO : Hid (Wr.factOk ⟨xp, xs⟩ = (decide (0 ≤ xp) && (decide (xp ≤ 9) && (decide (xs.length ≤ 3) && xs.all Wr.numOk)))) := by
          show _ = _
          unfold Wr.factOk
          simp only [Bool.decide_and, Bool.and_assoc]
        have HB5 : Hid _ := heap_alloc_new wr (.cells #[.int .i64 xp, .slice af xs.length cf] 84)
        have hB5 : Below wr.heap.size wr (wr.alloc (.cells #[.int .i64 xp, .slice af xs.length cf] 84)) := ((Gr.refl wr).alloc _).below
        go_upto_region 15 with fail
        generalize wr.alloc (.cells #[.int .i64 xp, .slice af xs.length cf] 84) = w5 at *
        have e0 : w5.cell? ⟨wr.heap.size, 0, none⟩ = some (.int .i64 xp) := by rw [Lib.cell_of_heap HB5.out]; rfl
        have e1 : w5.cell? ⟨wr.heap.size, 1, none⟩ = some (.slice af xs.length cf) := by rw [Lib.cell_of_heap HB5.out]; rfl
        obtain ⟨hb5, m0, m1, m2, m3, m4⟩ := HKB.out hbw hB5
        clear y0 y1 y2 y3 y4 a0 a1 HB5 hB5
        by_cases g1 : 0 ≤ xp
        rotate_left
        · have d1 : decide (0 ≤ xp) = false := decide_eq_false g1
          rw [if_pos (by rw [HD.out, HFO.out, d1]; rfl)] at HK
          go_wp2_with (go_at_call 47; refine Calls.mono (between_any _ _ _ _) ?_; rintro e z9 ⟨rfl, hz9⟩; obtain rfl := hz9.symm)
          go_ret
          exact ⟨by rw [HK.out]; rfl, HG.out.trans (hb5.mono HG.out.size)⟩
        have d1 : decide (0 ≤ xp) = true := decide_eq_true g1
        by_cases g2 : xp ≤ 9
        rotate_left
        · have d2 : decide (xp ≤ 9) = false := decide_eq_false g2
          rw [if_pos (by rw [HD.out, HFO.out, d1, d2]; rfl)] at HK
          go_wp2_with (go_at_call 47; refine Calls.mono (between_any _ _ _ _) ?_; rintro e z9 ⟨rfl, hz9⟩; obtain rfl := hz9.symm)
          go_ret
          exact ⟨by rw [HK.out]; rfl, HG.out.trans (hb5.mono HG.out.size)⟩
        have d2 : decide (xp ≤ 9) = true := decide_eq_true g2
        by_cases g3 : 3 < xs.length
        · have d3 : decide (3 < xs.length) = true := decide_eq_true g3
          have d3i : decide ((3 : Int) < (xs.length : Int)) = true := decide_eq_true (by omega)
          have d3n : decide (xs.length ≤ 3) = false := decide_eq_false (by omega)
          rw [if_pos (by rw [HD.out, HFO.out, d1, d2, d3n]; rfl)] at HK
          go_wp2_with (go_at_call 47; refine Calls.mono (between_any _ _ _ _) ?_; rintro e z9 ⟨rfl, hz9⟩; obtain rfl := hz9.symm)
          go_ret
          exact ⟨by rw [HK.out]; rfl, HG.out.trans (hb5.mono HG.out.size)⟩
        have d3 : decide (3 < xs.length) = false := decide_eq_false g3
        have d3i : decide ((3 : Int) < (xs.length : Int)) = false := decide_eq_false (by omega)
        have HFO2 : Hid (Wr.factOk ⟨xp, xs⟩ = xs.all Wr.numOk) := by
          show _ = _
          rw [HFO.out, d1, d2, decide_eq_true (p := xs.length ≤ 3) (by omega)]
          rfl
        go_upto_region 17 with (go_at_call 47; refine Calls.mono (between_any _ _ _ _) ?_; rintro e z9 ⟨rfl, hz9⟩; obtain rfl := hz9.symm)
        clear d1 d2 d3 d3i HFO
        go_wp2_with fail
        go_loopw [5] (fun iv wq => ∃ m : Nat, m ≤ xs.length ∧ iv = .int .i64 m ∧ Hid (xs.all Wr.numOk = (xs.drop m).all Wr.numOk) ∧ wq = w5) (fun iv _ => xs.length - (intOf iv).toNat)
        case atStart => exact ⟨0, Nat.zero_le _, rfl, rfl, rfl⟩
        case round =>
          obtain ⟨m, hm, rfl, HR2, hwq⟩ := hrel
          subst hwq
          by_cases hlm : m < xs.length
          · obtain ⟨b6, off6, rfl, p6⟩ := ints_at HIA.out m hlm
            have a6 := cell_below hb5 p6
            have HD6 : Hid (xs.all Wr.numOk = (Wr.numOk (Sc.intD xs m) && (xs.drop (m + 1)).all Wr.numOk)) := all_step Wr.numOk 0 xs m hlm HR2.out
            clear p6 HR2
            generalize Sc.intD xs m = y at *
            have HC : Hid (∀ z, Calls Tryz.prog 48 #[.int .i64 y] z fun e w' => e = .returned (.bool (Wr.numOk y)) ∧ w' = z) := fun z => IsNumber_any y z
            generalize Wr.numOk y = by6 at *
            cases by6
            · rw [if_pos (by rw [HD.out, HFO2.out, HD6.out]; rfl)] at HK
              go_wp2_with (go_at_call 48; refine Calls.mono (HC.out _) ?_; rintro e z9 ⟨rfl, hz9⟩; obtain rfl := hz9.symm)
              go_ret
              exact ⟨by rw [HK.out]; rfl, HG.out.trans (hb5.mono HG.out.size)⟩
            · go_wp2_with (go_at_call 48; refine Calls.mono (HC.out _) ?_; rintro e z9 ⟨rfl, hz9⟩; obtain rfl := hz9.symm)
              go_roundw
              case rel => exact ⟨m + 1, hlm, by go_num, HD6.out.trans (by rw [Bool.true_and]), trivial⟩
              case measure => simp [intOf]; omega
          · have hdd : decide (m < xs.length) = false := decide_eq_false hlm
            have HE : Hid (says.all Wr.factOk = (says.drop (k + 1)).all Wr.factOk) := by
              show _ = _
              rw [HD.out, HFO2.out, all_end Wr.numOk xs m hlm HR2.out, Bool.true_and]
            clear HD HFO2 HR2
            go_wp2_with fail
            go_roundw
            case rel => exact ⟨k + 1, hlt, by go_num, HE.out, hb5, m0, m1, m2, m3, m4⟩
            case measure => simp [intOf]; omega
      · have hdd : decide (k < says.length) = false := decide_eq_false hlt
        rw [if_neg (by rw [all_end Wr.factOk says k hlt HR.out]; decide)] at HK
        clear HR
        go_wp2_with fail
        go_loopw [6] (fun iv wr => ∃ k : Nat, 1 ≤ k ∧ k ≤ says.length + 1 ∧ iv = .int .i64 k ∧ Hid (Wr.rise Rl.ord says = Wr.rise Rl.ord (says.drop (k - 1))) ∧ Below w2.heap.size w2 wr ∧ wr.cell? ⟨w.heap.size, 0, none⟩ = some (.int .i64 a) ∧ wr.cell? ⟨w.heap.size, 1, none⟩ = some (.int .i64 n) ∧ wr.cell? ⟨w.heap.size, 2, none⟩ = some (.slice ap ps.length cp) ∧ wr.cell? ⟨w.heap.size, 3, none⟩ = some (.slice as_ says.length cs) ∧ wr.cell? ⟨w.heap.size, 4, none⟩ = some (.slice at_ ts.length ct)) (fun iv _ => says.length + 2 - (intOf iv).toNat)
        case atStart => exact ⟨1, Nat.le_refl _, by omega, rfl, rfl, hbw, y0, y1, y2, y3, y4⟩
        case round =>
          clear hbw y0 y1 y2 y3 y4 hdd hlt
          obtain ⟨k, hk1, hk, rfl, HR, hbw, y0, y1, y2, y3, y4⟩ := hrel
          obtain ⟨j, hkj⟩ : ∃ j, k = j + 1 := ⟨k - 1, by omega⟩
          by_cases hlt : k < says.length
          · have hltj : j < says.length := by omega
            have hwr2 : IntKind.i64.wrap ((k : Int) - 1) = (j : Int) := by
              have e : ((k : Int) - 1) = (j : Int) := by omega
              rw [e]
              simp [IntKind.wrap, IntKind.bits, IntKind.signed]
              omega
            have HD : Hid (Wr.rise Rl.ord says = (decide (Rl.ord (Rl.factD says j) (Rl.factD says k) < 0) && Wr.rise Rl.ord (says.drop j.succ))) := by
              show _ = _
              rw [HR.out, hkj, Nat.add_sub_cancel]
              exact Wr.rise_step Rl.ord ⟨0, []⟩ says j (by omega)
            have HKJ : Hid (k = j + 1) := hkj
            clear hkj
            obtain ⟨b, off, rfl, p0, fv, p1, hIv⟩ := facts_at HSA.out j hltj
            obtain ⟨b2, off2, hv2, r0, gv, r1, hJv⟩ := facts_at HSA.out k hlt
            injection hv2 with hv2
            injection hv2 with hb2 ho2 _
            subst hb2 ho2
            have HIV : Hid (IntsV w2 fv (Rl.factD says j).args ∧ IntsV w2 gv (Rl.factD says k).args ∧ FFit (Rl.factD says j) ∧ FFit (Rl.factD says k)) := ⟨hIv, hJv, HFF.out _ (factD_mem says j hltj), HFF.out _ (factD_mem says k hlt)⟩
            obtain ⟨af, cf, rfl, _⟩ := hIv
            obtain ⟨ag, cg, rfl, _⟩ := hJv
            have a0 := cell_below hbw p0
            have a1 := cell_below hbw p1
            have c0 := cell_below hbw r0
            have c1 := cell_below hbw r1
            clear p0 p1 r0 r1 HR
            generalize Rl.factD says j = x at *
            generalize Rl.factD says k = y at *
            have HN : Hid (∀ z, Below wr.heap.size wr z → Calls Tryz.prog 49 #[fcVal x.pred (.slice af x.args.length cf), fcVal y.pred (.slice ag y.args.length cg)] z fun e w' => e = .returned (.int .i64 (Rl.ord x y)) ∧ Below wr.heap.size wr w' ∧ w'.cell? ⟨w.heap.size, 3, none⟩ = some (.slice (some ⟨b, off, none⟩) says.length cs) ∧ w'.cell? ⟨b, off + j * 2, none⟩ = some (.int .i64 x.pred) ∧ w'.cell? ⟨b, off + j * 2 + 1, none⟩ = some (.slice af x.args.length cf) ∧ w'.cell? ⟨b, off + k * 2, none⟩ = some (.int .i64 y.pred) ∧ w'.cell? ⟨b, off + k * 2 + 1, none⟩ = some (.slice ag y.args.length cg)) := by
              intro z hz
              have hzw := hbw.trans (hz.mono hbw.size)
              refine (OrderOf_any x y _ _ z (intsV_below HIV.out.1 hzw) (intsV_below HIV.out.2.1 hzw) HIV.out.2.2.1 HIV.out.2.2.2).mono ?_
              rintro e w' ⟨h1, h2⟩
              have h3 := hz.trans (h2.mono hz.size)
              exact ⟨h1, h3, cell_below h3 y3, cell_below h3 a0, cell_below h3 a1, cell_below h3 c0, cell_below h3 c1⟩
            generalize Rl.ord x y = od at *
            have HGA : ∀ b o, Below wr.heap.size wr b → Below wr.heap.size wr (b.alloc o) := fun _ o h => h.alloc h.size o
            have HGD : ∀ b, Below wr.heap.size wr b → Below wr.heap.size wr b.drew := fun _ h => ⟨h.os, h.tape, h.output, h.size, h.block⟩
            have HGR : Below wr.heap.size wr wr := Below.refl _ _
            by_cases ho : 0 ≤ od
            · have hod : decide (0 ≤ od) = true := decide_eq_true ho
              rw [if_pos (by rw [HD.out, decide_eq_false (by omega)]; rfl)] at HK
              clear HD
              go_upto_region 25 with fail
              go_region_held3 (fun yy => yy.cell? ⟨w.heap.size, 3, none⟩ = some (.slice (some ⟨b, off, none⟩) says.length cs) ∧ yy.cell? ⟨b, off + j * 2, none⟩ = some (.int .i64 x.pred) ∧ yy.cell? ⟨b, off + j * 2 + 1, none⟩ = some (.slice af x.args.length cf) ∧ yy.cell? ⟨b, off + k * 2, none⟩ = some (.int .i64 y.pred) ∧ yy.cell? ⟨b, off + k * 2 + 1, none⟩ = some (.slice ag y.args.length cg) ∧ Below wr.heap.size wr yy) (go_keep) (
                (go_at_call 49; refine Calls.mono (HN.out _ ?_) ?_; (simp [*]); rintro e w8 ⟨rfl, hb8, hz1, hz2, hz3, hz4, hz5⟩))
              clear HGA HGD HGR HN hz2 hz3 hz4 hz5
              have hb9 := hbw.trans (hb8.mono hbw.size)
              clear a0 a1 c0 c1
              go_wp2_with fail
              go_ret
              exact ⟨by rw [HK.out]; rfl, HG.out.trans (hb9.mono HG.out.size)⟩
            · have hod : decide (0 ≤ od) = false := decide_eq_false ho
              have HE : Hid (Wr.rise Rl.ord says = Wr.rise Rl.ord (says.drop k)) := by
                show _ = _
                rw [HD.out, decide_eq_true (by omega), Bool.true_and, HKJ.out]
              clear HD
              go_upto_region 25 with fail
              go_region_held3 (fun yy => yy.cell? ⟨w.heap.size, 3, none⟩ = some (.slice (some ⟨b, off, none⟩) says.length cs) ∧ yy.cell? ⟨b, off + j * 2, none⟩ = some (.int .i64 x.pred) ∧ yy.cell? ⟨b, off + j * 2 + 1, none⟩ = some (.slice af x.args.length cf) ∧ yy.cell? ⟨b, off + k * 2, none⟩ = some (.int .i64 y.pred) ∧ yy.cell? ⟨b, off + k * 2 + 1, none⟩ = some (.slice ag y.args.length cg) ∧ Below wr.heap.size wr yy) (go_keep) (
                (go_at_call 49; refine Calls.mono (HN.out _ ?_) ?_; (simp [*]); rintro e w8 ⟨rfl, hb8, hz1, hz2, hz3, hz4, hz5⟩))
              clear HGA HGD HGR HN hz2 hz3 hz4 hz5
              have hb9 := hbw.trans (hb8.mono hbw.size)
              have s0 := cell_below hb8 y0
              have s1 := cell_below hb8 y1
              have s2 := cell_below hb8 y2
              have s4 := cell_below hb8 y4
              clear a0 a1 c0 c1
              go_wp2_with fail
              go_roundw
              case rel => exact ⟨k + 1, by omega, by omega, by go_num, HE.out, hb9, s0, s1, s2, hz1, s4⟩
              case measure => simp [intOf]; omega
          · have hltI : decide (k < says.length) = false := decide_eq_false hlt
            rw [if_neg (by rw [HR.out, Wr.rise_end Rl.ord says (k - 1) (by omega)]; decide)] at HK
            go_wp2_with fail
            go_ret
            exact ⟨by rw [HK.out]; rfl, HG.out.trans (hbw.mono HG.out.size)⟩
  · have d1 : decide (1 < n) = false := decide_eq_false hn1
    rw [d1, Bool.false_and, if_neg (by decide)] at HK
    go_upto_region 11 with fail
    clear H18
    obtain ⟨wz, hwz, kb, k0, k1, k2, k3, k4⟩ : ∃ wz, wz = z3 ∧ Below w2.heap.size w2 wz ∧ wz.cell? ⟨w.heap.size, 0, none⟩ = some (.int .i64 a) ∧ wz.cell? ⟨w.heap.size, 1, none⟩ = some (.int .i64 n) ∧ wz.cell? ⟨w.heap.size, 2, none⟩ = some (.slice ap ps.length cp) ∧ wz.cell? ⟨w.heap.size, 3, none⟩ = some (.slice as_ says.length cs) ∧ wz.cell? ⟨w.heap.size, 4, none⟩ = some (.slice at_ ts.length ct) := ⟨z3, rfl, hb3, x30, x31, x32, x33, x34⟩
    subst hwz
    clear x20 x21 x22 x23 x24 x10 x11 x12 x13 x14 hb1 hb2
    go_wp2_with fail
    go_loopw [3] (fun iv wr => ∃ k : Nat, k ≤ says.length ∧ iv = .int .i64 k ∧ Hid (says.all Wr.factOk = (says.drop k).all Wr.factOk) ∧ Below w2.heap.size w2 wr ∧ wr.cell? ⟨w.heap.size, 0, none⟩ = some (.int .i64 a) ∧ wr.cell? ⟨w.heap.size, 1, none⟩ = some (.int .i64 n) ∧ wr.cell? ⟨w.heap.size, 2, none⟩ = some (.slice ap ps.length cp) ∧ wr.cell? ⟨w.heap.size, 3, none⟩ = some (.slice as_ says.length cs) ∧ wr.cell? ⟨w.heap.size, 4, none⟩ = some (.slice at_ ts.length ct)) (fun iv _ => says.length - (intOf iv).toNat)
    case atStart => exact ⟨0, Nat.zero_le _, rfl, rfl, kb, k0, k1, k2, k3, k4⟩
    case round =>
      obtain ⟨k, hk, rfl, HR, hbw, y0, y1, y2, y3, y4⟩ := hrel
      by_cases hlt : k < says.length
      · obtain ⟨b, off, rfl, p0, fv, p1, hIv⟩ := facts_at HSA.out k hlt
        have HD : Hid (says.all Wr.factOk = (Wr.factOk (Rl.factD says k) && (says.drop (k + 1)).all Wr.factOk)) := all_step Wr.factOk ⟨0, []⟩ says k hlt HR.out
        have HFL : Hid (FFit (Rl.factD says k)) := HFF.out _ (factD_mem says k hlt)
        have a0 := cell_below hbw p0
        have a1 := cell_below hbw p1
        clear p0 p1 HR
        generalize Rl.factD says k = x at *
        obtain ⟨xp, xs⟩ := x
        obtain ⟨af, cf, rfl, hIA⟩ := hIv
        dsimp only at a0 a1 hIA
        have HIA : Hid (IntsAt w2 af xs) := hIA
        clear hIA
        have hxl : xs.length ≤ 9223372036854775807 := HFL.out
        have HFO : Hid (Wr.factOk ⟨xp, xs⟩ = (decide (0 ≤ xp) && (decide (xp ≤ 9) && (decide (xs.length ≤ 3) && xs.all Wr.numOk)))) := by
          show _ = _
          unfold Wr.factOk
          simp only [Bool.decide_and, Bool.and_assoc]
        have HB5 : Hid _ := heap_alloc_new wr (.cells #[.int .i64 xp, .slice af xs.length cf] 84)
        have hB5 : Below wr.heap.size wr (wr.alloc (.cells #[.int .i64 xp, .slice af xs.length cf] 84)) := ((Gr.refl wr).alloc _).below
        go_upto_region 15 with fail
        generalize wr.alloc (.cells #[.int .i64 xp, .slice af xs.length cf] 84) = w5 at *
        have e0 : w5.cell? ⟨wr.heap.size, 0, none⟩ = some (.int .i64 xp) := by rw [Lib.cell_of_heap HB5.out]; rfl
        have e1 : w5.cell? ⟨wr.heap.size, 1, none⟩ = some (.slice af xs.length cf) := by rw [Lib.cell_of_heap HB5.out]; rfl
        obtain ⟨hb5, m0, m1, m2, m3, m4⟩ := HKB.out hbw hB5
        clear y0 y1 y2 y3 y4 a0 a1 HB5 hB5
        by_cases g1 : 0 ≤ xp
        rotate_left
        · have d1 : decide (0 ≤ xp) = false := decide_eq_false g1
          rw [if_pos (by rw [HD.out, HFO.out, d1]; rfl)] at HK
          go_wp2_with (go_at_call 47; refine Calls.mono (between_any _ _ _ _) ?_; rintro e z9 ⟨rfl, hz9⟩; obtain rfl := hz9.symm)
          go_ret
          exact ⟨by rw [HK.out]; rfl, HG.out.trans (hb5.mono HG.out.size)⟩
        have d1 : decide (0 ≤ xp) = true := decide_eq_true g1
        by_cases g2 : xp ≤ 9
        rotate_left
        · have d2 : decide (xp ≤ 9) = false := decide_eq_false g2
          rw [if_pos (by rw [HD.out, HFO.out, d1, d2]; rfl)] at HK
          go_wp2_with (go_at_call 47; refine Calls.mono (between_any _ _ _ _) ?_; rintro e z9 ⟨rfl, hz9⟩; obtain rfl := hz9.symm)
          go_ret
          exact ⟨by rw [HK.out]; rfl, HG.out.trans (hb5.mono HG.out.size)⟩
        have d2 : decide (xp ≤ 9) = true := decide_eq_true g2
        by_cases g3 : 3 < xs.length
        · have d3 : decide (3 < xs.length) = true := decide_eq_true g3
          have d3i : decide ((3 : Int) < (xs.length : Int)) = true := decide_eq_true (by omega)
          have d3n : decide (xs.length ≤ 3) = false := decide_eq_false (by omega)
          rw [if_pos (by rw [HD.out, HFO.out, d1, d2, d3n]; rfl)] at HK
          go_wp2_with (go_at_call 47; refine Calls.mono (between_any _ _ _ _) ?_; rintro e z9 ⟨rfl, hz9⟩; obtain rfl := hz9.symm)
          go_ret
          exact ⟨by rw [HK.out]; rfl, HG.out.trans (hb5.mono HG.out.size)⟩
        have d3 : decide (3 < xs.length) = false := decide_eq_false g3
        have d3i : decide ((3 : Int) < (xs.length : Int)) = false := decide_eq_false (by omega)
        have HFO2 : Hid (Wr.factOk ⟨xp, xs⟩ = xs.all Wr.numOk) := by
          show _ = _
          rw [HFO.out, d1, d2, decide_eq_true (p := xs.length ≤ 3) (by omega)]
          rfl
        go_upto_region 17 with (go_at_call 47; refine Calls.mono (between_any _ _ _ _) ?_; rintro e z9 ⟨rfl, hz9⟩; obtain rfl := hz9.symm)
        clear d1 d2 d3 d3i HFO
        go_wp2_with fail
        go_loopw [5] (fun iv wq => ∃ m : Nat, m ≤ xs.length ∧ iv = .int .i64 m ∧ Hid (xs.all Wr.numOk = (xs.drop m).all Wr.numOk) ∧ wq = w5) (fun iv _ => xs.length - (intOf iv).toNat)
        case atStart => exact ⟨0, Nat.zero_le _, rfl, rfl, rfl⟩
        case round =>
          obtain ⟨m, hm, rfl, HR2, hwq⟩ := hrel
          subst hwq
          by_cases hlm : m < xs.length
          · obtain ⟨b6, off6, rfl, p6⟩ := ints_at HIA.out m hlm
            have a6 := cell_below hb5 p6
            have HD6 : Hid (xs.all Wr.numOk = (Wr.numOk (Sc.intD xs m) && (xs.drop (m + 1)).all Wr.numOk)) := all_step Wr.numOk 0 xs m hlm HR2.out
            clear p6 HR2
            generalize Sc.intD xs m = y at *
            have HC : Hid (∀ z, Calls Tryz.prog 48 #[.int .i64 y] z fun e w' => e = .returned (.bool (Wr.numOk y)) ∧ w' = z) := fun z => IsNumber_any y z
            generalize Wr.numOk y = by6 at *
            cases by6
            · rw [if_pos (by rw [HD.out, HFO2.out, HD6.out]; rfl)] at HK
              go_wp2_with (go_at_call 48; refine Calls.mono (HC.out _) ?_; rintro e z9 ⟨rfl, hz9⟩; obtain rfl := hz9.symm)
              go_ret
              exact ⟨by rw [HK.out]; rfl, HG.out.trans (hb5.mono HG.out.size)⟩
            · go_wp2_with (go_at_call 48; refine Calls.mono (HC.out _) ?_; rintro e z9 ⟨rfl, hz9⟩; obtain rfl := hz9.symm)
              go_roundw
              case rel => exact ⟨m + 1, hlm, by go_num, HD6.out.trans (by rw [Bool.true_and]), trivial⟩
              case measure => simp [intOf]; omega
          · have hdd : decide (m < xs.length) = false := decide_eq_false hlm
            have HE : Hid (says.all Wr.factOk = (says.drop (k + 1)).all Wr.factOk) := by
              show _ = _
              rw [HD.out, HFO2.out, all_end Wr.numOk xs m hlm HR2.out, Bool.true_and]
            clear HD HFO2 HR2
            go_wp2_with fail
            go_roundw
            case rel => exact ⟨k + 1, hlt, by go_num, HE.out, hb5, m0, m1, m2, m3, m4⟩
            case measure => simp [intOf]; omega
      · have hdd : decide (k < says.length) = false := decide_eq_false hlt
        rw [if_neg (by rw [all_end Wr.factOk says k hlt HR.out]; decide)] at HK
        clear HR
        go_wp2_with fail
        go_loopw [6] (fun iv wr => ∃ k : Nat, 1 ≤ k ∧ k ≤ says.length + 1 ∧ iv = .int .i64 k ∧ Hid (Wr.rise Rl.ord says = Wr.rise Rl.ord (says.drop (k - 1))) ∧ Below w2.heap.size w2 wr ∧ wr.cell? ⟨w.heap.size, 0, none⟩ = some (.int .i64 a) ∧ wr.cell? ⟨w.heap.size, 1, none⟩ = some (.int .i64 n) ∧ wr.cell? ⟨w.heap.size, 2, none⟩ = some (.slice ap ps.length cp) ∧ wr.cell? ⟨w.heap.size, 3, none⟩ = some (.slice as_ says.length cs) ∧ wr.cell? ⟨w.heap.size, 4, none⟩ = some (.slice at_ ts.length ct)) (fun iv _ => says.length + 2 - (intOf iv).toNat)
        case atStart => exact ⟨1, Nat.le_refl _, by omega, rfl, rfl, hbw, y0, y1, y2, y3, y4⟩
        case round =>
          clear hbw y0 y1 y2 y3 y4 hdd hlt
          obtain ⟨k, hk1, hk, rfl, HR, hbw, y0, y1, y2, y3, y4⟩ := hrel
          obtain ⟨j, hkj⟩ : ∃ j, k = j + 1 := ⟨k - 1, by omega⟩
          by_cases hlt : k < says.length
          · have hltj : j < says.length := by omega
            have hwr2 : IntKind.i64.wrap ((k : Int) - 1) = (j : Int) := by
              have e : ((k : Int) - 1) = (j : Int) := by omega
              rw [e]
              simp [IntKind.wrap, IntKind.bits, IntKind.signed]
              omega
            have HD : Hid (Wr.rise Rl.ord says = (decide (Rl.ord (Rl.factD says j) (Rl.factD says k) < 0) && Wr.rise Rl.ord (says.drop j.succ))) := by
              show _ = _
              rw [HR.out, hkj, Nat.add_sub_cancel]
              exact Wr.rise_step Rl.ord ⟨0, []⟩ says j (by omega)
            have HKJ : Hid (k = j + 1) := hkj
            clear hkj
            obtain ⟨b, off, rfl, p0, fv, p1, hIv⟩ := facts_at HSA.out j hltj
            obtain ⟨b2, off2, hv2, r0, gv, r1, hJv⟩ := facts_at HSA.out k hlt
            injection hv2 with hv2
            injection hv2 with hb2 ho2 _
            subst hb2 ho2
            have HIV : Hid (IntsV w2 fv (Rl.factD says j).args ∧ IntsV w2 gv (Rl.factD says k).args ∧ FFit (Rl.factD says j) ∧ FFit (Rl.factD says k)) := ⟨hIv, hJv, HFF.out _ (factD_mem says j hltj), HFF.out _ (factD_mem says k hlt)⟩
            obtain ⟨af, cf, rfl, _⟩ := hIv
            obtain ⟨ag, cg, rfl, _⟩ := hJv
            have a0 := cell_below hbw p0
            have a1 := cell_below hbw p1
            have c0 := cell_below hbw r0
            have c1 := cell_below hbw r1
            clear p0 p1 r0 r1 HR
            generalize Rl.factD says j = x at *
            generalize Rl.factD says k = y at *
            have HN : Hid (∀ z, Below wr.heap.size wr z → Calls Tryz.prog 49 #[fcVal x.pred (.slice af x.args.length cf), fcVal y.pred (.slice ag y.args.length cg)] z fun e w' => e = .returned (.int .i64 (Rl.ord x y)) ∧ Below wr.heap.size wr w' ∧ w'.cell? ⟨w.heap.size, 3, none⟩ = some (.slice (some ⟨b, off, none⟩) says.length cs) ∧ w'.cell? ⟨b, off + j * 2, none⟩ = some (.int .i64 x.pred) ∧ w'.cell? ⟨b, off + j * 2 + 1, none⟩ = some (.slice af x.args.length cf) ∧ w'.cell? ⟨b, off + k * 2, none⟩ = some (.int .i64 y.pred) ∧ w'.cell? ⟨b, off + k * 2 + 1, none⟩ = some (.slice ag y.args.length cg)) := by
              intro z hz
              have hzw := hbw.trans (hz.mono hbw.size)
              refine (OrderOf_any x y _ _ z (intsV_below HIV.out.1 hzw) (intsV_below HIV.out.2.1 hzw) HIV.out.2.2.1 HIV.out.2.2.2).mono ?_
              rintro e w' ⟨h1, h2⟩
              have h3 := hz.trans (h2.mono hz.size)
              exact ⟨h1, h3, cell_below h3 y3, cell_below h3 a0, cell_below h3 a1, cell_below h3 c0, cell_below h3 c1⟩
            generalize Rl.ord x y = od at *
            have HGA : ∀ b o, Below wr.heap.size wr b → Below wr.heap.size wr (b.alloc o) := fun _ o h => h.alloc h.size o
            have HGD : ∀ b, Below wr.heap.size wr b → Below wr.heap.size wr b.drew := fun _ h => ⟨h.os, h.tape, h.output, h.size, h.block⟩
            have HGR : Below wr.heap.size wr wr := Below.refl _ _
            by_cases ho : 0 ≤ od
            · have hod : decide (0 ≤ od) = true := decide_eq_true ho
              rw [if_pos (by rw [HD.out, decide_eq_false (by omega)]; rfl)] at HK
              clear HD
              go_upto_region 25 with fail
              go_region_held3 (fun yy => yy.cell? ⟨w.heap.size, 3, none⟩ = some (.slice (some ⟨b, off, none⟩) says.length cs) ∧ yy.cell? ⟨b, off + j * 2, none⟩ = some (.int .i64 x.pred) ∧ yy.cell? ⟨b, off + j * 2 + 1, none⟩ = some (.slice af x.args.length cf) ∧ yy.cell? ⟨b, off + k * 2, none⟩ = some (.int .i64 y.pred) ∧ yy.cell? ⟨b, off + k * 2 + 1, none⟩ = some (.slice ag y.args.length cg) ∧ Below wr.heap.size wr yy) (go_keep) (
                (go_at_call 49; refine Calls.mono (HN.out _ ?_) ?_; (simp [*]); rintro e w8 ⟨rfl, hb8, hz1, hz2, hz3, hz4, hz5⟩))
              clear HGA HGD HGR HN hz2 hz3 hz4 hz5
              have hb9 := hbw.trans (hb8.mono hbw.size)
              clear a0 a1 c0 c1
              go_wp2_with fail
              go_ret
              exact ⟨by rw [HK.out]; rfl, HG.out.trans (hb9.mono HG.out.size)⟩
            · have hod : decide (0 ≤ od) = false := decide_eq_false ho
              have HE : Hid (Wr.rise Rl.ord says = Wr.rise Rl.ord (says.drop k)) := by
                show _ = _
                rw [HD.out, decide_eq_true (by omega), Bool.true_and, HKJ.out]
              clear HD
              go_upto_region 25 with fail
              go_region_held3 (fun yy => yy.cell? ⟨w.heap.size, 3, none⟩ = some (.slice (some ⟨b, off, none⟩) says.length cs) ∧ yy.cell? ⟨b, off + j * 2, none⟩ = some (.int .i64 x.pred) ∧ yy.cell? ⟨b, off + j * 2 + 1, none⟩ = some (.slice af x.args.length cf) ∧ yy.cell? ⟨b, off + k * 2, none⟩ = some (.int .i64 y.pred) ∧ yy.cell? ⟨b, off + k * 2 + 1, none⟩ = some (.slice ag y.args.length cg) ∧ Below wr.heap.size wr yy) (go_keep) (
                (go_at_call 49; refine Calls.mono (HN.out _ ?_) ?_; (simp [*]); rintro e w8 ⟨rfl, hb8, hz1, hz2, hz3, hz4, hz5⟩))
              clear HGA HGD HGR HN hz2 hz3 hz4 hz5
              have hb9 := hbw.trans (hb8.mono hbw.size)
              have s0 := cell_below hb8 y0
              have s1 := cell_below hb8 y1
              have s2 := cell_below hb8 y2
              have s4 := cell_below hb8 y4
              clear a0 a1 c0 c1
              go_wp2_with fail
              go_roundw
              case rel => exact ⟨k + 1, by omega, by omega, by go_num, HE.out, hb9, s0, s1, s2, hz1, s4⟩
              case measure => simp [intOf]; omega
          · have hltI : decide (k < says.length) = false := decide_eq_false hlt
            rw [if_neg (by rw [HR.out, Wr.rise_end Rl.ord says (k - 1) (by omega)]; decide)] at HK
            go_wp2_with fail
            go_ret
            exact ⟨by rw [HK.out]; rfl, HG.out.trans (hbw.mono HG.out.size)⟩

end Go.Proofs.YtmfaodapofamfaaGreat

/- Whether lists of ids, and updates, are the same. -/
namespace Go.Proofs.YtmfaodapofamfaaGreat
open Go.RowKit
theorem ids_step {l m : List Wr.Id} {k : Nat} (hk : k < l.length) (hm : k < m.length) (h : l.take k = m.take k) (e : idD l k = idD m k) : l.take (k + 1) = m.take (k + 1) := by
  rw [List.take_succ_eq_append_getElem hk, List.take_succ_eq_append_getElem hm, h]
  congr 2
  have a : idD l k = l[k] := by simp [idD, List.getD_eq_getElem?_getD, hk]
  have b : idD m k = m[k] := by simp [idD, List.getD_eq_getElem?_getD, hm]
  rw [← a, ← b, e]
theorem ids_all {l m : List Wr.Id} {k : Nat} (hlen : l.length = m.length) (hk : ¬ k < l.length) (h : l.take k = m.take k) : l = m := by
  rw [List.take_of_length_le (by omega), List.take_of_length_le (by omega)] at h
  exact h

set_option maxRecDepth 100000 in
set_option maxHeartbeats 1000000 in
theorem sameIds_any (l m : List Wr.Id) (v u : Value) (w : World) (hV : IdsV w v l) (hU : IdsV w u m) (hl : l.length ≤ 9223372036854775807) : Calls Tryz.prog 57 #[v, u] w fun e w' => e = .returned (.bool (decide (l = m))) ∧ Below w.heap.size w w' := by
  obtain ⟨ao, cap, rfl, _, hA⟩ := hV
  obtain ⟨bo, cbp, rfl, _, hB⟩ := hU
  have HA : Hid (IdsAt w ao l) := hA
  have HB : Hid (IdsAt w bo m) := hB
  clear hA hB
  by_cases hlen : l.length = m.length
  · rw [← hlen]
    have HLEN : Hid (l.length = m.length) := hlen
    have hne : ((l.length : Int) != (l.length : Int)) = false := by simp
    clear hlen
    go_enter Tryz.func57, Tryz.ntmps57
    go_wp2_with fail
    go_loopw [5] (fun iv wr => ∃ k nq : Nat, k ≤ l.length ∧ iv = .int .i64 k ∧ Hid (l.take k = m.take k) ∧ wr = w.drewN nq) (fun iv _ => l.length - (intOf iv).toNat)
    case atStart => exact ⟨0, 0, Nat.zero_le _, rfl, rfl, rfl⟩
    case round =>
      obtain ⟨k, nq, hk, rfl, HR, rfl⟩ := hrel
      by_cases hlt : k < l.length
      · obtain ⟨b, off, rfl, p0, p1⟩ := ids_at HA.out k hlt
        have hltm : k < m.length := by rw [← HLEN.out]; exact hlt
        obtain ⟨b2, off2, rfl, r0, r1⟩ := ids_at HB.out k hltm
        have HNX : Hid (idD l k = idD m k → l.take (k + 1) = m.take (k + 1)) := fun e => ids_step hlt hltm HR.out e
        have HNO : Hid (¬ idD l k = idD m k → ¬ l = m) := fun h e => h (by rw [e])
        clear hltm HR
        generalize idD l k = x at *
        generalize idD m k = z at *
        obtain ⟨xa, xn⟩ := x
        obtain ⟨za, zn⟩ := z
        by_cases e1 : xa = za
        · subst e1
          have g1 : (xa == xa) = true := by simp
          by_cases e2 : xn = zn
          · subst e2
            have g2 : (xn == xn) = true := by simp
            have HE : Hid _ := HNX.out rfl
            clear HNX HNO
            go_upto_region 6 with fail
            go_quiet (fail)
            go_wp2_with fail
            go_roundw
            case rel => exact ⟨k + 1, _, hlt, by go_num, HE.out, rfl⟩
            case measure => simp [intOf]; omega
          · have g2 : (xn == zn) = false := by simpa using e2
            have HE : Hid (decide (l = m) = false) := decide_eq_false (HNO.out (fun e => e2 (by injection e)))
            clear HNX HNO e2
            go_upto_region 6 with fail
            go_quiet (fail)
            go_wp2_with fail
            go_ret
            exact ⟨by rw [HE.out]; rfl, blw_drewN w _⟩
        · have g1 : (xa == za) = false := by simpa using e1
          have HE : Hid (decide (l = m) = false) := decide_eq_false (HNO.out (fun e => e1 (by injection e)))
          clear HNX HNO e1
          go_upto_region 6 with fail
          go_quiet (fail)
          go_wp2_with fail
          go_ret
          exact ⟨by rw [HE.out]; rfl, blw_drewN w _⟩
      · have hdd : decide (k < l.length) = false := decide_eq_false hlt
        have HE : Hid (decide (l = m) = true) := decide_eq_true (ids_all HLEN.out hlt HR.out)
        go_wp2_with fail
        go_ret
        exact ⟨by rw [HE.out]; rfl, blw_drewN w _⟩
  · have g0 : ((l.length : Int) != (m.length : Int)) = true := by simp; omega
    have HE : Hid (decide (l = m) = false) := decide_eq_false (fun h => hlen (by rw [h]))
    clear hlen
    go_enter Tryz.func57, Tryz.ntmps57
    go_wp2_with fail
    go_ret
    exact ⟨by rw [HE.out]; rfl, Below.refl _ _⟩

set_option maxRecDepth 100000 in
set_option maxHeartbeats 3000000 in
theorem SameUpdate_any (u x : Wr.Up) (vp vs vt vp2 vs2 vt2 : Value) (w : World) (hP : IdsV w vp u.ps) (hS : FactsV w vs u.says) (hT : IdsV w vt u.ts) (hP2 : IdsV w vp2 x.ps) (hS2 : FactsV w vs2 x.says) (hT2 : IdsV w vt2 x.ts) (hF : ∀ f, f ∈ u.says → FFit f) (hF2 : ∀ f, f ∈ x.says → FFit f) (hl : u.ps.length ≤ 9223372036854775807 ∧ u.says.length ≤ 9223372036854775807 ∧ u.ts.length ≤ 9223372036854775807) :
    Calls Tryz.prog 62 #[upVal u vp vs vt, upVal x vp2 vs2 vt2] w fun e w' => ∃ t : Bool, e = .returned (.bool t) ∧ (t = true ↔ u = x) ∧ Below w.heap.size w w' := by
  obtain ⟨⟨a, n⟩, ps, says, ts⟩ := u
  obtain ⟨⟨a2, n2⟩, ps2, says2, ts2⟩ := x
  dsimp only at hP hS hT hP2 hS2 hT2 hF hF2 hl
  obtain ⟨ap, cp, rfl, _⟩ := id hP
  obtain ⟨as_, cs, rfl, _⟩ := id hS
  obtain ⟨at_, ct, rfl, _⟩ := id hT
  obtain ⟨ap2, cp2, rfl, _⟩ := id hP2
  obtain ⟨as2, cs2, rfl, _⟩ := id hS2
  obtain ⟨at2, ct2, rfl, _⟩ := id hT2
  obtain ⟨bs, hbs⟩ : ∃ b : Bool, (b = true ↔ says = says2) := by
    by_cases h : says = says2
    · exact ⟨true, fun _ => h, fun _ => rfl⟩
    · exact ⟨false, fun e => (by cases e), fun e => absurd e h⟩
  have HQ : Hid ((⟨⟨a, n⟩, ps, says, ts⟩ : Wr.Up) = ⟨⟨a2, n2⟩, ps2, says2, ts2⟩ ↔ ((a = a2 ∧ n = n2) ∧ decide (ps = ps2) = true ∧ bs = true ∧ decide (ts = ts2) = true)) := by
    show _ ↔ _
    simp only [Wr.Up.mk.injEq, Wr.Id.mk.injEq, decide_eq_true_eq, hbs]
  have hG : Below w.heap.size w ((w.alloc (.cells #[.int .i64 a, .int .i64 n, .slice ap ps.length cp, .slice as_ says.length cs, .slice at_ ts.length ct] 30)).alloc (.cells #[.int .i64 a2, .int .i64 n2, .slice ap2 ps2.length cp2, .slice as2 says2.length cs2, .slice at2 ts2.length ct2] 30)) := (((Gr.refl w).alloc _).alloc _).below
  have t2 := two_blocks (w := w) (o1 := (.cells #[.int .i64 a, .int .i64 n, .slice ap ps.length cp, .slice as_ says.length cs, .slice at_ ts.length ct] 30)) (o2 := (.cells #[.int .i64 a2, .int .i64 n2, .slice ap2 ps2.length cp2, .slice as2 says2.length cs2, .slice at2 ts2.length ct2] 30)) (Below.refl _ _)
  go_enter Tryz.func62, Tryz.ntmps62
  go_upto_region 1 with fail
  generalize (w.alloc (.cells #[.int .i64 a, .int .i64 n, .slice ap ps.length cp, .slice as_ says.length cs, .slice at_ ts.length ct] 30)).alloc (.cells #[.int .i64 a2, .int .i64 n2, .slice ap2 ps2.length cp2, .slice as2 says2.length cs2, .slice at2 ts2.length ct2] 30) = w2 at *
  have c0 : w2.cell? ⟨w.heap.size, 0, none⟩ = some (.int .i64 a) := by rw [Lib.cell_of_heap t2.1]; rfl
  have c1 : w2.cell? ⟨w.heap.size, 1, none⟩ = some (.int .i64 n) := by rw [Lib.cell_of_heap t2.1]; rfl
  have c2 : w2.cell? ⟨w.heap.size, 2, none⟩ = some (.slice ap ps.length cp) := by rw [Lib.cell_of_heap t2.1]; rfl
  have c3 : w2.cell? ⟨w.heap.size, 3, none⟩ = some (.slice as_ says.length cs) := by rw [Lib.cell_of_heap t2.1]; rfl
  have c4 : w2.cell? ⟨w.heap.size, 4, none⟩ = some (.slice at_ ts.length ct) := by rw [Lib.cell_of_heap t2.1]; rfl
  have d0 : w2.cell? ⟨w.heap.size + 1, 0, none⟩ = some (.int .i64 a2) := by rw [Lib.cell_of_heap t2.2]; rfl
  have d1 : w2.cell? ⟨w.heap.size + 1, 1, none⟩ = some (.int .i64 n2) := by rw [Lib.cell_of_heap t2.2]; rfl
  have d2 : w2.cell? ⟨w.heap.size + 1, 2, none⟩ = some (.slice ap2 ps2.length cp2) := by rw [Lib.cell_of_heap t2.2]; rfl
  have d3 : w2.cell? ⟨w.heap.size + 1, 3, none⟩ = some (.slice as2 says2.length cs2) := by rw [Lib.cell_of_heap t2.2]; rfl
  have d4 : w2.cell? ⟨w.heap.size + 1, 4, none⟩ = some (.slice at2 ts2.length ct2) := by rw [Lib.cell_of_heap t2.2]; rfl
  have KB : ∀ {z w' : World}, Below w2.heap.size w2 z → Below z.heap.size z w' → Below w2.heap.size w2 w' ∧ w'.cell? ⟨w.heap.size, 0, none⟩ = some (.int .i64 a) ∧ w'.cell? ⟨w.heap.size, 1, none⟩ = some (.int .i64 n) ∧ w'.cell? ⟨w.heap.size, 2, none⟩ = some (.slice ap ps.length cp) ∧ w'.cell? ⟨w.heap.size, 3, none⟩ = some (.slice as_ says.length cs) ∧ w'.cell? ⟨w.heap.size, 4, none⟩ = some (.slice at_ ts.length ct) ∧ w'.cell? ⟨w.heap.size + 1, 0, none⟩ = some (.int .i64 a2) ∧ w'.cell? ⟨w.heap.size + 1, 1, none⟩ = some (.int .i64 n2) ∧ w'.cell? ⟨w.heap.size + 1, 2, none⟩ = some (.slice ap2 ps2.length cp2) ∧ w'.cell? ⟨w.heap.size + 1, 3, none⟩ = some (.slice as2 says2.length cs2) ∧ w'.cell? ⟨w.heap.size + 1, 4, none⟩ = some (.slice at2 ts2.length ct2) := fun hz h => by
    have h3 := hz.trans (h.mono hz.size)
    exact ⟨h3, cell_below h3 c0, cell_below h3 c1, cell_below h3 c2, cell_below h3 c3, cell_below h3 c4, cell_below h3 d0, cell_below h3 d1, cell_below h3 d2, cell_below h3 d3, cell_below h3 d4⟩
  have HP : Hid (∀ z, Below w2.heap.size w2 z → Calls Tryz.prog 57 #[.slice ap ps.length cp, .slice ap2 ps2.length cp2] z fun e w' => e = .returned (.bool (decide (ps = ps2))) ∧ Below w2.heap.size w2 w' ∧ w'.cell? ⟨w.heap.size, 0, none⟩ = some (.int .i64 a) ∧ w'.cell? ⟨w.heap.size, 1, none⟩ = some (.int .i64 n) ∧ w'.cell? ⟨w.heap.size, 2, none⟩ = some (.slice ap ps.length cp) ∧ w'.cell? ⟨w.heap.size, 3, none⟩ = some (.slice as_ says.length cs) ∧ w'.cell? ⟨w.heap.size, 4, none⟩ = some (.slice at_ ts.length ct) ∧ w'.cell? ⟨w.heap.size + 1, 0, none⟩ = some (.int .i64 a2) ∧ w'.cell? ⟨w.heap.size + 1, 1, none⟩ = some (.int .i64 n2) ∧ w'.cell? ⟨w.heap.size + 1, 2, none⟩ = some (.slice ap2 ps2.length cp2) ∧ w'.cell? ⟨w.heap.size + 1, 3, none⟩ = some (.slice as2 says2.length cs2) ∧ w'.cell? ⟨w.heap.size + 1, 4, none⟩ = some (.slice at2 ts2.length ct2)) := fun z hz => (sameIds_any ps ps2 _ _ z (idsV_below (idsV_below hP hG) hz) (idsV_below (idsV_below hP2 hG) hz) hl.1).mono fun e w' h => ⟨h.1, KB hz h.2⟩
  have HT : Hid (∀ z, Below w2.heap.size w2 z → Calls Tryz.prog 57 #[.slice at_ ts.length ct, .slice at2 ts2.length ct2] z fun e w' => e = .returned (.bool (decide (ts = ts2))) ∧ Below w2.heap.size w2 w' ∧ w'.cell? ⟨w.heap.size, 0, none⟩ = some (.int .i64 a) ∧ w'.cell? ⟨w.heap.size, 1, none⟩ = some (.int .i64 n) ∧ w'.cell? ⟨w.heap.size, 2, none⟩ = some (.slice ap ps.length cp) ∧ w'.cell? ⟨w.heap.size, 3, none⟩ = some (.slice as_ says.length cs) ∧ w'.cell? ⟨w.heap.size, 4, none⟩ = some (.slice at_ ts.length ct) ∧ w'.cell? ⟨w.heap.size + 1, 0, none⟩ = some (.int .i64 a2) ∧ w'.cell? ⟨w.heap.size + 1, 1, none⟩ = some (.int .i64 n2) ∧ w'.cell? ⟨w.heap.size + 1, 2, none⟩ = some (.slice ap2 ps2.length cp2) ∧ w'.cell? ⟨w.heap.size + 1, 3, none⟩ = some (.slice as2 says2.length cs2) ∧ w'.cell? ⟨w.heap.size + 1, 4, none⟩ = some (.slice at2 ts2.length ct2)) := fun z hz => (sameIds_any ts ts2 _ _ z (idsV_below (idsV_below hT hG) hz) (idsV_below (idsV_below hT2 hG) hz) hl.2.2).mono fun e w' h => ⟨h.1, KB hz h.2⟩
  have H38 : Hid (∀ z, Below w2.heap.size w2 z → Calls Tryz.prog 54 #[.slice as_ says.length cs, .slice as2 says2.length cs2] z fun e w' => e = .returned (.bool bs) ∧ Below w2.heap.size w2 w' ∧ w'.cell? ⟨w.heap.size, 0, none⟩ = some (.int .i64 a) ∧ w'.cell? ⟨w.heap.size, 1, none⟩ = some (.int .i64 n) ∧ w'.cell? ⟨w.heap.size, 2, none⟩ = some (.slice ap ps.length cp) ∧ w'.cell? ⟨w.heap.size, 3, none⟩ = some (.slice as_ says.length cs) ∧ w'.cell? ⟨w.heap.size, 4, none⟩ = some (.slice at_ ts.length ct) ∧ w'.cell? ⟨w.heap.size + 1, 0, none⟩ = some (.int .i64 a2) ∧ w'.cell? ⟨w.heap.size + 1, 1, none⟩ = some (.int .i64 n2) ∧ w'.cell? ⟨w.heap.size + 1, 2, none⟩ = some (.slice ap2 ps2.length cp2) ∧ w'.cell? ⟨w.heap.size + 1, 3, none⟩ = some (.slice as2 says2.length cs2) ∧ w'.cell? ⟨w.heap.size + 1, 4, none⟩ = some (.slice at2 ts2.length ct2)) := fun z hz => (SameFacts_any says says2 _ _ z (factsV_below (factsV_below hS hG) hz) (factsV_below (factsV_below hS2 hG) hz) hl.2.1 hF hF2).mono fun e w' ⟨t, h1, h2, h3⟩ => ⟨by rw [h1, Bool.eq_iff_iff.mpr (h2.trans hbs.symm)], KB hz h3⟩
  have HG : Hid _ := hG
  have HB2 : Below w2.heap.size w2 w2 := Below.refl _ _
  clear hP hS hT hP2 hS2 hT2 hF hF2 hl hG t2 KB hbs
  generalize decide (ps = ps2) = bp at *
  generalize decide (ts = ts2) = bt at *
  by_cases e1 : a = a2
  rotate_left
  · have g1 : (a == a2) = false := by simpa using e1
    have HE : Hid (¬ (⟨⟨a, n⟩, ps, says, ts⟩ : Wr.Up) = ⟨⟨a2, n2⟩, ps2, says2, ts2⟩) := fun h => e1 (HQ.out.mp h).1.1
    clear HQ e1
    go_wp2_with fail
    go_ret
    exact ⟨false, rfl, ⟨fun h => (by cases h), fun h => absurd h HE.out⟩, HG.out⟩
  by_cases e2 : n = n2
  rotate_left
  · have g2 : (n == n2) = false := by simpa using e2
    have HE : Hid (¬ (⟨⟨a, n⟩, ps, says, ts⟩ : Wr.Up) = ⟨⟨a2, n2⟩, ps2, says2, ts2⟩) := fun h => e2 (HQ.out.mp h).1.2
    have g1 : (a == a2) = true := by simpa using e1
    clear HQ e2
    go_wp2_with fail
    go_ret
    exact ⟨false, rfl, ⟨fun h => (by cases h), fun h => absurd h HE.out⟩, HG.out⟩
  have g1 : (a == a2) = true := by simpa using e1
  have g2 : (n == n2) = true := by simpa using e2
  have HQ2 : Hid ((⟨⟨a, n⟩, ps, says, ts⟩ : Wr.Up) = ⟨⟨a2, n2⟩, ps2, says2, ts2⟩ ↔ (bp = true ∧ bs = true ∧ bt = true)) := HQ.out.trans ⟨fun h => h.2, fun h => ⟨⟨e1, e2⟩, h⟩⟩
  clear HQ e1 e2
  cases bp
  · go_wp2_with (first | (go_at_call 57; with_reducible refine Calls.mono (HP.out _ (by assumption)) ?_; rintro e z1 ⟨rfl, hb1, x10, x11, x12, x13, x14, x15, x16, x17, x18, x19⟩) | (go_at_call 54; with_reducible refine Calls.mono (H38.out _ (by assumption)) ?_; rintro e z2 ⟨rfl, hb2, x20, x21, x22, x23, x24, x25, x26, x27, x28, x29⟩) | (go_at_call 57; with_reducible refine Calls.mono (HT.out _ (by assumption)) ?_; rintro e z3 ⟨rfl, hb3, x30, x31, x32, x33, x34, x35, x36, x37, x38, x39⟩))
    go_ret
    exact ⟨false, rfl, ⟨fun h => (by cases h), fun h => absurd (HQ2.out.mp h).1 (by decide)⟩, HG.out.trans (hb1.mono HG.out.size)⟩
  cases bs
  · go_wp2_with (first | (go_at_call 57; with_reducible refine Calls.mono (HP.out _ (by assumption)) ?_; rintro e z1 ⟨rfl, hb1, x10, x11, x12, x13, x14, x15, x16, x17, x18, x19⟩) | (go_at_call 54; with_reducible refine Calls.mono (H38.out _ (by assumption)) ?_; rintro e z2 ⟨rfl, hb2, x20, x21, x22, x23, x24, x25, x26, x27, x28, x29⟩) | (go_at_call 57; with_reducible refine Calls.mono (HT.out _ (by assumption)) ?_; rintro e z3 ⟨rfl, hb3, x30, x31, x32, x33, x34, x35, x36, x37, x38, x39⟩))
    go_ret
    exact ⟨false, rfl, ⟨fun h => (by cases h), fun h => absurd (HQ2.out.mp h).2.1 (by decide)⟩, HG.out.trans (hb2.mono HG.out.size)⟩
  cases bt
  · go_wp2_with (first | (go_at_call 57; with_reducible refine Calls.mono (HP.out _ (by assumption)) ?_; rintro e z1 ⟨rfl, hb1, x10, x11, x12, x13, x14, x15, x16, x17, x18, x19⟩) | (go_at_call 54; with_reducible refine Calls.mono (H38.out _ (by assumption)) ?_; rintro e z2 ⟨rfl, hb2, x20, x21, x22, x23, x24, x25, x26, x27, x28, x29⟩) | (go_at_call 57; with_reducible refine Calls.mono (HT.out _ (by assumption)) ?_; rintro e z3 ⟨rfl, hb3, x30, x31, x32, x33, x34, x35, x36, x37, x38, x39⟩))
    go_ret
    exact ⟨false, rfl, ⟨fun h => (by cases h), fun h => absurd (HQ2.out.mp h).2.2 (by decide)⟩, HG.out.trans (hb3.mono HG.out.size)⟩
  · go_wp2_with (first | (go_at_call 57; with_reducible refine Calls.mono (HP.out _ (by assumption)) ?_; rintro e z1 ⟨rfl, hb1, x10, x11, x12, x13, x14, x15, x16, x17, x18, x19⟩) | (go_at_call 54; with_reducible refine Calls.mono (H38.out _ (by assumption)) ?_; rintro e z2 ⟨rfl, hb2, x20, x21, x22, x23, x24, x25, x26, x27, x28, x29⟩) | (go_at_call 57; with_reducible refine Calls.mono (HT.out _ (by assumption)) ?_; rintro e z3 ⟨rfl, hb3, x30, x31, x32, x33, x34, x35, x36, x37, x38, x39⟩))
    go_ret
    exact ⟨true, rfl, ⟨fun _ => HQ2.out.mpr (by simp), fun _ => rfl⟩, HG.out.trans (hb3.mono HG.out.size)⟩

end Go.Proofs.YtmfaodapofamfaaGreat

/- Updates that came in. -/
namespace Go.Proofs.YtmfaodapofamfaaGreat
open Go.RowKit

theorem O_cells23 : Tryz.prog.cellsOf 26 = 2 := by kernel_rfl
theorem O_cells24 : Tryz.prog.cellsOf 27 = 1 := by kernel_rfl
theorem O_cells25 : Tryz.prog.cellsOf 28 = 1 := by kernel_rfl
section
variable {H : Type} {enc : TypeId × Value → H} {w : World} {base : Nat} {spare : Nat → Bool} {held : Bool}
theorem open_id {fuel : Nat} {v0 v1 : Value} {x : DataW H × List MemPlace} (h : DataW.trod enc Tryz.prog w base spare held fuel 26 [v0, v1] = some x) : ∃ i : Wr.Id, v0 = .int .i64 i.a ∧ v1 = .int .i64 i.n := by
  obtain ⟨y0, y1, n, _, g0, g1⟩ := trod_struct2 Tryz.underlying26 h
  simp [A_cells3] at g0 g1
  obtain ⟨k0, e0, _, _⟩ := DataW.trod_int Tryz.underlying3 g0
  obtain ⟨k1, e1, _, _⟩ := DataW.trod_int Tryz.underlying3 g1
  simp at e0 e1
  exact ⟨⟨k0, k1⟩, e0, e1⟩
theorem open_ids {fuel : Nat} {v : Value} {x : DataW H × List MemPlace} (h : DataW.trod enc Tryz.prog w base spare held fuel 27 [v] = some x) : ∃ l, IdsV w v l ∧ l.length ≤ 9223372036854775807 := by
  obtain ⟨ao, l, cap, hv, hcp, hmx, hl⟩ := open_rowC Tryz.underlying27 O_cells23 (by decide) (⟨0, 0⟩ : Wr.Id) (fun b off i => IdIn w b off i) (fun n cs' y b off hlen hc h2 => by
    match cs', hlen with
    | [v0, v1], _ =>
      obtain ⟨i, e0, e1⟩ := open_id h2
      exact ⟨i, by rw [← e0]; exact hc 0 (by decide), by rw [← e1]; exact hc 1 (by decide)⟩) h
  refine ⟨l, ⟨ao, cap, hv, ⟨hcp, fun e => ?_⟩, ?_⟩, hmx⟩
  · subst e
    rcases Deep.open_slice Tryz.underlying27 h with ⟨hv2, _⟩ | ⟨a, len, cap2, m, n, D, Pl, hv2, _⟩
    · have hv' : v = .slice none 0 0 := by simpa using hv2
      rw [hv] at hv'
      injection hv' with _ _ h2
    · have hv' : v = .slice (some a) len cap2 := by simpa using hv2
      rw [hv] at hv'
      injection hv' with h1
      cases h1
  · rcases hl with h | ⟨b, off, he, hc⟩
    · exact .inl h
    · exact .inr ⟨b, off, he, fun i hi => hc i hi⟩
theorem trod_struct4 {t : TypeId} {f0 f1 f2 f3 : Field} {fuel : Nat} {cs : List Value} {x : DataW H × List MemPlace} (ht : Tryz.prog.underlying t = some (.struct #[f0, f1, f2, f3])) (h : DataW.trod enc Tryz.prog w base spare held fuel t cs = some x) :
    ∃ y0 y1 y2 y3 n, cs.length = Tryz.prog.cellsOf t ∧ DataW.trod enc Tryz.prog w base spare held n f0.type ((cs.drop f0.offset).take (Tryz.prog.cellsOf f0.type)) = some y0 ∧
      DataW.trod enc Tryz.prog w base spare held n f1.type ((cs.drop f1.offset).take (Tryz.prog.cellsOf f1.type)) = some y1 ∧
      DataW.trod enc Tryz.prog w base spare held n f2.type ((cs.drop f2.offset).take (Tryz.prog.cellsOf f2.type)) = some y2 ∧
      DataW.trod enc Tryz.prog w base spare held n f3.type ((cs.drop f3.offset).take (Tryz.prog.cellsOf f3.type)) = some y3 := by
  obtain ⟨xs, n, _, rfl, hl, hlen, hf⟩ := DataW.trod_struct ht h
  match xs, hlen with
  | [y0, y1, y2, y3], _ => exact ⟨y0, y1, y2, y3, n, hl, by simpa using hf 0 f0 rfl, by simpa using hf 1 f1 rfl, by simpa using hf 2 f2 rfl, by simpa using hf 3 f3 rfl⟩
theorem open_up {fuel : Nat} {v0 v1 v2 v3 v4 : Value} {x : DataW H × List MemPlace} (h : DataW.trod enc Tryz.prog w base spare held fuel 30 [v0, v1, v2, v3, v4] = some x) :
    ∃ u : Wr.Up, Value.agg #[v0, v1, v2, v3, v4] = upVal u v2 v3 v4 ∧ IdsV w v2 u.ps ∧ FactsV w v3 u.says ∧ IdsV w v4 u.ts ∧ (∀ f, f ∈ u.says → FFit f) ∧ (u.ps.length ≤ 9223372036854775807 ∧ u.says.length ≤ 9223372036854775807 ∧ u.ts.length ≤ 9223372036854775807) := by
  obtain ⟨y0, y1, y2, y3, n, _, g0, g1, g2, g3⟩ := trod_struct4 Tryz.underlying30 h
  simp [O_cells23, O_cells24, O_cells25] at g0 g1 g2 g3
  obtain ⟨i, e0, e1⟩ := open_id g0
  obtain ⟨ps, hps, hl1⟩ := open_ids g1
  obtain ⟨says, hsy, hl2, hf⟩ := open_factsC g2
  obtain ⟨ts, hts, hl3⟩ := open_ids g3
  exact ⟨⟨i, ps, says, ts⟩, by rw [e0, e1], hps, hsy, hts, hf, hl1, hl2, hl3⟩
end
end Go.Proofs.YtmfaodapofamfaaGreat

/- Updates that hang on others, plain: who is come to, what is left, and that it hangs on no order; nothing of the program stands here. -/
namespace Go.Proofs.YtmfaodapofamfaaGreat
namespace Dg
open Wr

def uOrd (a b : Up) : Int := idOrd a.id b.id
def hasU (l : List Up) (x : Wr.Id) : Bool := l.any fun u => decide (u.id = x)
def under (u : Up) : List Wr.Id := u.ps ++ u.ts
def carry (l : List Up) (u : Up) : Bool := (under u).all (hasU l)
theorem hasU_iff {l : List Up} {x : Wr.Id} : hasU l x = true ↔ ∃ u, u ∈ l ∧ u.id = x := by
  unfold hasU
  rw [List.any_eq_true]
  constructor
  · rintro ⟨u, h, e⟩; exact ⟨u, h, of_decide_eq_true e⟩
  · rintro ⟨u, h, e⟩; exact ⟨u, h, decide_eq_true e⟩
theorem carry_iff {l : List Up} {u : Up} : carry l u = true ↔ ∀ x, x ∈ under u → hasU l x = true := by
  unfold carry
  rw [List.all_eq_true]
/-- Who is come to. -/
inductive Cm (l : List Up) : Wr.Id → Prop
  | mk (u : Up) (hu : u ∈ l) (h : ∀ x, x ∈ under u → Cm l x) : Cm l u.id
theorem Cm.mono {l m : List Up} (h : ∀ u, u ∈ l → u ∈ m) {x : Wr.Id} (hx : Cm l x) : Cm m x := by
  induction hx with
  | mk u hu _ ih => exact .mk u (h u hu) ih
theorem Cm.has {l : List Up} {x : Wr.Id} (h : Cm l x) : hasU l x = true := by
  cases h with
  | mk u hu _ => exact hasU_iff.mpr ⟨u, hu, rfl⟩
/-- No two have one id. -/
def Apart (l : List Up) : Prop := ∀ u v, u ∈ l → v ∈ l → u.id = v.id → u = v
theorem Cm.under {l : List Up} (hA : Apart l) {u : Up} (hu : u ∈ l) (h : Cm l u.id) : ∀ x, x ∈ Dg.under u → Cm l x := by
  generalize e : u.id = y at h
  cases h with
  | mk v hv hx =>
    have := hA u v hu hv e
    subst this
    exact hx

/-- Each of some updates goes to those that have come, if all that it hangs on is among them. f: where it is put. -/
def pass (f : List Up → Up → List Up) : List Up → List Up → List Up × List Up
  | c, [] => (c, [])
  | c, u :: r => if carry c u then pass f (f c u) r else ((pass f c r).1, u :: (pass f c r).2)
theorem pass_len (f : List Up → Up → List Up) : ∀ (l c : List Up), (pass f c l).2.length ≤ l.length
  | [], _ => Nat.le_refl _
  | u :: r, c => by
    unfold pass
    split
    · exact Nat.le_succ_of_le (pass_len f r _)
    · exact Nat.succ_le_succ (pass_len f r c)
/-- Again and again. -/
def settle (f : List Up → Up → List Up) (c l : List Up) : List Up × List Up :=
  if (pass f c l).2.length = l.length then pass f c l
  else settle f (pass f c l).1 (pass f c l).2
termination_by l.length
decreasing_by
  have := pass_len f l c
  omega
theorem settle_end {f : List Up → Up → List Up} {c l : List Up} (h : (pass f c l).2.length = l.length) : settle f c l = pass f c l := by
  rw [settle, if_pos h]
theorem settle_on {f : List Up → Up → List Up} {c l : List Up} (h : ¬ (pass f c l).2.length = l.length) : settle f c l = settle f (pass f c l).1 (pass f c l).2 := by
  rw [settle, if_neg h]
def Puts (f : List Up → Up → List Up) : Prop := ∀ c u, (f c u).Perm (u :: c)
theorem pass_perm {f : List Up → Up → List Up} (hf : Puts f) : ∀ (l c : List Up), ((pass f c l).1 ++ (pass f c l).2).Perm (c ++ l)
  | [], c => by simp [pass]
  | u :: r, c => by
    unfold pass
    split
    · refine (pass_perm hf r _).trans ?_
      refine ((hf c u).append_right r).trans ?_
      exact List.perm_middle.symm
    · refine List.perm_middle.trans ?_
      refine ((pass_perm hf r c).cons u).trans ?_
      exact List.perm_middle.symm
theorem pass_sub (f : List Up → Up → List Up) : ∀ (l c : List Up), (pass f c l).2.Sublist l
  | [], c => by simp [pass]
  | u :: r, c => by
    unfold pass
    split
    · exact (pass_sub f r _).cons u
    · exact (pass_sub f r c).cons_cons u
theorem pass_same {f : List Up → Up → List Up} : ∀ (l c : List Up), (pass f c l).2.length = l.length → (pass f c l).1 = c ∧ (pass f c l).2 = l ∧ ∀ u, u ∈ l → carry c u = false
  | [], c, _ => ⟨rfl, rfl, by simp⟩
  | u :: r, c, h => by
    unfold pass at h ⊢
    split at h
    · have := pass_len f r (f c u)
      simp only [List.length_cons] at h
      omega
    · rename_i hc
      rw [if_neg hc]
      simp only [List.length_cons, Nat.add_right_cancel_iff] at h
      obtain ⟨h1, h2, h3⟩ := pass_same r c h
      refine ⟨h1, by rw [h2], ?_⟩
      intro v hv
      rcases List.mem_cons.mp hv with rfl | hv
      · simpa using hc
      · exact h3 v hv
theorem pass_cm {f : List Up → Up → List Up} (hf : Puts f) (all : List Up) : ∀ (l c : List Up), (∀ u, u ∈ l → u ∈ all) → (∀ u, u ∈ c → Cm all u.id) → ∀ u, u ∈ (pass f c l).1 → Cm all u.id
  | [], c, _, hc => by simpa [pass] using hc
  | v :: r, c, hl, hc => by
    unfold pass
    split
    · rename_i hv
      refine pass_cm hf all r _ (fun u hu => hl u (by simp [hu])) (fun u hu => ?_)
      rcases List.mem_cons.mp ((hf c v).mem_iff.mp hu) with rfl | hu
      · refine .mk u (hl u (by simp)) (fun x hx => ?_)
        obtain ⟨y, hy, rfl⟩ := hasU_iff.mp (carry_iff.mp hv x hx)
        exact hc y hy
      · exact hc u hu
    · exact pass_cm hf all r c (fun u hu => hl u (by simp [hu])) hc
theorem pass_yes {f : List Up → Up → List Up} {c r : List Up} {u : Up} (h : carry c u = true) : pass f c (u :: r) = pass f (f c u) r := by
  rw [pass, if_pos h]
theorem pass_no {f : List Up → Up → List Up} {c r : List Up} {u : Up} (h : carry c u = false) : pass f c (u :: r) = ((pass f c r).1, u :: (pass f c r).2) := by
  rw [pass, if_neg (by simp [h])]

/-- What it all ends in. -/
structure Ends (all c l : List Up) : Prop where
  perm : (c ++ l).Perm all
  come : ∀ u, u ∈ c → Cm all u.id
  left : ∀ u, u ∈ l → carry c u = false
theorem settle_ends {f : List Up → Up → List Up} (hf : Puts f) (all : List Up) : ∀ (n : Nat) (l c : List Up), l.length = n → (c ++ l).Perm all → (∀ u, u ∈ c → Cm all u.id) → Ends all (settle f c l).1 (settle f c l).2 := by
  intro n
  induction n using Nat.strongRecOn with
  | ind n ih =>
    intro l c hn hp hc
    have hl : ∀ u, u ∈ l → u ∈ all := fun u hu => hp.mem_iff.mp (List.mem_append_right _ hu)
    by_cases h : (pass f c l).2.length = l.length
    · rw [settle_end h]
      obtain ⟨h1, h2, h3⟩ := pass_same l c h
      rw [h1, h2]
      exact ⟨hp, hc, h3⟩
    · rw [settle_on h]
      have := pass_len f l c
      exact ih _ (by omega) _ _ rfl ((pass_perm hf l c).trans hp) (pass_cm hf all l c hl hc)
theorem settle_sub {f : List Up → Up → List Up} : ∀ (n : Nat) (l c : List Up), l.length = n → (settle f c l).2.Sublist l := by
  intro n
  induction n using Nat.strongRecOn with
  | ind n ih =>
    intro l c hn
    by_cases h : (pass f c l).2.length = l.length
    · rw [settle_end h]; exact pass_sub f l c
    · rw [settle_on h]
      have := pass_len f l c
      exact (ih _ (by omega) _ _ rfl).trans (pass_sub f l c)

/-- Those that are come to, and those that are not. -/
structure Parts (all h w : List Up) : Prop where
  has : ∀ u, u ∈ h ↔ u ∈ all ∧ Cm all u.id
  waits : ∀ u, u ∈ w ↔ u ∈ all ∧ ¬ Cm all u.id
theorem Ends.parts {all c l : List Up} (h : Ends all c l) (hA : Apart all) : Parts all c l := by
  have key : ∀ x, Cm all x → hasU c x = true := by
    intro x hx
    induction hx with
    | mk u hu _ ih =>
      rcases List.mem_append.mp (h.perm.mem_iff.mpr hu) with hc | hl
      · exact hasU_iff.mpr ⟨u, hc, rfl⟩
      · have := h.left u hl
        rw [carry_iff.mpr ih] at this
        cases this
  have hin : ∀ u, u ∈ all → Cm all u.id → u ∈ c := fun u hu hx => by
    obtain ⟨v, hv, e⟩ := hasU_iff.mp (key _ hx)
    have := hA v u (h.perm.mem_iff.mp (List.mem_append_left _ hv)) hu e
    exact this ▸ hv
  have hno : ∀ u, u ∈ l → ¬ Cm all u.id := fun u hu hx => by
    have hua := h.perm.mem_iff.mp (List.mem_append_right _ hu)
    have h1 := h.left u hu
    rw [carry_iff.mpr (fun x hxu => key x (Cm.under hA hua hx x hxu))] at h1
    cases h1
  refine ⟨fun u => ⟨fun hu => ⟨h.perm.mem_iff.mp (List.mem_append_left _ hu), h.come u hu⟩, fun hu => hin u hu.1 hu.2⟩, fun u => ⟨fun hu => ⟨h.perm.mem_iff.mp (List.mem_append_right _ hu), hno u hu⟩, fun hu => ?_⟩⟩
  rcases List.mem_append.mp (h.perm.mem_iff.mpr hu.1) with hc | hl
  · exact absurd (h.come u hc) hu.2
  · exact hl
theorem Parts.congr {all all' h w : List Up} (hp : Parts all h w) (he : ∀ u, u ∈ all ↔ u ∈ all') : Parts all' h w := by
  have hc : ∀ x, Cm all x ↔ Cm all' x := fun x => ⟨Cm.mono fun u => (he u).mp, Cm.mono fun u => (he u).mpr⟩
  refine ⟨fun u => ?_, fun u => ?_⟩
  · rw [hp.has, he, hc]
  · rw [hp.waits, he, hc]
theorem Parts.mem {all h w : List Up} (hp : Parts all h w) (u : Up) : u ∈ h ∨ u ∈ w ↔ u ∈ all := by
  rw [hp.has, hp.waits]
  constructor
  · rintro (h | h) <;> exact h.1
  · intro hu
    by_cases hc : Cm all u.id
    · exact .inl ⟨hu, hc⟩
    · exact .inr ⟨hu, hc⟩
/-- Those that are come to carry themselves. -/
theorem Parts.carry {all h w : List Up} (hp : Parts all h w) (hA : Apart all) : ∀ u, u ∈ h → Dg.carry h u = true := fun u hu => by
  obtain ⟨h1, h2⟩ := (hp.has u).mp hu
  refine carry_iff.mpr fun x hx => ?_
  have hc := Cm.under hA h1 h2 x hx
  obtain ⟨v, hv, e⟩ := hasU_iff.mp hc.has
  exact hasU_iff.mpr ⟨v, (hp.has v).mpr ⟨hv, e ▸ hc⟩, e⟩
theorem Parts.come {all h w : List Up} (hp : Parts all h w) : ∀ x, Cm all x → Cm h x := by
  intro x hx
  induction hx with
  | mk u hu hx ih => exact .mk u ((hp.has u).mpr ⟨hu, .mk u hu hx⟩) ih
theorem Parts.wait {all h w : List Up} (hp : Parts all h w) : ∀ u, u ∈ w → Dg.carry h u = false := fun u hu => by
  obtain ⟨h1, h2⟩ := (hp.waits u).mp hu
  cases hc : Dg.carry h u with
  | false => rfl
  | true =>
    refine absurd (Cm.mk u h1 fun x hx => ?_) h2
    obtain ⟨v, hv, e⟩ := hasU_iff.mp (carry_iff.mp hc x hx)
    exact e ▸ ((hp.has v).mp hv).2

/-! Order. -/
theorem cmpI_neg {a b : Int} : Rl.cmpI a b < 0 ↔ a < b := by
  unfold Rl.cmpI
  split
  · simp [*]
  · split <;> simp [*]
theorem cmpI_nul {a b : Int} : Rl.cmpI a b = 0 ↔ a = b := by
  unfold Rl.cmpI
  split
  · constructor
    · intro h; cases h
    · intro h; omega
  · split
    · constructor
      · intro h; cases h
      · intro h; omega
    · constructor
      · intro _; omega
      · intro _; rfl
theorem idOrd_neg {x y : Wr.Id} : idOrd x y < 0 ↔ x.a < y.a ∨ (x.a = y.a ∧ x.n < y.n) := by
  unfold idOrd
  by_cases h : x.a = y.a
  · rw [if_pos (cmpI_nul.mpr h), cmpI_neg]
    constructor
    · intro h2; exact .inr ⟨h, h2⟩
    · rintro (h2 | h2)
      · omega
      · exact h2.2
  · rw [if_neg (fun e => h (cmpI_nul.mp e)), cmpI_neg]
    constructor
    · intro h2; exact .inl h2
    · rintro (h2 | h2)
      · exact h2
      · exact absurd h2.1 h
theorem idOrd_nul {x y : Wr.Id} : idOrd x y = 0 ↔ x = y := by
  obtain ⟨a, n⟩ := x
  obtain ⟨b, m⟩ := y
  unfold idOrd
  by_cases h : a = b
  · rw [if_pos (cmpI_nul.mpr h), cmpI_nul]
    simp [h]
  · rw [if_neg (fun e => h (cmpI_nul.mp e)), cmpI_nul]
    simp [h]
theorem uOrd_trans {a b c : Up} (h : uOrd a b < 0) (k : uOrd b c < 0) : uOrd a c < 0 := by
  unfold uOrd at *
  rw [idOrd_neg] at *
  omega
theorem uOrd_total {a b : Up} (h : ¬ uOrd a b < 0) (hne : a.id ≠ b.id) : uOrd b a < 0 := by
  unfold uOrd at *
  rw [idOrd_neg] at *
  have : ¬ (a.id.a = b.id.a ∧ a.id.n = b.id.n) := fun e => hne (by cases h1 : a.id; cases h2 : b.id; simp [h1, h2] at e ⊢; exact e)
  omega
theorem uOrd_ne {a b : Up} (h : uOrd a b < 0) : a.id ≠ b.id := fun e => by
  unfold uOrd at h
  rw [idOrd_nul.mpr e] at h
  omega
theorem rise_cons {u : Up} {l : List Up} : rise uOrd (u :: l) = true ↔ (∀ v, v ∈ l → uOrd u v < 0) ∧ rise uOrd l = true := by
  induction l generalizing u with
  | nil => simp [rise]
  | cons a r ih =>
    show (decide (uOrd u a < 0) && rise uOrd (a :: r)) = true ↔ _
    rw [Bool.and_eq_true, decide_eq_true_eq, ih]
    constructor
    · rintro ⟨h1, h2, h3⟩
      refine ⟨fun v hv => ?_, h2, h3⟩
      rcases List.mem_cons.mp hv with rfl | hv
      · exact h1
      · exact uOrd_trans h1 (h2 v hv)
    · rintro ⟨h1, h2, h3⟩
      exact ⟨h1 a (by simp), h2, h3⟩
theorem rise_apart : ∀ {l : List Up}, rise uOrd l = true → Apart l
  | [], _ => by intro u v hu; simp at hu
  | a :: r, h => by
    obtain ⟨h1, h2⟩ := rise_cons.mp h
    intro u v hu hv e
    rcases List.mem_cons.mp hu with e1 | hu' <;> rcases List.mem_cons.mp hv with e2 | hv'
    · rw [e1, e2]
    · exact absurd e (uOrd_ne (e1 ▸ h1 v hv'))
    · exact absurd e.symm (uOrd_ne (e2 ▸ h1 u hu'))
    · exact rise_apart h2 u v hu' hv' e
theorem rise_one : ∀ {l m : List Up}, rise uOrd l = true → rise uOrd m = true → (∀ u, u ∈ l ↔ u ∈ m) → l = m
  | [], [], _, _, _ => rfl
  | [], b :: s, _, _, h => absurd ((h b).mpr (by simp)) (by simp)
  | a :: r, [], _, _, h => absurd ((h a).mp (by simp)) (by simp)
  | a :: r, b :: s, hl, hm, h => by
    obtain ⟨l1, l2⟩ := rise_cons.mp hl
    obtain ⟨m1, m2⟩ := rise_cons.mp hm
    have irr : ∀ x : Up, ¬ uOrd x x < 0 := fun x hx => uOrd_ne hx rfl
    have hab : a = b := by
      rcases List.mem_cons.mp ((h a).mp (by simp)) with e | ha
      · exact e
      · rcases List.mem_cons.mp ((h b).mpr (by simp)) with e | hb
        · exact e.symm
        · exact absurd (uOrd_trans (l1 b hb) (m1 a ha)) (irr a)
    subst hab
    have : r = s := rise_one l2 m2 (fun u => ?_)
    · rw [this]
    · constructor
      · intro hu
        rcases List.mem_cons.mp ((h u).mp (by simp [hu])) with rfl | hu2
        · exact absurd (l1 _ hu) (irr _)
        · exact hu2
      · intro hu
        rcases List.mem_cons.mp ((h u).mpr (by simp [hu])) with rfl | hu2
        · exact absurd (m1 _ hu) (irr _)
        · exact hu2
/-- Updates with one more, in order. -/
def ins (u : Up) : List Up → List Up
  | [] => [u]
  | v :: r => if uOrd u v < 0 then u :: v :: r else v :: ins u r
theorem ins_perm (u : Up) : ∀ l : List Up, (ins u l).Perm (u :: l)
  | [] => .refl _
  | v :: r => by
    unfold ins
    split
    · exact .refl _
    · exact ((ins_perm u r).cons v).trans (List.Perm.swap u v r)
theorem ins_rise {u : Up} : ∀ {l : List Up}, rise uOrd l = true → hasU l u.id = false → rise uOrd (ins u l) = true
  | [], _, _ => rfl
  | v :: r, h, hn => by
    obtain ⟨h1, h2⟩ := rise_cons.mp h
    have hne : v.id ≠ u.id := fun e => by
      have : hasU (v :: r) u.id = true := hasU_iff.mpr ⟨v, by simp, e⟩
      rw [hn] at this; cases this
    have hr : hasU r u.id = false := by
      cases hx : hasU r u.id with
      | false => rfl
      | true =>
        obtain ⟨y, hy, e⟩ := hasU_iff.mp hx
        have : hasU (v :: r) u.id = true := hasU_iff.mpr ⟨y, by simp [hy], e⟩
        rw [hn] at this; cases this
    unfold ins
    split
    · rename_i hlt
      refine rise_cons.mpr ⟨fun w hw => ?_, h⟩
      rcases List.mem_cons.mp hw with rfl | hw
      · exact hlt
      · exact uOrd_trans hlt (h1 w hw)
    · rename_i hlt
      refine rise_cons.mpr ⟨fun w hw => ?_, ins_rise h2 hr⟩
      rcases List.mem_cons.mp ((ins_perm u r).mem_iff.mp hw) with rfl | hw
      · exact uOrd_total hlt (fun e => hne e.symm)
      · exact h1 w hw
theorem rise_nodup : ∀ {l : List Up}, rise uOrd l = true → (l.map Up.id).Nodup
  | [], _ => by simp
  | a :: r, h => by
    obtain ⟨h1, h2⟩ := rise_cons.mp h
    rw [List.map_cons, List.nodup_cons]
    refine ⟨fun hm => ?_, rise_nodup h2⟩
    obtain ⟨v, hv, e⟩ := List.mem_map.mp hm
    exact uOrd_ne (h1 v hv) e.symm
theorem apart_of_nodup : ∀ {l : List Up}, (l.map Up.id).Nodup → Apart l
  | [], _ => by intro u v hu; simp at hu
  | a :: r, h => by
    rw [List.map_cons, List.nodup_cons] at h
    intro u v hu hv e
    rcases List.mem_cons.mp hu with e1 | hu' <;> rcases List.mem_cons.mp hv with e2 | hv'
    · rw [e1, e2]
    · exact absurd (List.mem_map.mpr ⟨v, hv', e1 ▸ e.symm⟩) h.1
    · exact absurd (List.mem_map.mpr ⟨u, hu', e2 ▸ e⟩) h.1
    · exact apart_of_nodup h.2 u v hu' hv' e

/-! Check. -/
def snoc (c : List Up) (u : Up) : List Up := c ++ [u]
theorem puts_snoc : Puts snoc := fun c u => by
  unfold snoc
  exact List.perm_append_comm
theorem puts_ins : Puts (fun c u => ins u c) := fun c u => ins_perm u c
def bad (u : Up) : Bool := decide (Wr.check u ≠ 0)
def first (l : List Up) : Int := match l.find? bad with | some u => Wr.check u | none => 0
def together (h w : List Up) : Int :=
  if (rise uOrd h && rise uOrd w && !(w.any fun u => hasU h u.id)) = false then 4
  else if (h.any fun u => !carry h u) = true then 5
  else if ((settle snoc [] h).2.length != 0 || w.any (carry h)) = true then 4 else 0
def check (h w : List Up) : Int :=
  if 200 < h.length + w.length then 2
  else if first (h ++ w) ≠ 0 then first (h ++ w)
  else together h w
theorem first_ok {l : List Up} : first l = 0 ↔ ∀ u, u ∈ l → Wr.check u = 0 := by
  unfold first
  cases h : l.find? bad with
  | none =>
    simp only [true_iff]
    intro u hu
    have := List.find?_eq_none.mp h u hu
    simpa [bad] using this
  | some u =>
    have h1 := List.find?_some h
    have h2 := List.mem_of_find?_eq_some h
    have h3 : Wr.check u ≠ 0 := by simpa [bad] using h1
    exact ⟨fun e => absurd e h3, fun e => absurd (e u h2) h3⟩
/-- A replica that is right. -/
structure Ok (h w : List Up) : Prop where
  few : h.length + w.length ≤ 200
  each : ∀ u, u ∈ h ++ w → Wr.check u = 0
  rh : rise uOrd h = true
  rw_ : rise uOrd w = true
  apart : ∀ u, u ∈ w → hasU h u.id = false
  parts : Parts (h ++ w) h w
theorem apart_app {h w : List Up} (h1 : rise uOrd h = true) (h2 : rise uOrd w = true) (h3 : ∀ u, u ∈ w → hasU h u.id = false) : Apart (h ++ w) := by
  intro u v hu hv e
  have no : ∀ a b, a ∈ h → b ∈ w → a.id ≠ b.id := fun a b ha hb e => by
    have := h3 b hb
    rw [hasU_iff.mpr ⟨a, ha, e⟩] at this
    cases this
  rcases List.mem_append.mp hu with hu | hu <;> rcases List.mem_append.mp hv with hv | hv
  · exact rise_apart h1 u v hu hv e
  · exact absurd e (no u v hu hv)
  · exact absurd e.symm (no v u hv hu)
  · exact rise_apart h2 u v hu hv e
theorem nodup_app {h w : List Up} (h1 : rise uOrd h = true) (h2 : rise uOrd w = true) (h3 : ∀ u, u ∈ w → hasU h u.id = false) : ((h ++ w).map Up.id).Nodup := by
  rw [List.map_append, List.nodup_append]
  refine ⟨rise_nodup h1, rise_nodup h2, fun a ha b hb e => ?_⟩
  obtain ⟨x, hx, rfl⟩ := List.mem_map.mp ha
  obtain ⟨y, hy, rfl⟩ := List.mem_map.mp hb
  have := h3 y hy
  rw [hasU_iff.mpr ⟨x, hx, e⟩] at this
  cases this
theorem round_iff {h : List Up} (hA : Apart h) : (settle snoc [] h).2 = [] ↔ ∀ u, u ∈ h → Cm h u.id := by
  have hE := settle_ends puts_snoc h h.length h [] rfl (by simp) (by simp)
  have hP := hE.parts hA
  constructor
  · intro e u hu
    have h1 := (hP.mem u).mpr hu
    rw [e] at h1
    rcases h1 with h1 | h1
    · exact hE.come u h1
    · simp at h1
  · intro hc
    cases e : (settle snoc [] h).2 with
    | nil => rfl
    | cons a r =>
      have := (hP.waits a).mp (by rw [e]; simp)
      exact absurd (hc a this.1) this.2
theorem together_ok {h w : List Up} (hl : h.length + w.length ≤ 200) (he : ∀ u, u ∈ h ++ w → Wr.check u = 0) : together h w = 0 ↔ Ok h w := by
  unfold together
  constructor
  · intro ht
    split at ht
    · cases ht
    · rename_i h1
      split at ht
      · cases ht
      · rename_i h2
        split at ht
        · cases ht
        · rename_i h3
          simp only [Bool.not_eq_false, Bool.and_eq_true, Bool.not_eq_true', List.any_eq_false, Bool.not_eq_true] at h1
          have hap := apart_app h1.1.1 h1.1.2 h1.2
          simp only [Bool.not_eq_true, Bool.or_eq_false_iff, bne_eq_false_iff_eq] at h3
          have h4 := (round_iff (rise_apart h1.1.1)).mp (List.eq_nil_of_length_eq_zero h3.1)
          have h5 : ∀ u, u ∈ w → carry h u = false := fun u hu => by
            have := List.any_eq_false.mp h3.2 u hu
            simpa using this
          refine ⟨hl, he, h1.1.1, h1.1.2, h1.2, Ends.parts ⟨.refl _, fun u hu => (h4 u hu).mono (fun v hv => List.mem_append_left _ hv), h5⟩ hap⟩
  · intro o
    have hap := apart_app o.rh o.rw_ o.apart
    have h1 : (rise uOrd h && rise uOrd w && !(w.any fun u => hasU h u.id)) = true := by
      rw [o.rh, o.rw_]
      simp only [Bool.and_self, Bool.true_and, Bool.not_eq_true', List.any_eq_false]
      intro u hu
      rw [o.apart u hu]
      simp
    rw [if_neg (by rw [h1]; simp)]
    have h2 : (h.any fun u => !carry h u) = false := by
      rw [List.any_eq_false]
      intro u hu
      rw [o.parts.carry hap u hu]
      simp
    rw [if_neg (by rw [h2]; simp)]
    have h3 : (settle snoc [] h).2 = [] := (round_iff (rise_apart o.rh)).mpr (fun u hu => o.parts.come _ ((o.parts.has u).mp hu).2)
    have h4 : w.any (carry h) = false := by
      rw [List.any_eq_false]
      intro u hu
      rw [o.parts.wait u hu]
      simp
    rw [h3, h4]
    rfl
theorem check_ok {h w : List Up} : check h w = 0 ↔ Ok h w := by
  unfold check
  constructor
  · intro hc
    split at hc
    · cases hc
    · split at hc
      · rename_i h2
        exact absurd hc h2
      · rename_i h1 h2
        exact (together_ok (by omega) (first_ok.mp (by simpa using h2))).mp hc
  · intro o
    rw [if_neg (by have := o.few; omega), if_neg (by rw [first_ok.mpr o.each]; simp)]
    exact (together_ok o.few o.each).mpr o

/-! Add. -/
/-- All there are with one more. -/
def more (l : List Up) (u : Up) : List Up := if hasU l u.id then l else l ++ [u]
/-- What a replica of some updates is. -/
structure Is (all h w : List Up) : Prop where
  parts : Parts all h w
  rh : rise uOrd h = true
  rw_ : rise uOrd w = true
theorem Is.one {all h w h' w' : List Up} (a : Is all h w) (b : Is all h' w') : h = h' ∧ w = w' :=
  ⟨rise_one a.rh b.rh fun u => by rw [a.parts.has, b.parts.has], rise_one a.rw_ b.rw_ fun u => by rw [a.parts.waits, b.parts.waits]⟩
theorem Is.congr {all all' h w : List Up} (a : Is all h w) (he : ∀ u, u ∈ all ↔ u ∈ all') : Is all' h w := ⟨a.parts.congr he, a.rh, a.rw_⟩
theorem Ok.is {h w : List Up} (o : Ok h w) : Is (h ++ w) h w := ⟨o.parts, o.rh, o.rw_⟩
theorem Ok.nd {h w : List Up} (o : Ok h w) : ((h ++ w).map Up.id).Nodup := nodup_app o.rh o.rw_ o.apart
theorem Is.ok {all h w : List Up} (a : Is all h w) (hA : Apart all) (he : ∀ u, u ∈ all → Wr.check u = 0) (hl : h.length + w.length ≤ 200) : Ok h w := by
  refine ⟨hl, fun u hu => he u ((a.parts.mem u).mp (List.mem_append.mp hu)), a.rh, a.rw_, fun u hu => ?_, a.parts.congr fun u => by rw [← a.parts.mem u, List.mem_append]⟩
  cases hx : hasU h u.id with
  | false => rfl
  | true =>
    obtain ⟨v, hv, e⟩ := hasU_iff.mp hx
    obtain ⟨v1, v2⟩ := (a.parts.has v).mp hv
    obtain ⟨u1, u2⟩ := (a.parts.waits u).mp hu
    have := hA v u v1 u1 e
    subst this
    exact absurd v2 u2
theorem more_nodup {l : List Up} {u : Up} (h : (l.map Up.id).Nodup) : ((more l u).map Up.id).Nodup := by
  unfold more
  split
  · exact h
  · rename_i hn
    rw [List.map_append, List.nodup_append]
    refine ⟨h, by simp, fun a ha b hb e => ?_⟩
    obtain ⟨x, hx, rfl⟩ := List.mem_map.mp ha
    simp only [List.map_cons, List.map_nil, List.mem_singleton] at hb
    exact hn (hasU_iff.mpr ⟨x, hx, e.trans hb⟩)
theorem more_mem {l : List Up} {u v : Up} : v ∈ more l u ↔ v ∈ l ∨ (hasU l u.id = false ∧ v = u) := by
  unfold more
  cases h : hasU l u.id <;> simp
/-- What the program does: all of them, from the beginning, sorted. -/
theorem is_settle {l h w : List Up} (hn : (l.map Up.id).Nodup) (h1 : ∀ u, u ∈ h ↔ u ∈ (settle snoc [] l).1) (h2 : ∀ u, u ∈ w ↔ u ∈ (settle snoc [] l).2) (r1 : rise uOrd h = true) (r2 : rise uOrd w = true) : Is l h w := by
  have hE := (settle_ends puts_snoc l l.length l [] rfl (by simp) (by simp)).parts (apart_of_nodup hn)
  exact ⟨⟨fun u => (h1 u).trans (hE.has u), fun u => (h2 u).trans (hE.waits u)⟩, r1, r2⟩
theorem pass_rise : ∀ (l c : List Up), ((c ++ l).map Up.id).Nodup → rise uOrd c = true → rise uOrd (pass (fun c x => ins x c) c l).1 = true
  | [], c, _, h => by simpa [pass] using h
  | u :: r, c, hn, h => by
    have hnu : hasU c u.id = false := by
      cases hx : hasU c u.id with
      | false => rfl
      | true =>
        obtain ⟨v, hv, e⟩ := hasU_iff.mp hx
        rw [List.map_append, List.nodup_append] at hn
        exact absurd e (hn.2.2 v.id (List.mem_map.mpr ⟨v, hv, rfl⟩) u.id (by simp))
    have hp : (c ++ u :: r).Perm (ins u c ++ r) := List.perm_middle.trans ((ins_perm u c).symm.append_right r)
    unfold pass
    split
    · exact pass_rise r _ ((hp.map Up.id).nodup_iff.mp hn) (ins_rise h hnu)
    · refine pass_rise r c (hn.sublist ?_) h
      exact (List.Sublist.append_left (List.sublist_cons_self u r) c).map _
theorem settle_rise : ∀ (n : Nat) (l c : List Up), l.length = n → ((c ++ l).map Up.id).Nodup → rise uOrd c = true → rise uOrd (settle (fun c x => ins x c) c l).1 = true := by
  intro n
  induction n using Nat.strongRecOn with
  | ind n ih =>
    intro l c hn hd hc
    by_cases h : (pass (fun c x => ins x c) c l).2.length = l.length
    · rw [settle_end h]; exact pass_rise l c hd hc
    · rw [settle_on h]
      have := pass_len (fun c x => ins x c) l c
      exact ih _ (by omega) _ _ rfl (((pass_perm puts_ins l c).map Up.id).nodup_iff.mpr hd) (pass_rise l c hd hc)
/-- What the document does: one by one. -/
theorem is_add {h w : List Up} {u : Up} (o : Ok h w) (hn : hasU (h ++ w) u.id = false) : Is (more (h ++ w) u) (settle (fun c x => ins x c) h (ins u w)).1 (settle (fun c x => ins x c) h (ins u w)).2 := by
  have hnw : hasU w u.id = false := by
    cases hx : hasU w u.id with
    | false => rfl
    | true =>
      obtain ⟨v, hv, e⟩ := hasU_iff.mp hx
      rw [hasU_iff.mpr ⟨v, List.mem_append_right _ hv, e⟩] at hn
      cases hn
  have hm : more (h ++ w) u = h ++ w ++ [u] := by unfold more; rw [hn]; rfl
  have hp : (h ++ ins u w).Perm (more (h ++ w) u) := by
    rw [hm, List.append_assoc]
    exact (List.Perm.append_left h (ins_perm u w)).trans (List.Perm.append_left h (List.perm_append_comm (l₁ := [u]) (l₂ := w)))
  have hnd := more_nodup (u := u) o.nd
  have hE := settle_ends puts_ins (more (h ++ w) u) _ (ins u w) h rfl hp (fun v hv => (((o.parts.has v).mp hv).2).mono fun x hx => more_mem.mpr (.inl hx))
  refine ⟨hE.parts (apart_of_nodup hnd), ?_, ?_⟩
  · exact settle_rise _ (ins u w) h rfl ((hp.map Up.id).nodup_iff.mpr hnd) o.rh
  · have hs := settle_sub (f := fun c x => ins x c) _ (ins u w) h rfl
    have hr := ins_rise o.rw_ hnw
    generalize (settle (fun c x => ins x c) h (ins u w)).2 = q at hs
    generalize ins u w = p at hs hr
    clear hE hp hm
    induction hs with
    | slnil => rfl
    | cons a _ ih => exact ih (rise_cons.mp hr).2
    | cons_cons a hs ih =>
      obtain ⟨a1, a2⟩ := rise_cons.mp hr
      exact rise_cons.mpr ⟨fun v hv => a1 v (hs.mem hv), ih a2⟩
end Dg
end Go.Proofs.YtmfaodapofamfaaGreat

/- Maps of ids: those that have come, by their ids. -/
set_option maxRecDepth 100000
namespace Go.Proofs.YtmfaodapofamfaaGreat
open Go.RowKit Go.Maps

/-- An update, with the values that lie in its cells. -/
structure Uv where
  u : Wr.Up
  p : Value
  s : Value
  t : Value
abbrev uvCells (x : Uv) : List Value := [.int .i64 x.u.id.a, .int .i64 x.u.id.n, x.p, x.s, x.t]
abbrev uvVal (x : Uv) : Value := .agg #[.int .i64 x.u.id.a, .int .i64 x.u.id.n, x.p, x.s, x.t]
/-- It can be read. -/
structure UvOk (w : World) (x : Uv) : Prop where
  p : IdsV w x.p x.u.ps
  s : FactsV w x.s x.u.says
  t : IdsV w x.t x.u.ts
  f : ∀ f, f ∈ x.u.says → FFit f
  l : x.u.ps.length ≤ 9223372036854775807 ∧ x.u.says.length ≤ 9223372036854775807 ∧ x.u.ts.length ≤ 9223372036854775807
theorem UvOk.below {w w' : World} {x : Uv} (h : UvOk w x) (hb : Below w.heap.size w w') : UvOk w' x := ⟨idsV_below h.p hb, factsV_below h.s hb, idsV_below h.t hb, h.f, h.l⟩
theorem UvOk.forms {w : World} {x : Uv} (h : UvOk w x) : ∃ a1 n1 c1 a2 n2 c2 a3 n3 c3, x.p = .slice a1 n1 c1 ∧ x.s = .slice a2 n2 c2 ∧ x.t = .slice a3 n3 c3 := by
  obtain ⟨a1, c1, e1, _⟩ := h.p
  obtain ⟨a2, c2, e2, _⟩ := h.s
  obtain ⟨a3, c3, e3, _⟩ := h.t
  exact ⟨_, _, _, _, _, _, _, _, _, e1, e2, e3⟩
def ups (q : List Uv) : List Wr.Up := q.map (·.u)

def keyLit (x : Wr.Id) : Lit := .string (keyBytes [.int .i64 x.a, .int .i64 x.n])
theorem idLaid : laidOutB Tryz.prog = true := by kernel_rfl
theorem idLaw : Keyed Tryz.prog 26 := Keyed.of_law (deep_law_laid idLaid (m := 5) (by decide) (by decide) (by kernel_rfl) (by rw [Tryz.underlying26]))
theorem idKeyType : Tryz.prog.keyType 26 = true := by kernel_rfl
theorem idCellsOf : Tryz.prog.cellsOf 26 = 2 := by kernel_rfl
theorem intCells : Tryz.prog.cellsOf 3 = 1 := by kernel_rfl
theorem idDepth : Tryz.prog.types.size + 1 = 186 + 1 + 1 := by kernel_rfl
theorem wf_small {a : Int} (h : 0 ≤ a ∧ a ≤ 200) : (Lit.int .i64 a).wf = true := WalkArith.wf_i64 (by omega)
theorem isId_wf {x : Wr.Id} (h : Wr.isId x = true) : (Lit.int .i64 x.a).wf = true ∧ (Lit.int .i64 x.n).wf = true := by
  have h := of_decide_eq_true h
  exact ⟨wf_small (by omega), wf_small (by omega)⟩
theorem keyOf_id {x : Wr.Id} (h : Wr.isId x = true) : keyOf Tryz.prog 26 (idVal x) = some (keyLit x) := by
  obtain ⟨h1, h2⟩ := isId_wf h
  have e1 : ∀ d, Tryz.prog.keyLits (d + 1) 3 [.int .i64 x.a] = some [.int .i64 x.a] := fun d => by
    simp only [Program.keyLits, Tryz.underlying3, h1, and_self, if_true]
  have e2 : ∀ d, Tryz.prog.keyLits (d + 1) 3 [.int .i64 x.n] = some [.int .i64 x.n] := fun d => by
    simp only [Program.keyLits, Tryz.underlying3, h2, and_self, if_true]
  have e3 : ∀ d, Tryz.prog.keyLits (d + 1 + 1) 26 [.int .i64 x.a, .int .i64 x.n] = some [.int .i64 x.a, .int .i64 x.n] := fun d => by
    unfold Program.keyLits
    rw [Tryz.underlying26]
    dsimp only
    rw [if_pos ⟨by rw [idCellsOf]; rfl, by simp⟩]
    rw [List.mapM_cons, List.mapM_cons, List.mapM_nil]
    simp only [intCells]
    have q1 : (([.int .i64 x.a, .int .i64 x.n] : List Value).drop 0).take 1 = [.int .i64 x.a] := rfl
    have q2 : (([.int .i64 x.a, .int .i64 x.n] : List Value).drop 1).take 1 = [.int .i64 x.n] := rfl
    rw [q1, q2, e1, e2]
    rfl
  have hf : (idVal x).formed Tryz.prog 26 = true := by
    unfold idVal Value.formed
    rw [Tryz.underlying26]
    dsimp only
    rw [idCellsOf]
    rfl
  unfold keyOf
  rw [Tryz.underlying26]
  dsimp only
  rw [if_pos (by rw [idKeyType, hf]; rfl), idDepth]
  show Option.map _ (Tryz.prog.keyLits (186 + 1 + 1) 26 [.int .i64 x.a, .int .i64 x.n]) = _
  rw [e3]
  rfl
theorem keyLit_inj {x y : Wr.Id} (hx : Wr.isId x = true) (hy : Wr.isId y = true) (h : keyLit x = keyLit y) : x = y := by
  have h1 := keyOf_id hx
  have h2 := keyOf_id hy
  rw [← h] at h2
  have := idLaw.inj h1 h2
  cases x; cases y
  simp only [Value.agg.injEq, Array.mk.injEq, List.cons.injEq, Value.int.injEq, true_and, and_true] at this
  rw [this.1, this.2]
theorem keyLit_is (x : Wr.Id) : WideAt.IsKeyLit (keyLit x) := trivial

/-- How an update's value reads in a map: as itself. -/
def isI : Value → Bool
  | .int .i64 _ => true
  | _ => false
def isSl : Value → Bool
  | .slice _ _ _ => true
  | _ => false
def shape5 : List Value → Bool
  | [x0, x1, x2, x3, x4] => isI x0 && isI x1 && isSl x2 && isSl x3 && isSl x4
  | _ => false
def uvElem : Value → Option (DataW Value × List MemPlace)
  | .agg cs => if shape5 cs.toList = true then some (.held (.agg cs), []) else none
  | _ => none
theorem isI_of {v : Value} (h : isI v = true) : ∃ n, v = .int .i64 n := by
  unfold isI at h
  split at h
  · exact ⟨_, rfl⟩
  · cases h
theorem isSl_of {v : Value} (h : isSl v = true) : ∃ a n c, v = .slice a n c := by
  unfold isSl at h
  split at h
  · exact ⟨_, _, _, rfl⟩
  · cases h
theorem shape5_of {l : List Value} (h : shape5 l = true) : ∃ a n a1 n1 c1 a2 n2 c2 a3 n3 c3, l = [.int .i64 a, .int .i64 n, .slice a1 n1 c1, .slice a2 n2 c2, .slice a3 n3 c3] := by
  unfold shape5 at h
  split at h
  · simp only [Bool.and_eq_true] at h
    obtain ⟨⟨⟨⟨h0, h1⟩, h2⟩, h3⟩, h4⟩ := h
    obtain ⟨a, rfl⟩ := isI_of h0
    obtain ⟨n, rfl⟩ := isI_of h1
    obtain ⟨a1, n1, c1, rfl⟩ := isSl_of h2
    obtain ⟨a2, n2, c2, rfl⟩ := isSl_of h3
    obtain ⟨a3, n3, c3, rfl⟩ := isSl_of h4
    exact ⟨_, _, _, _, _, _, _, _, _, _, _, rfl⟩
  · cases h
theorem uvElem_mk (a n : Int) (a1 : Option Addr) (n1 c1 : Nat) (a2 : Option Addr) (n2 c2 : Nat) (a3 : Option Addr) (n3 c3 : Nat) : uvElem (.agg #[.int .i64 a, .int .i64 n, .slice a1 n1 c1, .slice a2 n2 c2, .slice a3 n3 c3]) = some (.held (.agg #[.int .i64 a, .int .i64 n, .slice a1 n1 c1, .slice a2 n2 c2, .slice a3 n3 c3]), []) := rfl
structure Five where
  a : Int
  n : Int
  a1 : Option Addr
  n1 : Nat
  c1 : Nat
  a2 : Option Addr
  n2 : Nat
  c2 : Nat
  a3 : Option Addr
  n3 : Nat
  c3 : Nat
abbrev fiveVal (x : Five) : Value := .agg #[.int .i64 x.a, .int .i64 x.n, .slice x.a1 x.n1 x.c1, .slice x.a2 x.n2 x.c2, .slice x.a3 x.n3 x.c3]
theorem uvElem_inv {v : Value} {y : DataW Value × List MemPlace} (h : uvElem v = some y) : (∃ x : Five, v = fiveVal x) ∧ y = (.held v, []) := by
  cases v with
  | agg cs =>
    unfold uvElem at h
    dsimp only at h
    by_cases hs : shape5 cs.toList = true
    · rw [if_pos hs] at h
      obtain ⟨a, n, a1, n1, c1, a2, n2, c2, a3, n3, c3, e⟩ := shape5_of hs
      have e2 : cs = #[.int .i64 a, .int .i64 n, .slice a1 n1 c1, .slice a2 n2 c2, .slice a3 n3 c3] := by
        rw [← Array.toArray_toList (xs := cs), e]
      refine ⟨⟨⟨a, n, a1, n1, c1, a2, n2, c2, a3, n3, c3⟩, by rw [e2]⟩, ?_⟩
      cases h
      rfl
    · rw [if_neg hs] at h
      cases h
  | _ => cases h
theorem uvElem_ok {w : World} {x : Uv} (h : UvOk w x) : uvElem (uvVal x) = some (.held (uvVal x), []) := by
  obtain ⟨a1, n1, c1, a2, n2, c2, a3, n3, c3, e1, e2, e3⟩ := h.forms
  unfold uvVal
  rw [e1, e2, e3]
  rfl
/-- A map's datum that holds these updates by their ids. -/
structure CmD (c : List Uv) (D : DataW Value) : Prop where
  size : Maps.size D = c.length
  has : ∀ x, Wr.isId x = true → Maps.has D (keyLit x) = Dg.hasU (ups c) x
  at_ : ∀ y, y ∈ c → ∀ z, D.atKey (keyLit y.u.id) z = .held (uvVal y)
  ok : ∀ y, y ∈ c → Wr.isId y.u.id = true
  apart : ((ups c).map Wr.Up.id).Nodup
  only : ∀ kl, Maps.has D kl = true → ∃ y, y ∈ c ∧ kl = keyLit y.u.id
def CmAt (w : World) (B : Nat) (c : List Uv) : Prop := ∃ D : DataW Value, w.ownsMap Tryz.prog 26 uvElem B c.length D ∧ CmD c D
theorem CmD.nil : CmD [] (.map []) := ⟨rfl, fun _ _ => rfl, fun _ h => absurd h (by simp), fun _ h => absurd h (by simp), by simp [ups], fun _ h => by cases h⟩
theorem CmD.push {c : List Uv} {D : DataW Value} (h : CmD c D) (hT : Tidy D) (y : Uv) (hy : Wr.isId y.u.id = true) (hn : Dg.hasU (ups c) y.u.id = false) : CmD (c ++ [y]) (D.put (keyLit y.u.id) (.held (uvVal y))) := by
  have hk := keyLit_is y.u.id
  have hne : ∀ x, Wr.isId x = true → x ≠ y.u.id → keyLit x ≠ keyLit y.u.id := fun x hx hd e => hd (keyLit_inj hx hy e)
  refine ⟨?_, fun x hx => ?_, fun x hx z => ?_, fun x hx => ?_, ?_, fun kl hkl => ?_⟩
  rotate_right
  · by_cases e : kl = keyLit y.u.id
    · exact ⟨y, by simp, e⟩
    · rw [has_put_other e] at hkl
      obtain ⟨z, hz, e2⟩ := h.only kl hkl
      exact ⟨z, by simp [hz], e2⟩
  · rw [size_put hT, h.has _ hy, hn, h.size]
    simp
  · by_cases e : x = y.u.id
    · subst e
      rw [has_put_same hT.isMap hk]
      refine (Dg.hasU_iff.mpr ⟨y.u, ?_, rfl⟩).symm
      simp [ups]
    · rw [has_put_other (hne x hx e), h.has x hx]
      unfold ups Dg.hasU
      rw [List.map_append, List.any_append]
      simp only [List.map_cons, List.map_nil, List.any_cons, List.any_nil, Bool.or_false]
      rw [decide_eq_false (fun e2 => e e2.symm), Bool.or_false]
  · by_cases e : x.u.id = y.u.id
    · have hxy : x = y := by
        rcases List.mem_append.mp hx with h1 | h1
        · exfalso
          have : Dg.hasU (ups c) y.u.id = true := Dg.hasU_iff.mpr ⟨x.u, List.mem_map.mpr ⟨x, h1, rfl⟩, e⟩
          rw [hn] at this
          cases this
        · simpa using h1
      subst hxy
      exact atKey_put_same hT.isMap hk _ _
    · have hxm : x ∈ c := by
        rcases List.mem_append.mp hx with h1 | h1
        · exact h1
        · exact absurd (by rw [List.mem_singleton.mp h1]) e
      rw [atKey_put_other (hne _ (h.ok x hxm) e), h.at_ x hxm]
  · rcases List.mem_append.mp hx with h1 | h1
    · exact h.ok x h1
    · rw [List.mem_singleton.mp h1]; exact hy
  · unfold ups
    rw [List.map_append, List.map_append, List.nodup_append]
    refine ⟨h.apart, by simp, fun a ha b hb e => ?_⟩
    obtain ⟨v, hv, rfl⟩ := List.mem_map.mp ha
    simp only [List.map_cons, List.map_nil, List.mem_singleton] at hb
    have : Dg.hasU (ups c) y.u.id = true := Dg.hasU_iff.mpr ⟨v, hv, e.trans hb⟩
    rw [hn] at this
    cases this
theorem CmAt.below {w w' : World} {B : Nat} {c : List Uv} (h : CmAt w B c) (hb : Below w.heap.size w w') : CmAt w' B c := by
  obtain ⟨D, ⟨es, clock, h1, h2, h3, h4⟩, hN⟩ := h
  exact ⟨D, ⟨es, clock, (hb.block _ (Array.getElem?_eq_some_iff.mp h1).1).trans h1, h2, h3, h4⟩, hN⟩
theorem CmAt.lt {w : World} {B : Nat} {c : List Uv} (h : CmAt w B c) : B < w.heap.size := by
  obtain ⟨D, ⟨es, clock, h1, h2, h3, h4⟩, hN⟩ := h
  exact (Array.getElem?_eq_some_iff.mp h1).1
theorem cmAt_made (w : World) : CmAt (w.alloc (.map #[] 0)) w.heap.size [] := ⟨_, World.ownsMap_made _ _ _ _, CmD.nil⟩
theorem uvZero (w : World) : (zeroValue 30).run Tryz.prog w = .ok (.agg #[.int .i64 0, .int .i64 0, .slice none 0 0, .slice none 0 0, .slice none 0 0]) w := by kernel_rfl

section
variable (w : World) {ops : Array Oper} {rest : List Oper} {o : Oper} {a : Act} {Q : Exit → Act → World → Prop}
theorem wpList_lookup_ids (hg : o.guard = none) (m x : Operand) (hop : o.op = Op.lookup 64 m x true) (b : Nat) (c : List Uv) (y : Wr.Id)
    (hm : a.eval m = .map (some b)) (hown : CmAt w b c) (hx : a.eval x = idVal y) (hy : Wr.isId y = true)
    (hK : ∀ f : Five, wpList Tryz.prog ops Q rest (a.put o.dst (.tuple #[fiveVal f, .bool (Dg.hasU (ups c) y)])) w) :
    wpList Tryz.prog ops Q (o :: rest) a w := by
  obtain ⟨D, hown, hD⟩ := hown
  refine wpList_lookup_own_ok w hg m x 64 hop 26 30 idLaw Tryz.underlying64 uvElem (uvZero w) _ _ (uvElem_mk _ _ _ _ _ _ _ _ _ _ _) b c.length D hm hown _ _ hx (keyOf_id hy) (fun v ps hv => ?_)
  obtain ⟨⟨f, rfl⟩, _⟩ := uvElem_inv hv
  rw [hD.has y hy]
  exact hK f
theorem wpList_store_ids (hg : o.guard = none) (m x v : Operand) (hop : o.op = Op.mapUpdate 64 m x v) (b : Nat) (c : List Uv) (y : Uv) (w0 : World)
    (hm : a.eval m = .map (some b)) (hown : CmAt w b c) (hl : c.length ≤ 1000000) (hx : a.eval x = idVal y.u.id) (hv : a.eval v = uvVal y) (hy : Wr.isId y.u.id = true) (hok : UvOk w0 y) (hn : Dg.hasU (ups c) y.u.id = false)
    (hK : ∀ w', CmAt w' b (c ++ [y]) → w.grownBy w' (some b) → wpList Tryz.prog ops Q rest (a.put o.dst undef) w') :
    wpList Tryz.prog ops Q (o :: rest) a w := by
  obtain ⟨D, hown, hD⟩ := hown
  refine wpList_mapUpdate_own w hg m x v 64 hop 26 30 idLaw Tryz.underlying64 uvElem b c.length D hm hown (by unfold maxLen; omega) _ _ _ hx hv (keyOf_id hy) _ _ (uvElem_ok hok) (fun w' h1 h2 => hK w' ⟨_, ?_, hD.push (hown.tidy idLaw) y hy hn⟩ h2)
  rw [List.length_append]
  exact h1
end
end Go.Proofs.YtmfaodapofamfaaGreat

/- hold and carry: are all of these ids theirs? -/
namespace Go.Proofs.YtmfaodapofamfaaGreat
open Go.RowKit Go.Maps

set_option maxRecDepth 100000 in
set_option maxHeartbeats 1000000 in
theorem hold_any (B : Nat) (c : List Uv) (l : List Wr.Id) (v : Value) (w : World) (hM : CmAt w B c) (hV : IdsV w v l) (hl : l.length ≤ 1000000) (hi : ∀ x, x ∈ l → Wr.isId x = true) :
    Calls Tryz.prog 31 #[.map (some B), v] w fun e w' => e = .returned (.bool (l.all (Dg.hasU (ups c)))) ∧ Below w.heap.size w w' := by
  obtain ⟨ao, cap, rfl, _, hA⟩ := hV
  have HA : Hid (∀ z, Below w.heap.size w z → IdsAt z ao l) := fun z hz => by
    rcases hA with h | ⟨b, off, rfl, h⟩
    · exact .inl h
    · exact .inr ⟨b, off, rfl, fun i hi => ⟨cell_below hz (h i hi).1, cell_below hz (h i hi).2⟩⟩
  have HM : Hid (∀ z, Below w.heap.size w z → CmAt z B c) := fun z hz => hM.below hz
  have HI : Hid (∀ k, k < l.length → Wr.isId (idD l k) = true) := fun k hk => hi _ (by simp [idD, hk])
  clear hA hM hi
  go_enter Tryz.func31, Tryz.ntmps31
  go_wp2_with fail
  go_loopw [11] (fun iv wr => ∃ k : Nat, k ≤ l.length ∧ iv = .int .i64 k ∧ Hid (l.all (Dg.hasU (ups c)) = (l.drop k).all (Dg.hasU (ups c))) ∧ Hid (Below w.heap.size w wr)) (fun iv _ => l.length - (intOf iv).toNat)
  case atStart => exact ⟨0, Nat.zero_le _, rfl, rfl, Below.refl _ _⟩
  case round =>
    obtain ⟨k, hk, rfl, HR, HG⟩ := hrel
    by_cases hlt : k < l.length
    · obtain ⟨b, off, rfl, c0, c1⟩ := ids_at (HA.out wr HG.out) k hlt
      have hid := HI.out k hlt
      have HD : Hid (l.all (Dg.hasU (ups c)) = (Dg.hasU (ups c) (idD l k) && (l.drop (k + 1)).all (Dg.hasU (ups c)))) := by
        show _ = _
        rw [HR.out, idD_drop l k hlt, List.all_cons]
      generalize idD l k = x at *
      obtain ⟨xa, xn⟩ := x
      have HM2 : Hid (CmAt (wr.alloc (.cells #[.int .i64 xa, .int .i64 xn] 26)) B c) := HM.out _ (HG.out.alloc HG.out.size _)
      have HB2 : Hid (∀ f : Five, Below w.heap.size w ((wr.alloc (.cells #[.int .i64 xa, .int .i64 xn] 26)).alloc (.cells #[.int .i64 f.a, .int .i64 f.n, .slice f.a1 f.n1 f.c1, .slice f.a2 f.n2 f.c2, .slice f.a3 f.n3 f.c3] 30))) := fun f => (HG.out.alloc HG.out.size _).alloc (by have := HG.out.size; simp; omega) _
      clear HR
      cases hx : Dg.hasU (ups c) ⟨xa, xn⟩
      · go_wp2_with (at_lookup; refine wpList_lookup_ids _ rfl _ _ rfl B c ⟨xa, xn⟩ rfl HM2.out rfl hid ?_; intro f; rw [hx])
        go_ret
        exact ⟨by rw [HD.out, hx]; rfl, HB2.out f⟩
      · go_wp2_with (at_lookup; refine wpList_lookup_ids _ rfl _ _ rfl B c ⟨xa, xn⟩ rfl HM2.out rfl hid ?_; intro f; rw [hx])
        go_roundw
        case rel => exact ⟨k + 1, hlt, by go_num, HD.out.trans (by rw [hx, Bool.true_and]), HB2.out f⟩
        case measure => simp [intOf]; omega
    · have hdd : decide (k < l.length) = false := decide_eq_false hlt
      have HE : Hid (l.all (Dg.hasU (ups c)) = true) := by
        show _ = _
        rw [HR.out, List.drop_of_length_le (by omega)]
        rfl
      go_wp2_with fail
      go_ret
      exact ⟨by rw [HE.out]; rfl, HG.out⟩
theorem carry_and (l : List Wr.Up) (u : Wr.Up) : Dg.carry l u = (u.ps.all (Dg.hasU l) && u.ts.all (Dg.hasU l)) := by
  unfold Dg.carry Dg.under
  rw [List.all_append]
set_option maxRecDepth 100000 in
set_option maxHeartbeats 1000000 in
theorem carry_any (B : Nat) (c : List Uv) (x : Uv) (w : World) (hM : CmAt w B c) (hx : UvOk w x) (hl : x.u.ps.length ≤ 1000000 ∧ x.u.ts.length ≤ 1000000) (hp : ∀ y, y ∈ x.u.ps → Wr.isId y = true) (ht : ∀ y, y ∈ x.u.ts → Wr.isId y = true) :
    Calls Tryz.prog 73 #[.map (some B), uvVal x] w fun e w' => e = .returned (.bool (Dg.carry (ups c) x.u)) ∧ Below w.heap.size w w' := by
  have HC := carry_and (ups c) x.u
  have HP : Hid (∀ z, Below w.heap.size w z → Calls Tryz.prog 31 #[.map (some B), x.p] z fun e w' => e = .returned (.bool (x.u.ps.all (Dg.hasU (ups c)))) ∧ Below z.heap.size z w') := fun z hz => hold_any B c x.u.ps x.p z (hM.below hz) (idsV_below hx.p hz) hl.1 hp
  have HT : Hid (∀ z, Below w.heap.size w z → Calls Tryz.prog 31 #[.map (some B), x.t] z fun e w' => e = .returned (.bool (x.u.ts.all (Dg.hasU (ups c)))) ∧ Below z.heap.size z w') := fun z hz => hold_any B c x.u.ts x.t z (hM.below hz) (idsV_below hx.t hz) hl.2 ht
  obtain ⟨a1, n1, c1, a2, n2, c2, a3, n3, c3, e1, e2, e3⟩ := hx.forms
  obtain ⟨⟨⟨ua, un⟩, ps, says, ts⟩, vp, vs, vt⟩ := x
  dsimp only at *
  subst e1 e2 e3
  clear hx hM hl hp ht
  generalize ps.all (Dg.hasU (ups c)) = b1 at *
  generalize ts.all (Dg.hasU (ups c)) = b2 at *
  have HB : Hid (Below w.heap.size w (w.alloc (.cells #[.int .i64 ua, .int .i64 un, .slice a1 n1 c1, .slice a2 n2 c2, .slice a3 n3 c3] 30))) := (Below.refl _ _).alloc (Nat.le_refl _) _
  have HH : Hid ((w.alloc (.cells #[.int .i64 ua, .int .i64 un, .slice a1 n1 c1, .slice a2 n2 c2, .slice a3 n3 c3] 30)).heap[w.heap.size]? = _) := heap_alloc_new w (.cells #[.int .i64 ua, .int .i64 un, .slice a1 n1 c1, .slice a2 n2 c2, .slice a3 n3 c3] 30)
  go_enter Tryz.func73, Tryz.ntmps73
  go_upto_region 1 with fail
  generalize w.alloc (.cells #[.int .i64 ua, .int .i64 un, .slice a1 n1 c1, .slice a2 n2 c2, .slice a3 n3 c3] 30) = w2 at *
  have d2 : w2.cell? ⟨w.heap.size, 2, none⟩ = some (.slice a1 n1 c1) := by rw [Lib.cell_of_heap HH.out]; rfl
  have HD : Hid (∀ z, Below w2.heap.size w2 z → z.cell? ⟨w.heap.size, 4, none⟩ = some (.slice a3 n3 c3)) := fun z hz => cell_below hz (by rw [Lib.cell_of_heap HH.out]; rfl)
  have d4 := HD.out w2 (Below.refl _ _)
  cases b1
  · go_wp2_with (go_at_call 31; refine Calls.mono (HP.out _ HB.out) ?_; rintro e z1 ⟨rfl, hg1⟩)
    go_ret
    exact ⟨by rw [HC]; rfl, HB.out.trans (hg1.mono HB.out.size)⟩
  · go_wp2_with (first
      | (go_at_call 31; (with_reducible refine Calls.mono (HP.out _ HB.out) ?_); rintro e z1 ⟨rfl, hg1⟩; have d4 := HD.out z1 hg1; have HB1 : Hid (Below w.heap.size w z1) := HB.out.trans (hg1.mono HB.out.size))
      | (go_at_call 31; (with_reducible refine Calls.mono (HT.out _ HB1.out) ?_); rintro e z2 ⟨rfl, hg2⟩))
    go_ret
    exact ⟨by rw [HC]; rfl, HB1.out.trans (hg2.mono HB1.out.size)⟩
end Go.Proofs.YtmfaodapofamfaaGreat

