/- Own texts, one behind the other (part 6). -/
import Derived.Test.YtmfaodapofamfaaGreatBundleE
import Derived.Test.YtmfaodapofamfaaGreatRows
import Derived.Lib.BufferMore
/- Package dag: unnamed. -/
namespace Go.Proofs.YtmfaodapofamfaaGreat
open Go.RowKit Go.Maps

theorem flatMap_take {α β : Type} (f : α → List β) (q : List α) (k : Nat) (x : α) (h : q.take (k + 1) = q.take k ++ [x]) : (q.take (k + 1)).flatMap f = (q.take k).flatMap f ++ f x := by
  rw [h, List.flatMap_append]
  simp
theorem ids_take {l : List Wr.Id} {k : Nat} (hk : k < l.length) : l.take (k + 1) = l.take k ++ [idD l k] := by
  rw [List.take_succ_eq_append_getElem hk]
  simp [idD, List.getD_eq_getElem?_getD, hk]
theorem flat_len {q : List Uv} {f : Uv → List Wr.Id} (h : ∀ x, x ∈ q → (f x).length ≤ 6) : ∀ k, ((q.take k).flatMap f).length ≤ k * 6 := by
  intro k
  induction k with
  | zero => simp
  | succ k ih =>
    by_cases hk : k < q.length
    · rw [flatMap_take f q k _ (uvD_take q k hk), List.length_append]
      have := h _ (uvD_mem q k hk)
      omega
    · have e : q.take (k + 1) = q.take k := by rw [List.take_of_length_le (by omega), List.take_of_length_le (by omega)]
      rw [e]
      omega

set_option maxRecDepth 100000 in
set_option maxHeartbeats 1000000 in
theorem namesP_any (x : Uv) (w w0 : World) (hx : UvOk w0 x) : Calls Tryz.prog 37 #[uvVal x] w fun e w' => e = .returned x.p ∧ Below w.heap.size w w' := by
  obtain ⟨a1, n1, d1, a2, n2, d2, a3, n3, d3, e1, e2, e3⟩ := hx.forms
  obtain ⟨⟨⟨ua, un⟩, ps, says, ts⟩, vp, vs, vt⟩ := x
  dsimp only at *
  subst e1 e2 e3
  have HB1 : Hid (Below w.heap.size w (w.alloc (.cells #[.int .i64 ua, .int .i64 un, .slice a1 n1 d1, .slice a2 n2 d2, .slice a3 n3 d3] 30))) := (Below.refl _ _).alloc (Nat.le_refl _) _
  clear hx
  go_enter Tryz.func37, Tryz.ntmps37
  go_wp2_with fail
  go_ret
  exact ⟨rfl, HB1.out⟩
set_option maxRecDepth 100000 in
set_option maxHeartbeats 4000000 in
theorem unnamedP_any (q : List Uv) (v : Value) (w : World) (hV : UpsV w v q) (hl : q.length ≤ 1000) (hok : ∀ x, x ∈ q → UvOk w x) (hid : ∀ x, x ∈ q → IdsOk x.u) :
    Calls Tryz.prog 36 #[v, .func (.func 37) #[] #[]] w fun e w' => ∃ v', e = .returned v' ∧ URow w' w.heap.size v' (keepU (fun u => decide (0 < (q.flatMap (fun x => x.u.ps)).count u.id)) q) ∧ Below w.heap.size w w' := by
  have HO : Hid (∀ x, x ∈ q → UvOk w x ∧ IdsOk x.u) := fun x hx => ⟨hok x hx, hid x hx⟩
  have HV : Hid (UpsV w v q) := hV
  have HLF : Hid (∀ k, ((q.take k).flatMap (fun x => x.u.ps)).length ≤ k * 6) := flat_len (fun x hx => (hid x hx).lp)
  obtain ⟨ao, cap, rfl, _, hA⟩ := hV
  have HA : Hid (UpsAt w ao q) := hA
  clear hok hid hA
  have hmm := @run_makeMap Tryz.prog
  have hbm : Below w.heap.size w ((w.alloc (.map #[] 0)).alloc (.cells #[.map (some w.heap.size)] 111)) := ((Below.refl _ _).alloc (Nat.le_refl _) _).alloc (by simp) _
  have hs2 : ((w.alloc (.map #[] 0)).alloc (.cells #[.map (some w.heap.size)] 111)).heap.size = w.heap.size + 2 := by simp
  have hx2 : ((w.alloc (.map #[] 0)).alloc (.cells #[.map (some w.heap.size)] 111)).heap[w.heap.size + 1]? = some (.cells #[.map (some w.heap.size)] 111) := by
    have := rl_new (w.alloc (.map #[] 0)) (.cells #[.map (some w.heap.size)] 111)
    rw [World.size_alloc] at this
    exact this
  have hn2 : NmAt ((w.alloc (.map #[] 0)).alloc (.cells #[.map (some w.heap.size)] 111)) w.heap.size [] := (nmAt_made w).below ((Below.refl _ _).alloc (Nat.le_refl _) _)
  go_enter Tryz.func36, Tryz.ntmps36
  go_upto_region 2 with fail
  generalize (w.alloc (.map #[] 0)).alloc (.cells #[.map (some w.heap.size)] 111) = w2 at *
  go_wp2_with fail
  clear hmm
  go_loopw [13] (fun iv wr => ∃ k : Nat, k ≤ q.length ∧ iv = .int .i64 k ∧ Hid (NmAt wr w.heap.size ((q.take k).flatMap (fun x => x.u.ps))) ∧ Hid (wr.heap[w.heap.size + 1]? = some (.cells #[.map (some w.heap.size)] 111)) ∧ Below w.heap.size w wr) (fun iv _ => q.length - (intOf iv).toNat)
  case atStart => exact ⟨0, Nat.zero_le _, rfl, hn2, hx2, hbm⟩
  case round =>
    clear hn2 hx2 hbm hs2
    obtain ⟨k, hk, rfl, HN, HX, hbw⟩ := hrel
    by_cases hlt : k < q.length
    · obtain ⟨b, off, rfl, c0, c1, c2, c3, c4⟩ := ups_at (HA.out.kc (Kc.below hbw)) k hlt
      have hmem := uvD_mem q k hlt
      have hxo := HO.out _ hmem
      have HFT : Hid ((q.take (k + 1)).flatMap (fun x => x.u.ps) = (q.take k).flatMap (fun x => x.u.ps) ++ (uvD q k).u.ps) := flatMap_take (fun x : Uv => x.u.ps) q k _ (uvD_take q k hlt)
      have hlen := HLF.out k
      generalize (q.take k).flatMap (fun x => x.u.ps) = L0 at *
      have HNM : Hid (∀ z, Calls Tryz.prog 37 #[uvVal (uvD q k)] z fun e w' => e = .returned (uvD q k).p ∧ Below z.heap.size z w') := fun z => namesP_any _ z w hxo.1
      have HIV : Hid (IdsV w (uvD q k).p (uvD q k).u.ps) := hxo.1.p
      have HII : Hid (∀ y, y ∈ (uvD q k).u.ps → Wr.isId y = true) := hxo.2.ps
      have hl6 : (uvD q k).u.ps.length ≤ 6 := hxo.2.lp
      obtain ⟨a1, n1, d1, a2, n2, d2, a3, n3, d3, e1, e2, e3⟩ := hxo.1.forms
      obtain ⟨ia, ic, hie, _, _⟩ := hxo.1.p
      clear hxo hmem
      generalize uvD q k = x at *
      obtain ⟨⟨⟨ua, un⟩, ps, says, ts⟩, vp, vs, vt⟩ := x
      dsimp only at *
      subst e1 e2 e3
      injection hie with hie1 hie2 hie3
      subst hie1 hie2 hie3
      have HB1 : Hid (Below wr.heap.size wr (wr.alloc (.cells #[.int .i64 ua, .int .i64 un, .slice a1 ps.length d1, .slice a2 n2 d2, .slice a3 n3 d3] 30))) := (Below.refl _ _).alloc (Nat.le_refl _) _
      go_upto_region 6 with (go_at_call 37; refine Calls.mono (HNM.out _) ?_; rintro e w3 ⟨rfl, hb3⟩)
      have hb13 := HB1.out.trans (hb3.mono HB1.out.size)
      have hbw3 := hbw.trans (hb13.mono hbw.size)
      have HN3 : Hid (NmAt w3 w.heap.size L0) := HN.out.below hb13
      have HX3 : Hid (w3.heap[w.heap.size + 1]? = some (.cells #[.map (some w.heap.size)] 111)) := (hb13.block _ (Array.getElem?_eq_some_iff.1 HX.out).1).trans HX.out
      clear HN HX c0 c1 c2 c3 c4 HB1 hb3 hb13 hbw HNM
      go_loopw [21] (fun iv wr => ∃ m : Nat, m ≤ ps.length ∧ iv = .int .i64 m ∧ Hid (NmAt wr w.heap.size (L0 ++ ps.take m)) ∧ Hid (wr.heap[w.heap.size + 1]? = some (.cells #[.map (some w.heap.size)] 111)) ∧ Below w.heap.size w wr) (fun iv _ => ps.length - (intOf iv).toNat)
      case atStart => exact ⟨0, Nat.zero_le _, rfl, by rw [List.take_zero, List.append_nil]; exact HN3.out, HX3.out, hbw3⟩
      case round =>
        clear HN3 HX3 hbw3
        obtain ⟨m, hm, rfl, HN, HX, hbw⟩ := hrel
        by_cases hmt : m < ps.length
        · obtain ⟨_, _, e9, _, hA9⟩ := idsV_below HIV.out hbw
          cases e9
          obtain ⟨b9, off9, rfl, c0, c1⟩ := ids_at hA9 m hmt
          have hyi := HII.out (idD ps m) (by simp [idD, hmt])
          have HTM : Hid (L0 ++ ps.take (m + 1) = (L0 ++ ps.take m) ++ [idD ps m]) := by
            show _ = _
            rw [ids_take hmt, List.append_assoc]
          have hlm : (L0 ++ ps.take m).length ≤ 1000000 := by rw [List.length_append, List.length_take]; omega
          generalize L0 ++ ps.take m = L1 at *
          generalize idD ps m = y at *
          obtain ⟨ya, yn⟩ := y
          dsimp only at c0 c1
          have hbA : Below wr.heap.size wr (wr.alloc (.cells #[.int .i64 ya, .int .i64 yn] 26)) := (Below.refl _ _).alloc (Nat.le_refl _) _
          have hsw := hbw.size
          have HBA : Hid (Below w.heap.size w (wr.alloc (.cells #[.int .i64 ya, .int .i64 yn] 26))) := hbw.alloc hsw _
          have HNA : Hid (NmAt (wr.alloc (.cells #[.int .i64 ya, .int .i64 yn] 26)) w.heap.size L1) := HN.out.below hbA
          have HXA : Hid ((wr.alloc (.cells #[.int .i64 ya, .int .i64 yn] 26)).heap[w.heap.size + 1]? = some (.cells #[.map (some w.heap.size)] 111)) := (hbA.block _ (Array.getElem?_eq_some_iff.1 HX.out).1).trans HX.out
          have HYA : Hid ((wr.alloc (.cells #[.int .i64 ya, .int .i64 yn] 26)).heap[wr.heap.size]? = some (.cells #[.int .i64 ya, .int .i64 yn] 26)) := rl_new wr _
          go_upto_region 8 with fail
          generalize wr.heap.size = yb at *
          generalize wr.alloc (.cells #[.int .i64 ya, .int .i64 yn] 26) = w4 at *
          clear c0 c1 HN HX hbw hbA hsw
          have hnd : NmAt w4.drew w.heap.size L1 := HNA.out.below ⟨rfl, rfl, rfl, Nat.le_refl _, fun _ _ => rfl⟩
          have hlk := hnd.look hyi
          obtain ⟨v0, st, w5, w6, hen, hlk2, hst, hn6, hg6⟩ := hnd.inc hlm hyi
          have d0 : w4.drew.cell? ⟨w.heap.size + 1, 0, none⟩ = some (.map (some w.heap.size)) := by show w4.cell? _ = _; rw [Lib.cell_of_heap HXA.out]; rfl
          have d1' : w4.drew.cell? ⟨yb, 0, none⟩ = some (.int .i64 ya) := by show w4.cell? _ = _; rw [Lib.cell_of_heap HYA.out]; rfl
          have d2' : w4.drew.cell? ⟨yb, 1, none⟩ = some (.int .i64 yn) := by show w4.cell? _ = _; rw [Lib.cell_of_heap HYA.out]; rfl
          have HN6 : Hid (NmAt w6 w.heap.size (L1 ++ [⟨ya, yn⟩])) := hn6
          have HG6 : Hid (Below w.heap.size w w6) := HBA.out.grown ⟨hg6.os, hg6.tape, hg6.output, hg6.size, hg6.block⟩ HBA.out.size (fun j e => by cases e; exact Nat.le_refl _)
          have HX6 : Hid (w6.heap[w.heap.size + 1]? = some (.cells #[.map (some w.heap.size)] 111)) := (hg6.block _ (Array.getElem?_eq_some_iff.1 HXA.out).1 (fun e => by injection e; omega)).trans HXA.out
          have hcw : IntKind.i64.wrap ((L1.count ⟨ya, yn⟩ : Int) + 1) = (L1.count ⟨ya, yn⟩ : Int) + 1 := by
            have : L1.count ⟨ya, yn⟩ ≤ L1.length := List.count_le_length
            simp [IntKind.wrap, IntKind.bits, IntKind.signed]
            omega
          clear hnd hn6 hg6 HNA HBA HXA HYA
          generalize (L1.count ⟨ya, yn⟩ : Int) = cc at *
          go_region
          all_goals (
            go_wp2_with fail
            go_roundw
            case rel => exact ⟨m + 1, hmt, by go_num, by rw [HTM.out]; exact HN6.out, HX6.out, HG6.out⟩
            case measure => simp [intOf]; omega)
        · have hdd : decide (m < ps.length) = false := decide_eq_false hmt
          obtain rfl : m = ps.length := by omega
          have HNE : Hid (NmAt wr w.heap.size ((q.take (k + 1)).flatMap (fun x => x.u.ps))) := by
            have h9 := HN.out
            rw [List.take_length, ← HFT.out] at h9
            exact h9
          clear HN
          go_wp2_with fail
          go_roundw
          case rel => exact ⟨k + 1, hlt, by go_num, HNE.out, HX.out, hbw⟩
          case measure => simp [intOf]; omega
    · have hdd : decide (k < q.length) = false := decide_eq_false hlt
      obtain rfl : k = q.length := by omega
      have hne := HN.out
      rw [List.take_length] at hne
      have HNE : Hid (NmAt wr w.heap.size (q.flatMap (fun x => x.u.ps))) := hne
      have HCL : Hid (Calls Tryz.prog 80 #[.slice ao q.length cap] wr fun e w' => ∃ v', e = .returned v' ∧ URow w' wr.heap.size v' q ∧ Below wr.heap.size wr w') := cloneUps_any q _ wr (HV.out.kc (Kc.below hbw)) (fun x hx => (HO.out x hx).1.below hbw) hl
      have HBW : Hid (Below w.heap.size w wr) := hbw
      clear hne HN hbw
      go_wp2_with fail
      refine Calls.mono HCL.out ?_
      rintro e w7 ⟨v7, rfl, hr7, hb7⟩
      have HDD : Hid (Calls Tryz.prog 79 #[v7, .func (.func 81) #[] #[.pointer (some ⟨w.heap.size + 1, 0, none⟩)]] w7 fun e w' => ∃ v', e = .returned v' ∧ URow w' wr.heap.size v' (keepU (fun u => decide (0 < (q.flatMap (fun x => x.u.ps)).count u.id)) q) ∧ Below wr.heap.size wr w') :=
        delete_any (w.heap.size + 1) _ q v7 wr w7 hb7 hr7 hl (fun x hx => (HO.out x hx).1.below HBW.out) (fun z x hz hx => named1_any w.heap.size (w.heap.size + 1) _ x z w (HNE.out.below hz) (by rw [Lib.cell_of_heap ((hz.block _ (Array.getElem?_eq_some_iff.1 HX.out).1).trans HX.out)]; rfl) (HO.out x hx).1 (HO.out x hx).2.id)
      obtain ⟨a7, c7, rfl⟩ := own_slice hr7
      clear hr7 hb7 HCL
      go_wp2_with fail
      refine Calls.mono HDD.out ?_
      rintro e w8 ⟨v8, rfl, hr8, hb8⟩
      obtain ⟨qk, HKK⟩ : ∃ qk, Hid (keepU (fun u => decide (0 < (q.flatMap (fun x => x.u.ps)).count u.id)) q = qk) := ⟨_, rfl⟩
      rw [HKK.out] at hr8
      obtain ⟨a8, c8, rfl⟩ := own_slice hr8
      have HR8 : Hid (URow w8 w.heap.size (.slice a8 qk.length c8) qk) := rl_own_le (base' := w.heap.size) hr8 HBW.out.size
      have HB8 : Hid (Below w.heap.size w w8) := HBW.out.trans (hb8.mono HBW.out.size)
      clear hr8 hb8 HDD
      go_wp2_with fail
      go_ret
      exact ⟨_, rfl, by rw [HKK.out]; exact HR8.out, HB8.out⟩

end Go.Proofs.YtmfaodapofamfaaGreat

/- Package dag: Heads and Facts. -/
namespace Go.Proofs.YtmfaodapofamfaaGreat
open Go.RowKit Go.Maps

namespace Dg
/-- Is it named by one of them? -/
def named (f : Wr.Up → List Wr.Id) (h : List Wr.Up) (u : Wr.Up) : Bool := h.any fun v => Wr.has (f v) u.id
def free (f : Wr.Up → List Wr.Id) (h : List Wr.Up) : List Wr.Up := h.filter fun u => !named f h u
def heads (h : List Wr.Up) : List Wr.Id := (free Wr.Up.ps h).map Wr.Up.id
/-- Something, if nothing is wrong. -/
def ifOk {α : Type} (e : Int) (l : List α) : List α := if e = 0 then l else []
theorem ifOk_ok {α : Type} {e : Int} (h : e = 0) (l : List α) : ifOk e l = l := if_pos h
theorem ifOk_no {α : Type} {e : Int} (h : ¬ e = 0) (l : List α) : ifOk e l = [] := if_neg h
end Dg
theorem named_count (f : Wr.Up → List Wr.Id) (q : List Uv) (u : Wr.Up) : decide (0 < (q.flatMap (fun x => f x.u)).count u.id) = Dg.named f (ups q) u := by
  have h : (0 < (q.flatMap (fun x => f x.u)).count u.id) ↔ Dg.named f (ups q) u = true := by
    rw [List.count_pos_iff]
    unfold Dg.named ups
    rw [List.mem_flatMap, List.any_map, List.any_eq_true]
    constructor
    · rintro ⟨x, hx, h⟩
      exact ⟨x, hx, by unfold Wr.has; simpa using h⟩
    · rintro ⟨x, hx, h⟩
      exact ⟨x, hx, by unfold Wr.has at h; simpa using h⟩
  cases hb : Dg.named f (ups q) u with
  | true => exact decide_eq_true (h.mpr hb)
  | false => exact decide_eq_false (fun e => by rw [h.mp e] at hb; cases hb)
theorem ups_keep (P : Wr.Up → Bool) (q : List Uv) : ups (keepU P q) = (ups q).filter (fun u => !P u) := by
  unfold ups keepU
  rw [List.filter_map]
  rfl
theorem ups_free (f : Wr.Up → List Wr.Id) (q : List Uv) : ups (keepU (fun u => decide (0 < (q.flatMap (fun x => f x.u)).count u.id)) q) = Dg.free f (ups q) := by
  rw [ups_keep]
  unfold Dg.free
  congr 1
  funext u
  rw [named_count f q u]
theorem keepU_mem {P : Wr.Up → Bool} {q : List Uv} {x : Uv} (h : x ∈ keepU P q) : x ∈ q := (List.mem_filter.mp h).1

set_option maxRecDepth 100000 in
set_option maxHeartbeats 4000000 in
theorem Heads_any (hq wq : List Uv) (hv wv : Value) (w : World) (hV : UpsV w hv hq) (wV : UpsV w wv wq) (hl : hq.length ≤ 4611686018427387903 ∧ wq.length ≤ 4611686018427387903) (hok : ∀ x, x ∈ hq ++ wq → UvOk w x) :
    Calls Tryz.prog 7 #[repVal hv wv] w fun e w' => ∃ v', e = .returned (.tuple #[v', .int .i64 (Dg.check (ups hq) (ups wq))]) ∧ IdsV w' v' (Dg.ifOk (Dg.check (ups hq) (ups wq)) (Dg.heads (ups hq))) ∧ Below w.heap.size w w' := by
  obtain ⟨i0, hi, hz0, hz1, hz2⟩ := info_parts id_info
  have HO : Hid (∀ x, x ∈ hq ++ wq → UvOk w x) := hok
  have HHV : Hid (UpsV w hv hq) := hV
  have HCK0 : Hid (∀ z, Below w.heap.size w z → Calls Tryz.prog 15 #[repVal hv wv] z fun e w' => e = .returned (.int .i64 (Dg.check (ups hq) (ups wq))) ∧ Below z.heap.size z w') := fun z hz => DCheck_any hq wq _ _ z (hV.kc (Kc.below hz)) (wV.kc (Kc.below hz)) hl (fun x hx => (hok x hx).below hz)
  obtain ⟨ah, ch, rfl, _, _⟩ := hV
  obtain ⟨aw, cw, rfl, _, _⟩ := wV
  clear hok
  have HB1 : Hid (Below w.heap.size w (w.alloc (.cells #[.slice ah hq.length ch, .slice aw wq.length cw] 24))) := (Below.refl _ _).alloc (Nat.le_refl _) _
  have HH1 : Hid ((w.alloc (.cells #[.slice ah hq.length ch, .slice aw wq.length cw] 24)).heap[w.heap.size]? = some (.cells #[.slice ah hq.length ch, .slice aw wq.length cw] 24)) := rl_new w _
  go_enter Tryz.func7, Tryz.ntmps7
  go_upto_region 1 with fail
  generalize w.alloc (.cells #[.slice ah hq.length ch, .slice aw wq.length cw] 24) = w1 at *
  have HF : Hid (∀ z, Below w1.heap.size w1 z → z.cell? ⟨w.heap.size, 0, none⟩ = some (.slice ah hq.length ch) ∧ z.cell? ⟨w.heap.size, 1, none⟩ = some (.slice aw wq.length cw)) := fun z hz => by
    have hh1 := (hz.block _ (Array.getElem?_eq_some_iff.1 HH1.out).1).trans HH1.out
    exact ⟨by rw [Lib.cell_of_heap hh1]; rfl, by rw [Lib.cell_of_heap hh1]; rfl⟩
  obtain ⟨c0, c1⟩ := HF.out w1 (Below.refl _ _)
  go_upto_region 2 with (go_at_call 15; refine Calls.mono (HCK0.out _ HB1.out) ?_; rintro e w2 ⟨rfl, hb2⟩)
  have HG2 : Hid (Below w.heap.size w w2) := HB1.out.trans (hb2.mono HB1.out.size)
  clear c0 c1 HCK0
  obtain ⟨c0, c1⟩ := HF.out w2 hb2
  clear hb2
  by_cases hck : Dg.check (ups hq) (ups wq) = 0
  rotate_left
  · have hne : (Dg.check (ups hq) (ups wq) != 0) = true := by simpa using hck
    go_wp2_with fail
    go_ret2
    exact ⟨_, rfl, by rw [Dg.ifOk_no hck]; exact ⟨none, 0, rfl, ⟨Nat.le_refl _, fun _ => rfl⟩, .inl rfl⟩, HG2.out⟩
  have HCK : Hid (Dg.check (ups hq) (ups wq) = 0) := hck
  have HOKR : Hid (Dg.Ok (ups hq) (ups wq)) := Dg.check_ok.mp hck
  rw [hck]
  clear hck
  have hfew : hq.length ≤ 200 := by have := HOKR.out.few; rw [ups_length, ups_length] at this; omega
  have HID : Hid (∀ x, x ∈ hq → UvOk w x ∧ Wr.check x.u = 0) := fun x hx => ⟨HO.out x (List.mem_append_left _ hx), HOKR.out.each x.u (List.mem_append_left _ (List.mem_map.mpr ⟨x, hx, rfl⟩))⟩
  have HUN : Hid (Calls Tryz.prog 36 #[.slice ah hq.length ch, .func (.func 37) #[] #[]] w2 fun e w' => ∃ v', e = .returned v' ∧ URow w' w2.heap.size v' (keepU (fun u => decide (0 < (hq.flatMap (fun x => x.u.ps)).count u.id)) hq) ∧ Below w2.heap.size w2 w') := unnamedP_any hq _ w2 (HHV.out.kc (Kc.below HG2.out)) (by omega) (fun x hx => (HID.out x hx).1.below HG2.out) (fun x hx => idsOk_of (HID.out x hx).2)
  have HUF : Hid (ups (keepU (fun u => decide (0 < (hq.flatMap (fun x => x.u.ps)).count u.id)) hq) = Dg.free Wr.Up.ps (ups hq)) := ups_free Wr.Up.ps hq
  have HKM : Hid (∀ x, x ∈ keepU (fun u => decide (0 < (hq.flatMap (fun x => x.u.ps)).count u.id)) hq → x ∈ hq) := fun x hx => keepU_mem hx
  have HKL : Hid ((keepU (fun u => decide (0 < (hq.flatMap (fun x => x.u.ps)).count u.id)) hq).length ≤ 200) := Nat.le_trans (keepU_len _ _) hfew
  generalize keepU (fun u => decide (0 < (hq.flatMap (fun x => x.u.ps)).count u.id)) hq = q at *
  go_upto_region 6 with (go_at_call 36; refine Calls.mono HUN.out ?_; rintro e w3 ⟨v3, rfl, hr3, hb3⟩; obtain ⟨a3, k3, rfl⟩ := own_slice hr3)
  have HR3 : Hid (UpsV w3 (.slice a3 q.length k3) q) := own_ups hr3
  have HG3 : Hid (Below w.heap.size w w3) := HG2.out.trans (hb3.mono HG2.out.size)
  have hql : q.length ≤ 200 := HKL.out
  clear hr3 hb3 HUN c0 c1
  go_loopw [5, 17] (fun vs iv wr => ∃ k : Nat, k ≤ q.length ∧ iv = .int .i64 k ∧ wr.ownsRow w3.heap.size 26 2 vs k (((ups (q.take k)).map Wr.Up.id).map idCells).flatten ∧ Below w3.heap.size w3 wr) (fun _ iv _ => q.length - (intOf iv).toNat)
  case atStart => exact ⟨0, Nat.zero_le _, rfl, World.ownsRow_nil _ _ _ _, Below.refl _ _⟩
  case round =>
    obtain ⟨k, hk, rfl, ho, hbw⟩ := hrel
    obtain ⟨av, cv, rfl⟩ := own_slice ho
    have hsz := hbw.size
    by_cases hlt : k < q.length
    · obtain ⟨_, _, e9, _, hA9⟩ := HR3.out.kc (Kc.below hbw)
      cases e9
      obtain ⟨b, off, rfl, c0, c1, c2, c3, c4⟩ := ups_at hA9 k hlt
      have hx := (HID.out _ (HKM.out _ (uvD_mem q k hlt))).1
      have HTK : Hid ((((ups (q.take (k + 1))).map Wr.Up.id).map idCells).flatten = (((ups (q.take k)).map Wr.Up.id).map idCells).flatten ++ idCells (uvD q k).u.id) := by
        show _ = _
        rw [uvD_take q k hlt, ups_append, List.map_append, List.map_append, List.flatten_append]
        simp [ups]
      obtain ⟨a1, n1, d1, a2, n2, d2, a4, n4, d4, e1, e2, e3⟩ := hx.forms
      generalize uvD q k = x at *
      obtain ⟨⟨⟨ua, un⟩, ps, says, ts⟩, vp, vs, vt⟩ := x
      dsimp only at *
      subst e1 e2 e3
      generalize (((ups (q.take k)).map Wr.Up.id).map idCells).flatten = X0 at *
      clear hA9 hx
      have HBN : Hid (Below w3.heap.size w3 (wr.alloc (.cells #[.int .i64 ua, .int .i64 un, .slice a1 n1 d1, .slice a2 n2 d2, .slice a4 n4 d4] 30))) := hbw.alloc hsz _
      have ho2 := ho.alloc (.cells #[.int .i64 ua, .int .i64 un, .slice a1 n1 d1, .slice a2 n2 d2, .slice a4 n4 d4] 30)
      clear ho
      go_upto_region 8 with fail
      have HCX : Hid ((wr.alloc (.cells #[.int .i64 ua, .int .i64 un, .slice a1 n1 d1, .slice a2 n2 d2, .slice a4 n4 d4] 30)).heap[wr.heap.size]? = some (.cells #[.int .i64 ua, .int .i64 un, .slice a1 n1 d1, .slice a2 n2 d2, .slice a4 n4 d4] 30)) := rl_new wr _
      generalize wr.alloc (.cells #[.int .i64 ua, .int .i64 un, .slice a1 n1 d1, .slice a2 n2 d2, .slice a4 n4 d4] 30) = w5 at *
      have x0 : w5.cell? ⟨wr.heap.size, 0, none⟩ = some (.int .i64 ua) := by rw [Lib.cell_of_heap HCX.out]; rfl
      have x1 : w5.cell? ⟨wr.heap.size, 1, none⟩ = some (.int .i64 un) := by rw [Lib.cell_of_heap HCX.out]; rfl
      have hs5 := HBN.out.size
      clear c0 c1 c2 c3 c4
      go_wp2_with (at_builtin; refine wpList_append_own _ rfl _ _ 27 rfl w3.heap.size 26 i0 _ 2 16 Tryz.underlying27 hi hz0 hz1 hz2 rfl (by decide) _ _ _ rfl (ho2.alloc _) ⟨w5.heap.size, 0, none⟩ 1 1 (idCells ⟨ua, un⟩) rfl rfl (news2 w5 _ _ 26) (by intro u hu; simp at hu; rcases hu with rfl | rfl <;> rfl) (by unfold maxLen; omega) (by omega) (by simp; omega) ?_; intro v6 w6 hown6 hgrow6 _; obtain ⟨a6, c6, rfl⟩ := own_slice hown6)
      have HO6 : Hid (w6.ownsRow w3.heap.size 26 2 (.slice a6 (k + 1) c6) (k + 1) (((ups (q.take (k + 1))).map Wr.Up.id).map idCells).flatten) := by
        show World.ownsRow _ _ _ _ _ _ _
        rw [HTK.out]
        exact hown6
      have HB6 : Hid (Below w3.heap.size w3 w6) := (HBN.out.alloc hs5 _).grown hgrow6 (by simp; omega) (fun j hj => (ho2.lt j hj).1)
      clear hown6 hgrow6 ho2 HTK
      go_roundw
      case rel => exact ⟨k + 1, hlt, by go_num, HO6.out, HB6.out⟩
      case measure => simp [intOf]; omega
    · have hdd : decide (k < q.length) = false := decide_eq_false hlt
      obtain rfl : k = q.length := by omega
      have HE : Hid (IdsV wr (.slice av q.length cv) (Dg.heads (ups hq))) := by
        have e : Dg.heads (ups hq) = (ups q).map Wr.Up.id := by unfold Dg.heads; rw [HUF.out]
        have el : ((ups q).map Wr.Up.id).length = q.length := by rw [List.length_map, ups_length]
        have h9 := ho
        rw [List.take_length, ← el] at h9
        show IdsV _ _ _
        rw [e, ← el]
        exact own_ids h9
      have HBE : Hid (Below w.heap.size w wr) := HG3.out.trans (hbw.mono HG3.out.size)
      clear ho hbw
      go_wp2_with fail
      go_ret2
      exact ⟨_, by rw [HCK.out]; rfl, by rw [Dg.ifOk_ok HCK.out]; exact HE.out, HBE.out⟩
end Go.Proofs.YtmfaodapofamfaaGreat

/- What dagBegun asks, plain. -/
namespace Go.Proofs.YtmfaodapofamfaaGreat
namespace Dg
open Wr
theorem beg_mem {u a b : Up} : u ∈ [a, b] ↔ u = a ∨ u = b := by simp
theorem beg_c1 : Wr.check firstU = 0 := by decide
theorem beg_c2 : Wr.check secondU = 0 := by decide
theorem beg_ok0 : Ok [] [] := ⟨by decide, (fun u hu => by cases hu), rfl, rfl, (fun u hu => by cases hu), ⟨fun u => ⟨(fun h => by cases h), (fun h => by cases h.1)⟩, fun u => ⟨(fun h => by cases h), (fun h => by cases h.1)⟩⟩⟩
end Dg
end Go.Proofs.YtmfaodapofamfaaGreat

/- Package dag: Facts. -/
namespace Go.Proofs.YtmfaodapofamfaaGreat
open Go.RowKit Go.Maps

end Go.Proofs.YtmfaodapofamfaaGreat

/- A region by a table whose last operations come one behind the other, behind all others, and may change anything (append, then a store). -/
namespace Go.Proofs.YtmfaodapofamfaaGreat
open Go.RowKit

/-- Does operation i wait for j, by some steps? -/
def reach (ops : Array Oper) : Nat → Nat → Nat → Bool
  | 0, _, _ => false
  | f + 1, i, j => ((ops[i]?).map fun o => o.after.toList.any fun e => Region.binds .any e && (e.on == j || reach ops f e.on j)).getD false
def Closed (ops : Array Oper) (s : Array Bool) : Prop := ∀ (i : Nat) (o : Oper), s[i]? = some true → ops[i]? = some o → ∀ e, e ∈ o.after → Region.binds .any e = true → s[e.on]? = some true
theorem reach_done {ops : Array Oper} {s : Array Bool} (hC : Closed ops s) : ∀ (f i j : Nat) (o : Oper), ops[i]? = some o → (∀ e, e ∈ o.after → Region.binds .any e = true → s[e.on]? = some true) → reach ops f i j = true → s[j]? = some true
  | 0, _, _, _, _, _, h => by cases h
  | f + 1, i, j, o, ho, hd, h => by
    unfold reach at h
    rw [ho, Option.map_some, Option.getD_some] at h
    obtain ⟨e, he, h2⟩ := List.any_eq_true.mp h
    rw [Bool.and_eq_true, Bool.or_eq_true] at h2
    have hse := hd e (by simpa using he) h2.1
    rcases h2.2 with h3 | h3
    · have h3 : e.on = j := by simpa using h3
      rw [← h3]; exact hse
    · cases hoe : ops[e.on]? with
      | none =>
        cases f with
        | zero => cases h3
        | succ f => unfold reach at h3; rw [hoe] at h3; cases h3
      | some oe => exact reach_done hC f e.on j oe hoe (fun e' he' hb' => hC e.on oe hse hoe e' he' hb') h3
/-- The tail waits for all ahead of it, one by one. -/
def tailFine (ops : Array Oper) (L : Nat) : Bool := (List.range L).all (fun j => reach ops 12 L j) && (List.range ops.size).all fun i => !decide (L < i) || reach ops 12 i (i - 1)
structure OpInT (ops : Array Oper) (T : Nat → Value → World → Prop) (a0 : Act) (w0 : World) (L : Nat) (a : Act) (w : World) : Prop where
  below : Below w0.heap.size w0 w
  defers : a.defers = a0.defers
  size : a.tmps.size = a0.tmps.size
  still : ∀ t, t ∉ ops.toList.filterMap (·.dst) → a.tmps.getD t undef = a0.tmps.getD t undef
  all : ∀ (i : Nat) (o : Oper) (t : Nat), i < L → ops[i]? = some o → o.dst = some t → T t (a.tmps.getD t undef) w

section
variable {P : Program} {ops : Array Oper} {Q : Exit → Act → World → Prop}
end

end Go.Proofs.YtmfaodapofamfaaGreat

/- A region by a table with a tail, where the tail writes what the table reads. -/
namespace Go.Proofs.YtmfaodapofamfaaGreat
open Go.RowKit

section
variable {P : Program} {ops : Array Oper} {Q : Exit → Act → World → Prop}
theorem wp_region_tail2 (T : Nat → Value → World → Prop) (L : Nat) {id : Nat} {a0 : Act} {w0 : World} (hL : L < ops.size) (htf : tailFine ops L = true) (hm : P.follows .mixedOrders = true)
    (hf : tabFine ops a0.tmps.size = true)
    (hmono : ∀ t v w w', Below w.heap.size w w' → T t v w → T t v w')
    (hop : AllOps (fun o => ∀ a w, OpIn ops T a0 w0 o a w → (∀ t, t ∉ (ops.toList.take L).filterMap (·.dst) → a.tmps.getD t undef = a0.tmps.getD t undef) → OpOk P ops Q T o a w) (ops.toList.take L))
    (htail : ∀ a w, OpInT ops T a0 w0 L a w → (∀ t, t ∉ (ops.toList.take L).filterMap (·.dst) → a.tmps.getD t undef = a0.tmps.getD t undef) → wpOps P ops Q (List.range' L (ops.size - L)) a w) :
    (Code.region id ops true).wp P Q a0 w0 := by
  unfold tailFine at htf
  rw [Bool.and_eq_true] at htf
  have ht1 : ∀ j, j < L → reach ops 12 L j = true := fun j hj => List.all_eq_true.mp htf.1 j (List.mem_range.mpr hj)
  have ht2 : ∀ i, i < ops.size → L < i → reach ops 12 i (i - 1) = true := fun i hi hLi => by
    have h := List.all_eq_true.mp htf.2 i (List.mem_range.mpr hi)
    rw [decide_eq_true hLi] at h
    simpa using h
  unfold tabFine at hf
  rw [Bool.and_eq_true, Bool.and_eq_true] at hf
  obtain ⟨⟨hnd, hlt⟩, hah⟩ := hf
  have hnd := of_decide_eq_true hnd
  have hlt' : ∀ t, t ∈ ops.toList.filterMap (·.dst) → t < a0.tmps.size := fun t ht => of_decide_eq_true (List.all_eq_true.mp hlt t ht)
  have hah' : ∀ (i : Nat) (o : Oper), ops[i]? = some o → ∀ e, e ∈ o.after → e.on < i := fun i o ho e he => by
    have hi : i < ops.size := (Array.getElem?_eq_some_iff.mp ho).1
    have h := List.all_eq_true.mp hah i (List.mem_range.mpr hi)
    rw [ho, Option.map_some, Option.getD_some] at h
    exact of_decide_eq_true (List.all_eq_true.mp h e (by simpa using he))
  refine wp_region_inv (fun s a w => (s.size = ops.size ∧ Closed ops s) ∧ (((∀ i, L ≤ i → i < ops.size → s[i]? = some false) ∧ (∀ t, t ∉ (ops.toList.take L).filterMap (·.dst) → a.tmps.getD t undef = a0.tmps.getD t undef) ∧ Tabbed ops T a0 w0 s a w) ∨
    (∃ m, L ≤ m ∧ m ≤ ops.size ∧ (∀ i, i < m → s[i]? = some true) ∧ (∀ i, m ≤ i → i < ops.size → s[i]? = some false) ∧ wpOps P ops Q (List.range' m (ops.size - m)) a w))) hm ?_ ?_ ?_
  · rintro s a w hr ⟨⟨hs, hC⟩, hI⟩
    have hall : ∀ n : Nat, n ≤ ops.size → ∀ i : Nat, i < n → s[i]? = some true := by
      intro n
      induction n with
      | zero => intro _ i hi; exact absurd hi (Nat.not_lt_zero _)
      | succ n ih =>
        intro hn i hi
        have ih := ih (by omega)
        by_cases hin : i < n
        · exact ih i hin
        · have hin : i = n := by omega
          subst hin
          cases hsi : s[i]? with
          | none => rw [Array.getElem?_eq_none_iff] at hsi; omega
          | some b =>
            cases b with
            | true => rfl
            | false =>
              exfalso
              have hio : i < ops.size := by omega
              have : i ∈ Region.ready .any ops s := by
                unfold Region.ready
                refine List.mem_filter.mpr ⟨List.mem_range.mpr hio, ?_⟩
                rw [Bool.and_eq_true]
                refine ⟨by simp [Array.getD_eq_getD_getElem?, hsi], ?_⟩
                have ho : ops[i]? = some ops[i] := Array.getElem?_eq_getElem hio
                rw [ho, Option.map_some, Option.getD_some, Array.all_eq_true_iff_forall_mem]
                intro e he
                have h1 := ih e.on (hah' i _ ho e he)
                simp [Array.getD_eq_getD_getElem?, h1]
              rw [hr] at this
              exact absurd this (by simp)
    have hd := hall ops.size (Nat.le_refl _)
    rcases hI with ⟨hF, _, _⟩ | ⟨m, _, hm1, _, hF, hW⟩
    · have h1 := hF L (Nat.le_refl _) hL
      rw [hd L hL] at h1
      cases h1
    · by_cases hme : m = ops.size
      · subst hme
        rw [Nat.sub_self] at hW
        exact hW
      · have h1 := hF m (Nat.le_refl _) (by omega)
        rw [hd m (by omega)] at h1
        cases h1
  · rintro s a w i hi ⟨⟨hs, hC⟩, hI⟩
    obtain ⟨hsi, o, ho, haf⟩ := ready_mem hi
    have his : i < ops.size := (Array.getElem?_eq_some_iff.mp ho).1
    have hup : ∀ j, s[j]? = some true → (s.setIfInBounds i true)[j]? = some true := fun j hj => by
      rw [Array.getElem?_setIfInBounds]
      by_cases hij : i = j
      · rw [if_pos hij, if_pos (by omega)]
      · rw [if_neg hij]; exact hj
    have hss : (s.setIfInBounds i true).size = ops.size ∧ Closed ops (s.setIfInBounds i true) := by
      refine ⟨by simp [hs], fun i' o' hi' ho' e he hb => ?_⟩
      by_cases hii : i = i'
      · subst hii
        rw [ho] at ho'
        cases ho'
        exact hup _ (haf e he hb)
      · rw [Array.getElem?_setIfInBounds, if_neg hii] at hi'
        exact hup _ (hC i' o' hi' ho' e he hb)
    have go : ∀ m, L ≤ m → m < ops.size → i = m → (∀ j, j < m → s[j]? = some true) → (∀ j, m ≤ j → j < ops.size → s[j]? = some false) → wpOps P ops Q (List.range' m (ops.size - m)) a w →
        wpOp P ops Q i (fun a' w' => ((s.setIfInBounds i true).size = ops.size ∧ Closed ops (s.setIfInBounds i true)) ∧ (((∀ j, L ≤ j → j < ops.size → (s.setIfInBounds i true)[j]? = some false) ∧ (∀ t, t ∉ (ops.toList.take L).filterMap (·.dst) → a'.tmps.getD t undef = a0.tmps.getD t undef) ∧ Tabbed ops T a0 w0 (s.setIfInBounds i true) a' w') ∨
          (∃ m, L ≤ m ∧ m ≤ ops.size ∧ (∀ j, j < m → (s.setIfInBounds i true)[j]? = some true) ∧ (∀ j, m ≤ j → j < ops.size → (s.setIfInBounds i true)[j]? = some false) ∧ wpOps P ops Q (List.range' m (ops.size - m)) a' w'))) a w := by
      intro m hLm hms him hT hF hW
      subst him
      obtain ⟨d, hd⟩ : ∃ d, ops.size - i = d + 1 := ⟨ops.size - i - 1, by omega⟩
      rw [hd, List.range'_succ, wpOps_cons] at hW
      refine wpOp_mono (fun a' w' h' => ⟨hss, .inr ⟨i + 1, by omega, by omega, fun j hj => ?_, fun j hj hjs => ?_, ?_⟩⟩) hW
      · by_cases hji : j = i
        · subst hji
          rw [Array.getElem?_setIfInBounds, if_pos rfl, if_pos (by omega)]
        · exact hup j (hT j (by omega))
      · rw [Array.getElem?_setIfInBounds, if_neg (by omega)]
        exact hF j (by omega) hjs
      · rw [show ops.size - (i + 1) = d by omega]
        exact h'
    rcases hI with ⟨hF, hO, hI⟩ | ⟨m, hLm, hm1, hT, hF, hW⟩
    · by_cases hiL : L ≤ i
      · have hiL2 : i = L := by
          rcases Nat.lt_or_ge L i with h | h
          · have h1 := reach_done hC 12 i (i - 1) o ho haf (ht2 i his h)
            rw [hF (i - 1) (by omega) (by omega)] at h1
            cases h1
          · omega
        subst hiL2
        have hdn : ∀ j, j < i → s[j]? = some true := fun j hj => reach_done hC 12 i j o ho haf (ht1 j hj)
        exact go i (Nat.le_refl _) his rfl hdn (fun j hj hjs => hF j hj hjs) (htail a w ⟨hI.below, hI.defers, hI.size, hI.still, fun j oj t hj hoj hd => hI.done j oj t (hdn j hj) hoj hd⟩ hO)
      · have hmo : o ∈ ops.toList.take L := by
          rw [← Array.getElem?_toList] at ho
          refine List.mem_of_getElem? (i := i) ?_
          rw [List.getElem?_take, if_pos (by omega)]
          exact ho
        have hop' : OpOk P ops Q T o a w := AllOps.mem _ hop o hmo a w ⟨hI.below, hI.still, fun e he hb o' t ho' hd => hI.done e.on o' t (haf e he hb) ho' hd⟩ hO
        have hOset : ∀ (v : Value) t, t ∉ (ops.toList.take L).filterMap (·.dst) → (a.put o.dst v).tmps.getD t undef = a0.tmps.getD t undef := fun v t ht => by
          cases hd : o.dst with
          | none => exact hO t ht
          | some u =>
            have hne : t ≠ u := fun h => ht (h ▸ List.mem_filterMap.mpr ⟨o, hmo, hd⟩)
            rw [put_get_ne hne]
            exact hO t ht
        have hset : ∀ {v : Value} {w' : World}, (∀ t, o.dst = some t → T t v w') → Below w.heap.size w w' → Tabbed ops T a0 w0 (s.setIfInBounds i true) (a.put o.dst v) w' := by
          intro v w' hv hb
          refine ⟨hI.below.trans (hb.mono hI.below.size), by rw [put_defers]; exact hI.defers, by rw [put_size]; exact hI.size, fun t ht => ?_, fun j oj t hj hoj hd => ?_⟩
          · cases hd : o.dst with
            | none => exact hI.still t ht
            | some u =>
              have hne : t ≠ u := fun h => ht (h ▸ dst_mem ho hd)
              rw [put_get_ne hne]
              exact hI.still t ht
          · by_cases hij : j = i
            · subst hij
              rw [ho] at hoj
              cases hoj
              rw [hd, put_get_self (by rw [hI.size]; exact hlt' t (dst_mem ho hd))]
              exact hv t hd
            · have hj' : s[j]? = some true := by
                rw [Array.getElem?_setIfInBounds, if_neg (fun h => hij h.symm)] at hj
                exact hj
              have h1 := hmono t _ w w' hb (hI.done j oj t hj' hoj hd)
              cases hd2 : o.dst with
              | none => exact h1
              | some u =>
                have hne : t ≠ u := fun h => hij (dst_inj ops.toList hnd j i oj o t (by rw [Array.getElem?_toList]; exact hoj) (by rw [Array.getElem?_toList]; exact ho) hd (h ▸ hd2))
                rw [put_get_ne hne]
                exact h1
        have hF' : ∀ j, L ≤ j → j < ops.size → (s.setIfInBounds i true)[j]? = some false := fun j hj hjs => by
          rw [Array.getElem?_setIfInBounds, if_neg (by omega)]
          exact hF j hj hjs
        unfold OpOk at hop'
        unfold wpOp
        rw [ho]
        dsimp only
        by_cases hw : Region.wanted o (yielded ops a.tmps) = true
        · rw [if_pos hw] at hop' ⊢
          refine hop'.imp (Oper.wp_mono ?_) (fun h => h)
          rintro a' w' ⟨v, rfl, hv, hb⟩
          exact ⟨hss, .inl ⟨hF', hOset v, hset hv hb⟩⟩
        · rw [if_neg hw] at hop' ⊢
          exact ⟨hss, .inl ⟨hF', hOset _, hset hop' (Below.refl _ _)⟩⟩
    · have him : m ≤ i := by
        rcases Nat.lt_or_ge i m with h | h
        · have h1 := hT i h
          rw [hsi] at h1
          cases h1
        · exact h
      have him2 : i = m := by
        rcases Nat.lt_or_ge m i with h | h
        · have h1 := reach_done hC 12 i (i - 1) o ho haf (ht2 i his (by omega))
          rw [hF (i - 1) (by omega) (by omega)] at h1
          cases h1
        · omega
      exact go m hLm (by omega) him2 hT hF hW
  · refine ⟨⟨by simp, fun i o h => ?_⟩, .inl ⟨fun i _ hi => ?_, fun _ _ => rfl, ⟨⟨rfl, rfl, rfl, Nat.le_refl _, fun _ _ => rfl⟩, rfl, rfl, fun _ _ => rfl, fun i o t h _ _ => ?_⟩⟩⟩
    · rw [Array.getElem?_replicate] at h
      split at h <;> simp at h
    · rw [Array.getElem?_replicate, if_pos hi]
    · rw [Array.getElem?_replicate] at h
      split at h <;> simp at h
end

end Go.Proofs.YtmfaodapofamfaaGreat

/- One operation of a tail. -/
namespace Go.Proofs.YtmfaodapofamfaaGreat
open Go.RowKit

section
variable {P : Program} {ops : Array Oper} {Q : Exit → Act → World → Prop} {i : Nat} {o : Oper} {K : Act → World → Prop} {a : Act} {w w' : World}
theorem wpOp_val {v : Value} (ho : ops[i]? = some o) (hw : Region.wanted o (yielded ops a.tmps) = true) (hr : (execOp a.eval o).run P w = .ok (.value v) w') (h : K (a.put o.dst v) w') : wpOp P ops Q i K a w := by
  unfold wpOp
  rw [ho]
  dsimp only
  rw [if_pos hw]
  left
  unfold Oper.wp
  rw [hr, Oper.upon_value]
  exact h
theorem wpOp_void (ho : ops[i]? = some o) (hw : Region.wanted o (yielded ops a.tmps) = true) (hd : o.dst = none) (hr : (execOp a.eval o).run P w = .ok .skip w') (h : K a w') : wpOp P ops Q i K a w := by
  unfold wpOp
  rw [ho]
  dsimp only
  rw [if_pos hw]
  left
  unfold Oper.wp
  rw [hr, Oper.upon_skip, hd]
  exact h
theorem wpOp_wp (ho : ops[i]? = some o) (hw : Region.wanted o (yielded ops a.tmps) = true) (h : o.wp P a w K Q) : wpOp P ops Q i K a w := by
  unfold wpOp
  rw [ho]
  dsimp only
  rw [if_pos hw]
  exact .inl h
theorem wpOps_end {tm : Array Value} {ds : List Deferred} {t : Nat} {v : Value} (h : Q .normal ⟨tm.setIfInBounds t v, ds⟩ w) : wpOps P ops Q [] (Act.put ⟨tm, ds⟩ (some t) v) w := h
end

end Go.Proofs.YtmfaodapofamfaaGreat

/- dagBegun. -/
namespace Go.Proofs.YtmfaodapofamfaaGreat
open Go.RowKit

theorem UpV.ok {w : World} {u : Wr.Up} {vp vs vt : Value} (h : UpV w u vp vs vt) : UvOk w ⟨u, vp, vs, vt⟩ := ⟨h.1, h.2.1, h.2.2.1, h.2.2.2.1, by have := h.2.2.2.2; dsimp only; omega⟩
theorem beg_check {h w : List Wr.Up} (e1 : h = [Wr.firstU, Wr.secondU]) (e2 : w = []) : Dg.check h w = 0 := by
  subst e1 e2
  have hA : Dg.Apart [Wr.secondU, Wr.firstU] := Dg.apart_of_nodup (by decide)
  have h1 : Dg.Cm [Wr.secondU, Wr.firstU] Wr.firstU.id := .mk Wr.firstU (by simp) (fun x hx => by cases hx)
  have h2 : Dg.Cm [Wr.secondU, Wr.firstU] Wr.secondU.id := .mk Wr.secondU (by simp) (fun x hx => by
    have hx2 : x = ⟨0, 1⟩ := by simpa [Dg.under, Wr.secondU] using hx
    rw [hx2]
    exact h1)
  have hall : ∀ u, u ∈ [Wr.secondU, Wr.firstU] → Dg.Cm [Wr.secondU, Wr.firstU] u.id := fun u hu => by
    rcases Dg.beg_mem.mp hu with rfl | rfl
    · exact h2
    · exact h1
  have hi : Dg.Is [Wr.secondU, Wr.firstU] [Wr.firstU, Wr.secondU] [] := by
    refine ⟨⟨fun u => ?_, fun u => ⟨(fun h => by cases h), (fun h => absurd (hall u h.1) h.2)⟩⟩, by decide, rfl⟩
    rw [Dg.beg_mem]
    exact ⟨fun h => ⟨Dg.beg_mem.mpr h.symm, hall u (Dg.beg_mem.mpr h.symm)⟩, fun h => (Dg.beg_mem.mp h.1).symm⟩
  refine Dg.check_ok.mpr (hi.ok hA (fun u hu => ?_) (by decide))
  rcases Dg.beg_mem.mp hu with rfl | rfl
  · exact Dg.beg_c2
  · exact Dg.beg_c1
end Go.Proofs.YtmfaodapofamfaaGreat

/- What stands where a box of two slices is written: all blocks that hold a number. -/
namespace Go.Proofs.YtmfaodapofamfaaGreat
open Go.RowKit

def Kn (w w' : World) : Prop := ∀ b, (∃ o n, w.cell? ⟨b, o, none⟩ = some (.int .i64 n)) → ∀ o v, w.cell? ⟨b, o, none⟩ = some v → w'.cell? ⟨b, o, none⟩ = some v
theorem Kn.trans {a b c : World} (h : Kn a b) (k : Kn b c) : Kn a c := fun i hi o v e => k i (by obtain ⟨p, n, q⟩ := hi; exact ⟨p, n, h i ⟨p, n, q⟩ p _ q⟩) o v (h i hi o v e)
theorem Kn.below {w w' : World} (h : Below w.heap.size w w') : Kn w w' := fun _ _ _ _ e => cell_below h e
theorem Kn.ints {w w' : World} (k : Kn w w') {v : Value} {l : List Int} (h : IntsV w v l) : IntsV w' v l := by
  obtain ⟨ao, cap, rfl, h⟩ := h
  refine ⟨ao, cap, rfl, ?_⟩
  rcases h with h | ⟨b, off, rfl, h⟩
  · exact .inl h
  · exact .inr ⟨b, off, rfl, fun i hi => k _ ⟨_, _, h i hi⟩ _ _ (h i hi)⟩
theorem Kn.ids {w w' : World} (k : Kn w w') {v : Value} {l : List Wr.Id} (h : IdsV w v l) : IdsV w' v l := by
  obtain ⟨ao, cap, rfl, hc, h⟩ := h
  refine ⟨ao, cap, rfl, hc, ?_⟩
  rcases h with h | ⟨b, off, rfl, h⟩
  · exact .inl h
  · exact .inr ⟨b, off, rfl, fun i hi => ⟨k _ ⟨_, _, (h i hi).1⟩ _ _ (h i hi).1, k _ ⟨_, _, (h i hi).1⟩ _ _ (h i hi).2⟩⟩
theorem Kn.fact {w w' : World} (k : Kn w w') {b off : Nat} {f : Rl.Fc} (h : FactIn w b off f) : FactIn w' b off f := by
  obtain ⟨h1, u, h2, h3⟩ := h
  exact ⟨k _ ⟨_, _, h1⟩ _ _ h1, u, k _ ⟨_, _, h1⟩ _ _ h2, k.ints h3⟩
theorem Kn.facts {w w' : World} (k : Kn w w') {v : Value} {l : List Rl.Fc} (h : FactsV w v l) : FactsV w' v l := by
  obtain ⟨ao, cap, rfl, hc, h⟩ := h
  refine ⟨ao, cap, rfl, hc, ?_⟩
  rcases h with h | ⟨b, off, rfl, h⟩
  · exact .inl h
  · exact .inr ⟨b, off, rfl, fun i hi => k.fact (h i hi)⟩
theorem UvOk.kn {w w' : World} {x : Uv} (h : UvOk w x) (k : Kn w w') : UvOk w' x := ⟨k.ids h.p, k.facts h.s, k.ids h.t, h.f, h.l⟩
theorem UpsV.kn {w w' : World} {v : Value} {q : List Uv} (h : UpsV w v q) (k : Kn w w') : UpsV w' v q := by
  obtain ⟨ao, cap, e, hc, h⟩ := h
  refine ⟨ao, cap, e, hc, ?_⟩
  rcases h with h | ⟨b, off, rfl, h⟩
  · exact .inl h
  · refine .inr ⟨b, off, rfl, fun i hi => ?_⟩
    obtain ⟨h0, h1, h2, h3, h4⟩ := h i hi
    exact ⟨k _ ⟨_, _, h0⟩ _ _ h0, k _ ⟨_, _, h0⟩ _ _ h1, k _ ⟨_, _, h0⟩ _ _ h2, k _ ⟨_, _, h0⟩ _ _ h3, k _ ⟨_, _, h0⟩ _ _ h4⟩
/-- .. a box of two slices, one after the other. -/
def two (z : World) (F : Nat) (u v : Value) : World := (z.setCell ⟨F, 0, none⟩ u).setCell ⟨F, 1, none⟩ v
theorem two_heap {z : World} {F : Nat} {x y u v : Value} {t : TypeId} (h : z.heap[F]? = some (.cells #[x, y] t)) : (two z F u v).heap[F]? = some (.cells #[u, v] t) := by
  unfold two
  have h1 : (z.setCell ⟨F, 0, none⟩ u).heap[F]? = some (.cells #[u, y] t) := by rw [Lib.heap_setCell_same h]; rfl
  rw [Lib.heap_setCell_same h1]
  rfl
theorem two_other {z : World} {F : Nat} {u v : Value} {b : Nat} (h : b ≠ F) : (two z F u v).heap[b]? = z.heap[b]? := by
  unfold two
  rw [Below.heap_setCell _ _ _ _ h, Below.heap_setCell _ _ _ _ h]
theorem two_kn {z : World} {F : Nat} {ax ay : Option Addr} {nx cx ny cy : Nat} {u v : Value} {t : TypeId} (h : z.heap[F]? = some (.cells #[.slice ax nx cx, .slice ay ny cy] t)) : Kn z (two z F u v) := fun b hb o x e => by
  have hne : b ≠ F := fun e2 => by
    subst e2
    obtain ⟨p, n, hp⟩ := hb
    rw [Lib.cell_of_heap h] at hp
    match p with
    | 0 => cases hp
    | 1 => cases hp
    | _ + 2 => cases hp
  rw [cell_heap (two_other hne)]
  exact e
theorem two_below {w z : World} {F : Nat} (h : Below w.heap.size w z) (hF : w.heap.size ≤ F) (u v : Value) : Below w.heap.size w (two z F u v) := (h.setCell (p := ⟨F, 0, none⟩) hF u).setCell (p := ⟨F, 1, none⟩) hF v
/-- A box of two slices stands there. -/
def Bx (w : World) (b : Nat) : Prop := ∃ a1 n1 c1 a2 n2 c2, w.heap[b]? = some (.cells #[.slice a1 n1 c1, .slice a2 n2 c2] 24)
theorem Bx.below {w w' : World} {b : Nat} (h : Bx w b) (hb : Below w.heap.size w w') : Bx w' b := by
  obtain ⟨a1, n1, c1, a2, n2, c2, h⟩ := h
  exact ⟨a1, n1, c1, a2, n2, c2, (hb.block _ (Array.getElem?_eq_some_iff.1 h).1).trans h⟩
/-- From world to world: all below B stands, all blocks with numbers, and a box stays a box. -/
def Rb (B : Nat) (w w' : World) : Prop := Below B w w' ∧ Kn w w' ∧ ∀ b, Bx w b → Bx w' b
theorem Rb.trans {B : Nat} {a b c : World} (h : Rb B a b) (k : Rb B b c) : Rb B a c := ⟨h.1.trans k.1, h.2.1.trans k.2.1, fun i hi => k.2.2 i (h.2.2 i hi)⟩
theorem Rb.refl (B : Nat) (w : World) : Rb B w w := ⟨Below.refl _ _, fun _ _ _ _ e => e, fun _ h => h⟩
theorem Rb.of {B : Nat} {w w' : World} (h : Below w.heap.size w w') (hB : B ≤ w.heap.size) : Rb B w w' := ⟨h.mono hB, Kn.below h, fun _ hb => hb.below h⟩
theorem Rb.draw (B : Nat) (w : World) : Rb B w { w with drawn := w.drawn + 1 } := ⟨(Below.refl B w).drew, fun _ _ _ _ e => e, fun _ h => h⟩
theorem Rb.two {B : Nat} {z : World} {F : Nat} {a1 a2 b1 b2 : Option Addr} {n1 c1 n2 c2 m1 d1 m2 d2 : Nat} (h : z.heap[F]? = some (.cells #[.slice a1 n1 c1, .slice a2 n2 c2] 24)) (hF : B ≤ F) : Rb B z (two z F (.slice b1 m1 d1) (.slice b2 m2 d2)) := by
  refine ⟨((Below.refl B z).setCell (p := ⟨F, 0, none⟩) hF _).setCell (p := ⟨F, 1, none⟩) hF _, two_kn h, fun b hb => ?_⟩
  by_cases e : b = F
  · subst e
    exact ⟨_, _, _, _, _, _, two_heap h⟩
  · obtain ⟨p1, q1, r1, p2, q2, r2, hb⟩ := hb
    exact ⟨p1, q1, r1, p2, q2, r2, (two_other e).trans hb⟩
/-- A pointer to a box. -/
def Bxp (B : Nat) (w : World) (v : Value) : Prop := ∃ b, v = .pointer (some ⟨b, 0, none⟩) ∧ Bx w b ∧ B ≤ b
theorem Bxp.rb {B C : Nat} {w w' : World} {v : Value} (h : Bxp B w v) (k : Rb C w w') : Bxp B w' v := by
  obtain ⟨b, e, h, l⟩ := h
  exact ⟨b, e, k.2.2 b h, l⟩
theorem bxp_new (B : Nat) (y : World) (hB : B ≤ y.heap.size) : Bxp B (y.alloc (.cells #[.slice none 0 0, .slice none 0 0] 24)) (.pointer (some ⟨y.heap.size, 0, none⟩)) := ⟨_, rfl, ⟨_, _, _, _, _, _, heap_alloc_new y _⟩, hB⟩
end Go.Proofs.YtmfaodapofamfaaGreat

/- A region by a table, with a store among its operations: worlds behind are such as a relation says; one operation S leaves a fact D. -/
namespace Go.Proofs.YtmfaodapofamfaaGreat
open Go.RowKit

/-- All that is written is written once, and within the frame; what must be waited for stands ahead. -/
def tabFineR (ops : Array Oper) (n : Nat) : Bool :=
  decide ((ops.toList.filterMap (·.dst)).Nodup) && (ops.toList.filterMap (·.dst)).all (fun t => decide (t < n)) && (List.range ops.size).all (fun i => ((ops[i]?).map (fun o => o.after.toList.all (fun e => !Region.binds .any e || decide (e.on < i)))).getD true)
def waitedBy (ops : Array Oper) (S i : Nat) : Bool := ((ops[S]?).map fun o => o.after.toList.any fun e => Region.binds .any e && e.on == i).getD false
structure TabbedR (R : World → World → Prop) (ops : Array Oper) (T : Nat → Value → World → Prop) (a0 : Act) (w0 : World) (s : Array Bool) (a : Act) (w : World) : Prop where
  below : R w0 w
  defers : a.defers = a0.defers
  size : a.tmps.size = a0.tmps.size
  still : ∀ t, t ∉ ops.toList.filterMap (·.dst) → a.tmps.getD t undef = a0.tmps.getD t undef
  done : ∀ (i : Nat) (o : Oper) (t : Nat), s[i]? = some true → ops[i]? = some o → o.dst = some t → T t (a.tmps.getD t undef) w
structure OpInR (R : World → World → Prop) (ops : Array Oper) (T : Nat → Value → World → Prop) (a0 : Act) (w0 : World) (o : Oper) (a : Act) (w : World) : Prop where
  below : R w0 w
  still : ∀ t, t ∉ ops.toList.filterMap (·.dst) → a.tmps.getD t undef = a0.tmps.getD t undef
  has : ∀ e, e ∈ o.after → Region.binds .any e = true → ∀ (o' : Oper) (t : Nat), ops[e.on]? = some o' → o'.dst = some t → T t (a.tmps.getD t undef) w
  size : a.tmps.size = a0.tmps.size
def OpOkR (P : Program) (R : World → World → Prop) (ops : Array Oper) (Q : Exit → Act → World → Prop) (T : Nat → Value → World → Prop) (S : Nat) (D : Act → World → Prop) (i : Nat) (o : Oper) (a : Act) (w : World) : Prop :=
  Region.wanted o (yielded ops a.tmps) = true ∧ o.wp P a w (fun a' w' => ∃ v, a' = a.put o.dst v ∧ (∀ t, o.dst = some t → T t v w') ∧ R w w' ∧ (i = S → D (a.put o.dst v) w') ∧ (waitedBy ops S i = false → ¬ i = S → D a w → D (a.put o.dst v) w')) Q
section
variable {P : Program} {ops : Array Oper} {Q : Exit → Act → World → Prop} {R : World → World → Prop} {T : Nat → Value → World → Prop} {a0 : Act} {w0 : World} {o : Oper} {a : Act} {w : World} {S i : Nat} {D : Act → World → Prop}
theorem OpInR.of (h : OpInR R ops T a0 w0 o a w) (t : Nat) (hw : waitsFor ops o t = true) : T t (a.tmps.getD t undef) w := by
  unfold waitsFor at hw
  rw [List.any_eq_true] at hw
  obtain ⟨e, he, hw⟩ := hw
  rw [Bool.and_eq_true] at hw
  cases ho : ops[e.on]? with
  | none => rw [ho] at hw; simp at hw
  | some o' =>
    rw [ho] at hw
    exact h.has e (by simpa using he) hw.1 o' t ho (by simpa using hw.2)
theorem OpInR.old (h : OpInR R ops T a0 w0 o a w) (t : Nat) (hs : stays ops t = true) : a.tmps.getD t undef = a0.tmps.getD t undef := by
  refine h.still t ?_
  unfold stays at hs
  simpa [List.contains_iff_mem] using hs
theorem opOkR_val {v : Value} {w' : World} (hw : Region.wanted o (yielded ops a.tmps) = true) (hr : (execOp a.eval o).run P w = .ok (.value v) w') (hT : ∀ t, o.dst = some t → T t v w') (hb : R w w') (hS : i = S → D (a.put o.dst v) w') (hD : waitedBy ops S i = false → ¬ i = S → D a w → D (a.put o.dst v) w') : OpOkR P R ops Q T S D i o a w := by
  refine ⟨hw, ?_⟩
  unfold Oper.wp
  rw [hr, Oper.upon_value]
  exact ⟨v, rfl, hT, hb, hS, hD⟩
theorem opOkR_void {w' : World} (hw : Region.wanted o (yielded ops a.tmps) = true) (hr : (execOp a.eval o).run P w = .ok .skip w') (hd : o.dst = none) (hb : R w w') (hS : i = S → D a w') (hD : waitedBy ops S i = false → ¬ i = S → D a w → D a w') : OpOkR P R ops Q T S D i o a w := by
  refine ⟨hw, ?_⟩
  unfold Oper.wp
  rw [hr, Oper.upon_skip]
  refine ⟨undef, rfl, fun t ht => (by rw [hd] at ht; cases ht), hb, fun h => ?_, fun h1 h2 h3 => ?_⟩
  · rw [hd]; exact hS h
  · rw [hd]; exact hD h1 h2 h3
theorem opOkR_call {f : FuncId} {args : Array Value} (hw : Region.wanted o (yielded ops a.tmps) = true) (hr : (execOp a.eval o).run P w = .ok (.enter f args) w)
    (hc : Calls P f args w fun e w' => ∃ v, e = .returned v ∧ (∀ t, o.dst = some t → T t v w') ∧ R w w' ∧ (i = S → D (a.put o.dst v) w') ∧ (waitedBy ops S i = false → ¬ i = S → D a w → D (a.put o.dst v) w')) : OpOkR P R ops Q T S D i o a w := by
  refine ⟨hw, ?_⟩
  unfold Oper.wp
  rw [hr, Oper.upon_enter]
  refine Calls.mono hc ?_
  rintro e w' ⟨v, rfl, h⟩
  exact ⟨v, rfl, h⟩
def AllOpsI (Φ : Nat → Oper → Prop) : Nat → List Oper → Prop
  | _, [] => True
  | i, o :: l => Φ i o ∧ AllOpsI Φ (i + 1) l
theorem AllOpsI.cons {Φ : Nat → Oper → Prop} {i : Nat} {o : Oper} {l : List Oper} (h : Φ i o) (hl : AllOpsI Φ (i + 1) l) : AllOpsI Φ i (o :: l) := ⟨h, hl⟩
theorem AllOpsI.nil {Φ : Nat → Oper → Prop} {i : Nat} : AllOpsI Φ i [] := trivial
theorem AllOpsI.get {Φ : Nat → Oper → Prop} : ∀ (l : List Oper) (i : Nat), AllOpsI Φ i l → ∀ j o, l[j]? = some o → Φ (i + j) o
  | [], _, _, j, o, h => by simp at h
  | x :: l, i, hA, j, o, h => by
    cases j with
    | zero => simp only [List.getElem?_cons_zero, Option.some.injEq] at h; subst h; exact hA.1
    | succ j =>
      simp only [List.getElem?_cons_succ] at h
      have := AllOpsI.get l (i + 1) hA.2 j o h
      rw [show i + (j + 1) = i + 1 + j by omega]
      exact this
theorem wp_region_tabR (R : World → World → Prop) (hRt : ∀ a b c, R a b → R b c → R a c) (hRd : ∀ w, R w { w with drawn := w.drawn + 1 }) (T : Nat → Value → World → Prop) (S : Nat) (D : Act → World → Prop) (hS : S < ops.size) {id : Nat} {a0 : Act} {w0 : World} (hm : P.follows .mixedOrders = true)
    (hf : tabFineR ops a0.tmps.size = true)
    (hmono : ∀ t v w w', R w w' → T t v w → T t v w')
    (hopA : AllOpsI (fun i o => ∀ a w, OpInR R ops T a0 w0 o a w → OpOkR P R ops Q T S D i o a w) 0 ops.toList)
    (hend : ∀ a w, R w0 w → D a w → a.defers = a0.defers → a.tmps.size = a0.tmps.size → (∀ t, t ∉ ops.toList.filterMap (·.dst) → a.tmps.getD t undef = a0.tmps.getD t undef) → (∀ t, t ∈ ops.toList.filterMap (·.dst) → T t (a.tmps.getD t undef) w) → Q .normal a w) :
    (Code.region id ops true).wp P Q a0 w0 := by
  have hop : ∀ (i : Nat) (o : Oper), ops[i]? = some o → ∀ a w, OpInR R ops T a0 w0 o a w → OpOkR P R ops Q T S D i o a w := fun i o ho => by
    have := AllOpsI.get ops.toList 0 hopA i o (by rw [Array.getElem?_toList]; exact ho)
    rw [Nat.zero_add] at this
    exact this
  unfold tabFineR at hf
  rw [Bool.and_eq_true, Bool.and_eq_true] at hf
  obtain ⟨⟨hnd, hlt⟩, hah⟩ := hf
  have hnd := of_decide_eq_true hnd
  have hlt' : ∀ t, t ∈ ops.toList.filterMap (·.dst) → t < a0.tmps.size := fun t ht => by
    have h := List.all_eq_true.mp hlt t ht
    exact of_decide_eq_true h
  have hah' : ∀ (i : Nat) (o : Oper), ops[i]? = some o → ∀ e, e ∈ o.after → Region.binds .any e = true → e.on < i := fun i o ho e he hbe => by
    have hi : i < ops.size := (Array.getElem?_eq_some_iff.mp ho).1
    have h := List.all_eq_true.mp hah i (List.mem_range.mpr hi)
    rw [ho, Option.map_some, Option.getD_some] at h
    have h9 := List.all_eq_true.mp h e (by simpa using he)
    rw [hbe] at h9
    exact of_decide_eq_true (by simpa using h9)
  have hset : ∀ {T : Nat → Value → World → Prop} {s : Array Bool} {a : Act} {w w' : World} {i : Nat} {o : Oper} {v : Value}, (∀ t v w w', R w w' → T t v w → T t v w') → s.size = ops.size → ops[i]? = some o → TabbedR R ops T a0 w0 s a w → (∀ t, o.dst = some t → T t v w') → R w w' → TabbedR R ops T a0 w0 (s.setIfInBounds i true) (a.put o.dst v) w' := by
    intro T s a w w' i o v hmono hs ho hI hv hb
    refine ⟨hRt _ _ _ hI.below hb, by rw [put_defers]; exact hI.defers, by rw [put_size]; exact hI.size, fun t ht => ?_, fun j oj t hj hoj hd => ?_⟩
    · cases hd : o.dst with
      | none => exact hI.still t ht
      | some u =>
        have hne : t ≠ u := fun h => ht (h ▸ dst_mem ho hd)
        rw [put_get_ne hne]
        exact hI.still t ht
    · by_cases hij : j = i
      · subst hij
        rw [ho] at hoj
        cases hoj
        rw [hd, put_get_self (by rw [hI.size]; exact hlt' t (dst_mem ho hd))]
        exact hv t hd
      · have hj' : s[j]? = some true := by
          rw [Array.getElem?_setIfInBounds, if_neg (fun h => hij h.symm)] at hj
          exact hj
        have h1 := hmono t _ w w' hb (hI.done j oj t hj' hoj hd)
        cases hd2 : o.dst with
        | none => exact h1
        | some u =>
          have hne : t ≠ u := fun h => hij (dst_inj ops.toList hnd j i oj o t (by rw [Array.getElem?_toList]; exact hoj) (by rw [Array.getElem?_toList]; exact ho) hd (h ▸ hd2))
          rw [put_get_ne hne]
          exact h1
  refine wp_region_inv (fun s a w => s.size = ops.size ∧ TabbedR R ops T a0 w0 s a w ∧ (s[S]? = some true → D a w ∧ ∀ i, waitedBy ops S i = true → s[i]? = some true)) hm ?_ ?_ ?_
  · rintro s a w hr ⟨hs, hI, hDs⟩
    have hall : ∀ n : Nat, n ≤ ops.size → ∀ i : Nat, i < n → s[i]? = some true := by
      intro n
      induction n with
      | zero => intro _ i hi; exact absurd hi (Nat.not_lt_zero _)
      | succ n ih =>
        intro hn i hi
        have ih := ih (by omega)
        by_cases hin : i < n
        · exact ih i hin
        · have hin : i = n := by omega
          subst hin
          cases hsi : s[i]? with
          | none => rw [Array.getElem?_eq_none_iff] at hsi; omega
          | some b =>
            cases b with
            | true => rfl
            | false =>
              exfalso
              have hio : i < ops.size := by omega
              have : i ∈ Region.ready .any ops s := by
                unfold Region.ready
                refine List.mem_filter.mpr ⟨List.mem_range.mpr hio, ?_⟩
                rw [Bool.and_eq_true]
                refine ⟨by simp [Array.getD_eq_getD_getElem?, hsi], ?_⟩
                have ho : ops[i]? = some ops[i] := Array.getElem?_eq_getElem hio
                rw [ho, Option.map_some, Option.getD_some, Array.all_eq_true_iff_forall_mem]
                intro e he
                cases hbe : Region.binds .any e with
                | false => rfl
                | true =>
                  have h1 := ih e.on (hah' i _ ho e he hbe)
                  simp [Array.getD_eq_getD_getElem?, h1]
              rw [hr] at this
              exact absurd this (by simp)
    refine hend a w hI.below (hDs (hall ops.size (Nat.le_refl _) S hS)).1 hI.defers hI.size hI.still (fun t ht => ?_)
    obtain ⟨o, ho, hd⟩ := List.mem_filterMap.mp ht
    obtain ⟨i, hi⟩ := List.mem_iff_getElem?.mp ho
    rw [Array.getElem?_toList] at hi
    exact hI.done i o t (hall ops.size (Nat.le_refl _) i (Array.getElem?_eq_some_iff.mp hi).1) hi hd
  · rintro s a w i hi ⟨hs, hI, hDs⟩
    obtain ⟨hsi, o, ho, haf⟩ := ready_mem hi
    have h := hop i o ho a w ⟨hI.below, hI.still, fun e he hb o' t ho' hd => hI.done e.on o' t (haf e he hb) ho' hd, hI.size⟩
    have hss : (s.setIfInBounds i true).size = ops.size := by simp [hs]
    obtain ⟨hw, h⟩ := h
    unfold wpOp
    rw [ho]
    dsimp only
    rw [if_pos hw]
    left
    refine Oper.wp_mono ?_ h
    rintro a' w' ⟨v, rfl, hv, hb, hSS, hDD⟩
    refine ⟨hss, hset hmono hs ho hI hv hb, fun hS1 => ?_⟩
    have hup : ∀ j, s[j]? = some true → (s.setIfInBounds i true)[j]? = some true := fun j hj => by
      rw [Array.getElem?_setIfInBounds]
      split
      · rename_i h9
        subst h9
        rw [hsi] at hj
        cases hj
      · exact hj
    by_cases hiS : i = S
    · refine ⟨hSS hiS, fun j hj => hup j ?_⟩
      subst hiS
      unfold waitedBy at hj
      rw [ho, Option.map_some, Option.getD_some, List.any_eq_true] at hj
      obtain ⟨e, he, h9⟩ := hj
      rw [Bool.and_eq_true] at h9
      have := haf e (by simpa using he) h9.1
      rw [(by simpa using h9.2 : e.on = j)] at this
      exact this
    · rw [Array.getElem?_setIfInBounds, if_neg hiS] at hS1
      obtain ⟨hD1, hW1⟩ := hDs hS1
      refine ⟨?_, fun j hj => hup j (hW1 j hj)⟩
      cases hwi : waitedBy ops S i with
      | true =>
        have := hW1 i hwi
        rw [hsi] at this
        cases this
      | false => exact hDD hwi hiS hD1
  · refine ⟨by simp, ⟨hRd w0, rfl, rfl, fun _ _ => rfl, fun i o t h _ _ => ?_⟩, fun h => ?_⟩
    · rw [Array.getElem?_replicate] at h
      split at h <;> simp at h
    · rw [Array.getElem?_replicate] at h
      split at h <;> simp at h
end
end Go.Proofs.YtmfaodapofamfaaGreat

/- dagBegun. -/
namespace Go.Proofs.YtmfaodapofamfaaGreat
open Go.RowKit

theorem UpV.below {w w' : World} {u : Wr.Up} {vp vs vt : Value} (h : UpV w u vp vs vt) (hb : Below w.heap.size w w') : UpV w' u vp vs vt := ⟨idsV_below h.1 hb, factsV_below h.2.1 hb, idsV_below h.2.2.1 hb, h.2.2.2.1, h.2.2.2.2⟩
def Up1 (u : Wr.Up) (w : World) (v : Value) : Prop := ∃ a1 n1 c1 a2 n2 c2 a3 n3 c3, v = .agg #[.int .i64 u.id.a, .int .i64 u.id.n, .slice a1 n1 c1, .slice a2 n2 c2, .slice a3 n3 c3] ∧ UpV w u (.slice a1 n1 c1) (.slice a2 n2 c2) (.slice a3 n3 c3)
theorem up1_of {u : Wr.Up} {w : World} {vp vs vt : Value} (h : UpV w u vp vs vt) : Up1 u w (upVal u vp vs vt) := by
  obtain ⟨a1, c1, rfl, _⟩ := id h.1
  obtain ⟨a2, c2, rfl, _⟩ := id h.2.1
  obtain ⟨a3, c3, rfl, _⟩ := id h.2.2.1
  exact ⟨a1, _, c1, a2, _, c2, a3, _, c3, rfl, h⟩
def Ups2 (w : World) (v : Value) : Prop := ∃ a, v = .slice a 2 2 ∧ ∃ R1 R2, UpsV w (.slice a 2 2) [R1, R2] ∧ UvOk w R1 ∧ UvOk w R2 ∧ R1.u = Wr.firstU ∧ R2.u = Wr.secondU
theorem Ups2.below {w w' : World} {v : Value} (h : Ups2 w v) (hb : Below w.heap.size w w') : Ups2 w' v := by
  obtain ⟨a, e, R1, R2, h1, h2, h3, h4, h5⟩ := h
  exact ⟨a, e, R1, R2, h1.kc (Kc.below hb), h2.below hb, h3.below hb, h4, h5⟩
theorem ups2_new {y : World} {p1 p2 p3 p4 p5 p6 : Option Addr} {n1 n2 n3 n4 n5 n6 q1 q2 q3 q4 q5 q6 : Nat} (hU : UpV y Wr.firstU (.slice p1 n1 q1) (.slice p2 n2 q2) (.slice p3 n3 q3)) (hV : UpV y Wr.secondU (.slice p4 n4 q4) (.slice p5 n5 q5) (.slice p6 n6 q6)) :
    Ups2 (y.alloc (.cells #[.int .i64 0, .int .i64 1, .slice p1 n1 q1, .slice p2 n2 q2, .slice p3 n3 q3, .int .i64 1, .int .i64 1, .slice p4 n4 q4, .slice p5 n5 q5, .slice p6 n6 q6] 30)) (.slice (some ⟨y.heap.size, 0, none⟩) 2 2) := by
  have hb := new_below y (.cells #[.int .i64 0, .int .i64 1, .slice p1 n1 q1, .slice p2 n2 q2, .slice p3 n3 q3, .int .i64 1, .int .i64 1, .slice p4 n4 q4, .slice p5 n5 q5, .slice p6 n6 q6] 30)
  have hh := heap_alloc_new y (.cells #[.int .i64 0, .int .i64 1, .slice p1 n1 q1, .slice p2 n2 q2, .slice p3 n3 q3, .int .i64 1, .int .i64 1, .slice p4 n4 q4, .slice p5 n5 q5, .slice p6 n6 q6] 30)
  refine ⟨_, rfl, ⟨Wr.firstU, _, _, _⟩, ⟨Wr.secondU, _, _, _⟩, ⟨_, _, rfl, ⟨Nat.le_refl _, (fun h => by cases h)⟩, .inr ⟨_, 0, rfl, fun i hi => ?_⟩⟩, (hU.below hb).ok, (hV.below hb).ok, rfl, rfl⟩
  match i, hi with
  | 0, _ => exact ⟨by rw [Lib.cell_of_heap hh]; rfl, by rw [Lib.cell_of_heap hh]; rfl, by rw [Lib.cell_of_heap hh]; rfl, by rw [Lib.cell_of_heap hh]; rfl, by rw [Lib.cell_of_heap hh]; rfl⟩
  | 1, _ => exact ⟨by rw [Lib.cell_of_heap hh]; rfl, by rw [Lib.cell_of_heap hh]; rfl, by rw [Lib.cell_of_heap hh]; rfl, by rw [Lib.cell_of_heap hh]; rfl, by rw [Lib.cell_of_heap hh]; rfl⟩
end Go.Proofs.YtmfaodapofamfaaGreat

/- The document's inOrder: updates with one more. -/
namespace Go.Proofs.YtmfaodapofamfaaGreat
open Go.RowKit

def insV (x : Uv) : List Uv → List Uv
  | [] => [x]
  | v :: r => if Dg.uOrd x.u v.u < 0 then x :: v :: r else v :: insV x r
theorem ups_insV (x : Uv) : ∀ q : List Uv, ups (insV x q) = Dg.ins x.u (ups q)
  | [] => rfl
  | v :: r => by
    show ups (insV x (v :: r)) = Dg.ins x.u (v.u :: ups r)
    unfold insV Dg.ins
    split
    · rfl
    · show v.u :: ups (insV x r) = _
      rw [ups_insV x r]
theorem ups_one (w : World) (x : Uv) : UpsAt (w.alloc (.cells #[.int .i64 x.u.id.a, .int .i64 x.u.id.n, x.p, x.s, x.t] 30)) (some ⟨w.heap.size, 0, none⟩) [x] := by
  refine .inr ⟨_, _, rfl, fun i hi => ?_⟩
  have e : i = 0 := by simpa using hi
  subst e
  have h := rl_new w (.cells #[.int .i64 x.u.id.a, .int .i64 x.u.id.n, x.p, x.s, x.t] 30)
  exact ⟨by rw [Lib.cell_of_heap h]; rfl, by rw [Lib.cell_of_heap h]; rfl, by rw [Lib.cell_of_heap h]; rfl, by rw [Lib.cell_of_heap h]; rfl, by rw [Lib.cell_of_heap h]; rfl⟩
theorem one_ok {w : World} {x : Uv} (h : UvOk w x) : ∀ y, y ∈ [x] → UvOk w y := fun y hy => by
  rw [List.mem_singleton] at hy
  rw [hy]
  exact h
theorem insV_perm (x : Uv) : ∀ q : List Uv, (insV x q).Perm (x :: q)
  | [] => .refl _
  | v :: r => by
    unfold insV
    split
    · exact .refl _
    · exact ((insV_perm x r).cons v).trans (List.Perm.swap x v r)
/-- What is done so far. -/
def InsI (x : Uv) (q : List Uv) (i : Nat) (p : Bool) (o : List Uv) : Prop := insV x q = o ++ (if p then q.drop i else insV x (q.drop i)) ∧ o.length ≤ i + 1
theorem InsI.past {x : Uv} {q o : List Uv} {i : Nat} (h : InsI x q i true o) (hi : i < q.length) : InsI x q (i + 1) true (o ++ [uvD q i]) := by
  refine ⟨?_, by rw [List.length_append]; have := h.2; simp; omega⟩
  rw [h.1, uvD_drop q i hi]
  simp
theorem InsI.put {x : Uv} {q o : List Uv} {i : Nat} (h : InsI x q i false o) (ho : o.length ≤ i) (hi : i < q.length) (hu : Dg.uOrd x.u (uvD q i).u < 0) : InsI x q (i + 1) true (o ++ [x] ++ [uvD q i]) := by
  refine ⟨?_, by simp; omega⟩
  rw [h.1, uvD_drop q i hi]
  simp [insV, hu]
theorem InsI.on {x : Uv} {q o : List Uv} {i : Nat} (h : InsI x q i false o) (hi : i < q.length) (hu : ¬ Dg.uOrd x.u (uvD q i).u < 0) : InsI x q (i + 1) false (o ++ [uvD q i]) := by
  refine ⟨?_, by rw [List.length_append]; have := h.2; simp; omega⟩
  rw [h.1, uvD_drop q i hi]
  simp [insV, hu]
theorem InsI.fin {x : Uv} {q o : List Uv} {i : Nat} {p : Bool} (h : InsI x q i p o) (hi : ¬ i < q.length) : insV x q = if p then o else o ++ [x] := by
  rw [h.1, List.drop_of_length_le (by omega)]
  cases p <;> simp [insV]
def insT (X b f n c i o : Nat) (ua un va vn r : Int) (tQ : Nat) (vQ : Value) (_ : World) : Prop :=
  match tQ with
  | 14 => vQ = .bool false
  | 15 => vQ = .bool true
  | 16 => vQ = .bool true
  | 17 => vQ = .pointer (some ⟨X, 0, none⟩)
  | 18 => vQ = .agg #[.int .i64 ua, .int .i64 un]
  | 19 => vQ = .slice (some ⟨b, f, none⟩) n c
  | 20 => vQ = .int .i64 i
  | 21 => vQ = .pointer (some ⟨b, o, none⟩)
  | 22 => vQ = .pointer (some ⟨b, o, none⟩)
  | 23 => vQ = .agg #[.int .i64 va, .int .i64 vn]
  | 24 => vQ = .int .i64 r
  | 25 => vQ = .bool (decide (r < 0))
  | 26 => vQ = .bool (decide (r < 0))
  | _ => True
theorem insT_mono (X b f n c i o : Nat) (ua un va vn r : Int) (tQ : Nat) (vQ : Value) (W W' : World) (_ : Below W.heap.size W W') (h : insT X b f n c i o ua un va vn r tQ vQ W) : insT X b f n c i o ua un va vn r tQ vQ W' := by
  revert h
  unfold insT
  split <;> (intro h; first | exact h)

set_option maxRecDepth 100000 in
set_option maxHeartbeats 4000000 in
theorem inOrder_any (q : List Uv) (vq : Value) (x : Uv) (w : World) (hV : UpsV w vq q) (hq : q.length ≤ 1000) (hok : ∀ x, x ∈ q → UvOk w x) (hx : UvOk w x) :
    Calls Tryz.prog 50 #[vq, uvVal x] w fun e w' => ∃ v', e = .returned v' ∧ URow w' w.heap.size v' (insV x q) ∧ Below w.heap.size w w' := by
  obtain ⟨i0, hi, hz0, hz1, hz2⟩ := info_parts up_info
  have HOK : Hid (∀ x, x ∈ q → UvOk w x) := hok
  obtain ⟨ao, cap, rfl, _, hA⟩ := hV
  have HA : Hid (UpsAt w ao q) := hA
  obtain ⟨a1, n1, d1, a2, n2, d2, a3, n3, d3, e1, e2, e3⟩ := hx.forms
  have HX : Hid (UvOk w x) := hx
  clear hx hok hA
  obtain ⟨⟨⟨ua, un⟩, ps, says, ts⟩, vp, vs, vt⟩ := x
  dsimp only at *
  subst e1 e2 e3
  have HB1 : Hid (Below w.heap.size w (w.alloc (.cells #[.int .i64 ua, .int .i64 un, .slice a1 n1 d1, .slice a2 n2 d2, .slice a3 n3 d3] 30))) := (Below.refl _ _).alloc (Nat.le_refl _) _
  have HH1 : Hid ((w.alloc (.cells #[.int .i64 ua, .int .i64 un, .slice a1 n1 d1, .slice a2 n2 d2, .slice a3 n3 d3] 30)).heap[w.heap.size]? = some (.cells #[.int .i64 ua, .int .i64 un, .slice a1 n1 d1, .slice a2 n2 d2, .slice a3 n3 d3] 30)) := rl_new w _
  go_enter Tryz.func50, Tryz.ntmps50
  go_upto_region 1 with fail
  generalize w.alloc (.cells #[.int .i64 ua, .int .i64 un, .slice a1 n1 d1, .slice a2 n2 d2, .slice a3 n3 d3] 30) = w1 at *
  have HBX : Hid (∀ z, Below w1.heap.size w1 z → z.cell? ⟨w.heap.size, 0, none⟩ = some (.int .i64 ua) ∧ z.cell? ⟨w.heap.size, 1, none⟩ = some (.int .i64 un) ∧ z.cell? ⟨w.heap.size, 2, none⟩ = some (.slice a1 n1 d1) ∧ z.cell? ⟨w.heap.size, 3, none⟩ = some (.slice a2 n2 d2) ∧ z.cell? ⟨w.heap.size, 4, none⟩ = some (.slice a3 n3 d3)) := fun z hz => by
    have hh1 := (hz.block _ (Array.getElem?_eq_some_iff.1 HH1.out).1).trans HH1.out
    exact ⟨by rw [Lib.cell_of_heap hh1]; rfl, by rw [Lib.cell_of_heap hh1]; rfl, by rw [Lib.cell_of_heap hh1]; rfl, by rw [Lib.cell_of_heap hh1]; rfl, by rw [Lib.cell_of_heap hh1]; rfl⟩
  have HT : Hid (∀ z, Below w1.heap.size w1 z → Below w.heap.size w z) := fun z hz => HB1.out.trans (hz.mono HB1.out.size)
  have hsz1 : w.heap.size ≤ w1.heap.size := HB1.out.size
  clear HH1
  go_wp2_with fail
  go_loopw [5, 6, 7] (fun ov pv iv wr => ∃ (i : Nat) (p : Bool) (o : List Uv), i ≤ q.length ∧ o.length ≤ i + 1 ∧ (p = false → o.length ≤ i) ∧ iv = .int .i64 i ∧ pv = .bool p ∧ Hid (InsI ⟨⟨⟨ua, un⟩, ps, says, ts⟩, .slice a1 n1 d1, .slice a2 n2 d2, .slice a3 n3 d3⟩ q i p o) ∧ URow wr w1.heap.size ov o ∧ Hid (Below w1.heap.size w1 wr)) (fun _ _ iv _ => q.length - (intOf iv).toNat)
  case atStart => exact ⟨0, false, [], Nat.zero_le _, by simp, (fun _ => by simp), rfl, rfl, ⟨rfl, by simp⟩, World.ownsRow_nil _ _ _ _, Below.refl _ _⟩
  case round =>
    obtain ⟨i, p, o, hi', hol, hop, rfl, rfl, HI, hrow, HG⟩ := hrel
    obtain ⟨av, cv, rfl⟩ := own_slice hrow
    have R0 : wr.ownsRow w1.heap.size 30 5 (.slice av o.length cv) o.length (o.map uvCells).flatten := hrow
    clear hrow
    by_cases hlt : i < q.length
    · have g1 : decide (i < q.length) = true := decide_eq_true hlt
      obtain ⟨b, off, rfl, p0, p1, p2, p3, p4⟩ := ups_at (HA.out.kc (Kc.below (HB1.out.trans ((Below.refl _ _).mono HB1.out.size)))) i hlt
      have hy := HOK.out _ (uvD_mem q i hlt)
      have HPA : Hid (p = true → InsI ⟨⟨⟨ua, un⟩, ps, says, ts⟩, .slice a1 n1 d1, .slice a2 n2 d2, .slice a3 n3 d3⟩ q (i + 1) true (o ++ [uvD q i])) := fun e => by subst e; exact HI.out.past hlt
      have HPU : Hid (p = false → Dg.uOrd ⟨⟨ua, un⟩, ps, says, ts⟩ (uvD q i).u < 0 → InsI ⟨⟨⟨ua, un⟩, ps, says, ts⟩, .slice a1 n1 d1, .slice a2 n2 d2, .slice a3 n3 d3⟩ q (i + 1) true (o ++ [⟨⟨⟨ua, un⟩, ps, says, ts⟩, .slice a1 n1 d1, .slice a2 n2 d2, .slice a3 n3 d3⟩] ++ [uvD q i])) := fun e h => by subst e; exact HI.out.put (hop rfl) hlt h
      have HPO : Hid (p = false → ¬ Dg.uOrd ⟨⟨ua, un⟩, ps, says, ts⟩ (uvD q i).u < 0 → InsI ⟨⟨⟨ua, un⟩, ps, says, ts⟩, .slice a1 n1 d1, .slice a2 n2 d2, .slice a3 n3 d3⟩ q (i + 1) false (o ++ [uvD q i])) := fun e h => by subst e; exact HI.out.on hlt h
      obtain ⟨b1, m1, f1, b2, m2, f2, b3, m3, f3, e1, e2, e3⟩ := hy.forms
      have HY : Hid (UvOk w (uvD q i)) := hy
      clear HI hy
      generalize uvD q i = y at *
      obtain ⟨⟨⟨va, vn⟩, ps2, says2, ts2⟩, vp, vs, vt⟩ := y
      dsimp only at *
      subst e1 e2 e3
      have HYC : Hid (∀ z, Below w1.heap.size w1 z → z.cell? ⟨b, off + i * 5, none⟩ = some (.int .i64 va) ∧ z.cell? ⟨b, off + i * 5 + 1, none⟩ = some (.int .i64 vn) ∧ z.cell? ⟨b, off + i * 5 + 2, none⟩ = some (.slice b1 m1 f1) ∧ z.cell? ⟨b, off + i * 5 + 3, none⟩ = some (.slice b2 m2 f2) ∧ z.cell? ⟨b, off + i * 5 + 4, none⟩ = some (.slice b3 m3 f3)) := fun z hz => ⟨cell_below hz p0, cell_below hz p1, cell_below hz p2, cell_below hz p3, cell_below hz p4⟩
      clear p0 p1 p2 p3 p4
      cases p
      · have HU : Hid (∀ z, Below wr.heap.size wr z → z.cell? ⟨w.heap.size, 0, none⟩ = some (.int .i64 ua) ∧ z.cell? ⟨w.heap.size, 1, none⟩ = some (.int .i64 un) ∧ z.cell? ⟨b, off + i * 5, none⟩ = some (.int .i64 va) ∧ z.cell? ⟨b, off + i * 5 + 1, none⟩ = some (.int .i64 vn)) := fun z hz => by
          have h1 := HG.out.trans (hz.mono HG.out.size)
          exact ⟨(HBX.out z h1).1, (HBX.out z h1).2.1, (HYC.out z h1).1, (HYC.out z h1).2.1⟩
        obtain ⟨r9, HR9⟩ : ∃ r, Hid (Wr.idOrd ⟨ua, un⟩ ⟨va, vn⟩ = r) := ⟨_, rfl⟩
        have HPU2 : Hid (r9 < 0 → InsI ⟨⟨⟨ua, un⟩, ps, says, ts⟩, .slice a1 n1 d1, .slice a2 n2 d2, .slice a3 n3 d3⟩ q (i + 1) true (o ++ [⟨⟨⟨ua, un⟩, ps, says, ts⟩, .slice a1 n1 d1, .slice a2 n2 d2, .slice a3 n3 d3⟩] ++ [⟨⟨⟨va, vn⟩, ps2, says2, ts2⟩, .slice b1 m1 f1, .slice b2 m2 f2, .slice b3 m3 f3⟩])) := fun h => HPU.out rfl (by show Wr.idOrd _ _ < 0; rw [HR9.out]; exact h)
        have HPO2 : Hid (¬ r9 < 0 → InsI ⟨⟨⟨ua, un⟩, ps, says, ts⟩, .slice a1 n1 d1, .slice a2 n2 d2, .slice a3 n3 d3⟩ q (i + 1) false (o ++ [⟨⟨⟨va, vn⟩, ps2, says2, ts2⟩, .slice b1 m1 f1, .slice b2 m2 f2, .slice b3 m3 f3⟩])) := fun h => HPO.out rfl (by show ¬ Wr.idOrd _ _ < 0; rw [HR9.out]; exact h)
        have hop2 := hop rfl
        clear HPA HPU HPO hop
        go_upto_region 6 with fail
        refine wp_region_tabA (insT w.heap.size b off q.length cap i (off + i * 5) ua un va vn r9) (by kernel_rfl) (by kernel_rfl) (insT_mono _ _ _ _ _ _ _ _ _ _ _ _) ?hop6 ?hend6
        case hop6 =>
          refine AllOps.cons (fun a y h => ?_) ?_
          · have e6 : a.eval (.tmp 6) = (.bool false : Value) := h.old 6 (by kernel_rfl)
            refine opOk_val (v := .bool false) (w' := y) (wanted_none rfl) ?_ (fun t ht => by cases ht; exact rfl) (Below.refl _ _)
            have ec : ∀ v, a.eval (.const v) = v := fun _ => rfl
            generalize a.eval = ev at *
            clear h
            go_simp
          refine AllOps.cons (fun a y h => ?_) ?_
          · have e14 : a.eval (.tmp 14) = (.bool false : Value) := h.of 14 (by kernel_rfl)
            refine opOk_val (v := .bool true) (w' := y) (wanted_none rfl) ?_ (fun t ht => by cases ht; exact rfl) (Below.refl _ _)
            have ec : ∀ v, a.eval (.const v) = v := fun _ => rfl
            generalize a.eval = ev at *
            clear h
            go_simp
          refine AllOps.cons (fun a y h => ?_) ?_
          · have e15 : a.eval (.tmp 15) = (.bool true : Value) := h.of 15 (by kernel_rfl)
            refine opOk_val (v := .bool true) (w' := y) (wanted_none rfl) ?_ (fun t ht => by cases ht; exact rfl) (Below.refl _ _)
            have ec : ∀ v, a.eval (.const v) = v := fun _ => rfl
            generalize a.eval = ev at *
            clear h
            go_simp
          refine AllOps.cons (fun a y h => ?_) ?_
          · have e3 : a.eval (.tmp 3) = (.pointer (some ⟨w.heap.size, 0, none⟩) : Value) := h.old 3 (by kernel_rfl)
            refine opOk_val (v := .pointer (some ⟨w.heap.size, 0, none⟩)) (w' := y) (wanted_some (j := 2) (t := 16) (b := true) rfl rfl rfl (h.of 16 (by kernel_rfl))) ?_ (fun t ht => by cases ht; exact rfl) (Below.refl _ _)
            have ec : ∀ v, a.eval (.const v) = v := fun _ => rfl
            generalize a.eval = ev at *
            clear h
            go_simp
          refine AllOps.cons (fun a y h => ?_) ?_
          · have e17 : a.eval (.tmp 17) = (.pointer (some ⟨w.heap.size, 0, none⟩) : Value) := h.of 17 (by kernel_rfl)
            obtain ⟨u0, u1, _⟩ := HU.out y h.below
            refine opOk_val (v := .agg #[.int .i64 ua, .int .i64 un]) (w' := y) (wanted_some (j := 2) (t := 16) (b := true) rfl rfl rfl (h.of 16 (by kernel_rfl))) ?_ (fun t ht => by cases ht; exact rfl) (Below.refl _ _)
            have ec : ∀ v, a.eval (.const v) = v := fun _ => rfl
            generalize a.eval = ev at *
            clear h
            go_simp
          refine AllOps.cons (fun a y h => ?_) ?_
          · have e0 : a.eval (.tmp 0) = (.slice (some ⟨b, off, none⟩) q.length cap : Value) := h.old 0 (by kernel_rfl)
            refine opOk_val (v := .slice (some ⟨b, off, none⟩) q.length cap) (w' := y) (wanted_some (j := 2) (t := 16) (b := true) rfl rfl rfl (h.of 16 (by kernel_rfl))) ?_ (fun t ht => by cases ht; exact rfl) (Below.refl _ _)
            have ec : ∀ v, a.eval (.const v) = v := fun _ => rfl
            generalize a.eval = ev at *
            clear h
            go_simp
          refine AllOps.cons (fun a y h => ?_) ?_
          · have e7 : a.eval (.tmp 7) = (.int .i64 i : Value) := h.old 7 (by kernel_rfl)
            refine opOk_val (v := .int .i64 i) (w' := y) (wanted_some (j := 2) (t := 16) (b := true) rfl rfl rfl (h.of 16 (by kernel_rfl))) ?_ (fun t ht => by cases ht; exact rfl) (Below.refl _ _)
            have ec : ∀ v, a.eval (.const v) = v := fun _ => rfl
            generalize a.eval = ev at *
            clear h
            go_simp
          refine AllOps.cons (fun a y h => ?_) ?_
          · have e19 : a.eval (.tmp 19) = (.slice (some ⟨b, off, none⟩) q.length cap : Value) := h.of 19 (by kernel_rfl)
            have e20 : a.eval (.tmp 20) = (.int .i64 i : Value) := h.of 20 (by kernel_rfl)
            refine opOk_val (v := .pointer (some ⟨b, off + i * 5, none⟩)) (w' := y) (wanted_some (j := 2) (t := 16) (b := true) rfl rfl rfl (h.of 16 (by kernel_rfl))) ?_ (fun t ht => by cases ht; exact rfl) (Below.refl _ _)
            have ec : ∀ v, a.eval (.const v) = v := fun _ => rfl
            generalize a.eval = ev at *
            clear h
            go_simp
          refine AllOps.cons (fun a y h => ?_) ?_
          · have e21 : a.eval (.tmp 21) = (.pointer (some ⟨b, off + i * 5, none⟩) : Value) := h.of 21 (by kernel_rfl)
            refine opOk_val (v := .pointer (some ⟨b, off + i * 5, none⟩)) (w' := y) (wanted_some (j := 2) (t := 16) (b := true) rfl rfl rfl (h.of 16 (by kernel_rfl))) ?_ (fun t ht => by cases ht; exact rfl) (Below.refl _ _)
            have ec : ∀ v, a.eval (.const v) = v := fun _ => rfl
            generalize a.eval = ev at *
            clear h
            go_simp
          refine AllOps.cons (fun a y h => ?_) ?_
          · have e22 : a.eval (.tmp 22) = (.pointer (some ⟨b, off + i * 5, none⟩) : Value) := h.of 22 (by kernel_rfl)
            obtain ⟨_, _, u0, u1⟩ := HU.out y h.below
            refine opOk_val (v := .agg #[.int .i64 va, .int .i64 vn]) (w' := y) (wanted_some (j := 2) (t := 16) (b := true) rfl rfl rfl (h.of 16 (by kernel_rfl))) ?_ (fun t ht => by cases ht; exact rfl) (Below.refl _ _)
            have ec : ∀ v, a.eval (.const v) = v := fun _ => rfl
            generalize a.eval = ev at *
            clear h
            go_simp
          refine AllOps.cons (fun a y h => ?_) ?_
          · have e18 : a.eval (.tmp 18) = (.agg #[.int .i64 ua, .int .i64 un] : Value) := h.of 18 (by kernel_rfl)
            have e23 : a.eval (.tmp 23) = (.agg #[.int .i64 va, .int .i64 vn] : Value) := h.of 23 (by kernel_rfl)
            refine opOk_call (f := 40) (args := #[.agg #[.int .i64 ua, .int .i64 un], .agg #[.int .i64 va, .int .i64 vn]]) (wanted_some (j := 2) (t := 16) (b := true) rfl rfl rfl (h.of 16 (by kernel_rfl))) ?_ ?_
            · have ec : ∀ v, a.eval (.const v) = v := fun _ => rfl
              have ef : ∀ f, a.eval (.func f) = .func (.func f) #[] #[] := fun _ => rfl
              generalize a.eval = ev at *
              clear h
              go_simp
            · refine (IdOrder_any ⟨ua, un⟩ ⟨va, vn⟩ y).mono ?_
              rintro e w' ⟨rfl, hb⟩
              exact ⟨_, rfl, fun t ht => by cases ht; show Value.int .i64 _ = Value.int .i64 r9; rw [HR9.out], hb.below⟩
          refine AllOps.cons (fun a y h => ?_) ?_
          · have e24 : a.eval (.tmp 24) = (.int .i64 r9 : Value) := h.of 24 (by kernel_rfl)
            refine opOk_val (v := .bool (decide (r9 < 0))) (w' := y) (wanted_some (j := 2) (t := 16) (b := true) rfl rfl rfl (h.of 16 (by kernel_rfl))) ?_ (fun t ht => by cases ht; exact rfl) (Below.refl _ _)
            have ec : ∀ v, a.eval (.const v) = v := fun _ => rfl
            generalize a.eval = ev at *
            clear h
            go_simp
          refine AllOps.cons (fun a y h => ?_) ?_
          · have e16 : a.eval (.tmp 16) = (.bool true : Value) := h.of 16 (by kernel_rfl)
            have e25 : a.eval (.tmp 25) = (.bool (decide (r9 < 0)) : Value) := h.of 25 (by kernel_rfl)
            refine opOk_val (v := .bool (decide (r9 < 0))) (w' := y) (wanted_none rfl) ?_ (fun t ht => by cases ht; exact rfl) (Below.refl _ _)
            have ec : ∀ v, a.eval (.const v) = v := fun _ => rfl
            generalize a.eval = ev at *
            clear h
            go_simp
          exact AllOps.nil
        rintro ⟨tm, df⟩ wE hbE hdE hszE hstE hTE
        have k26 : tm.getD 26 undef = .bool (decide (r9 < 0)) := ends_at (T := insT w.heap.size b off q.length cap i (off + i * 5) ua un va vn r9) (w := wE) (a := ⟨tm, df⟩) (t := 26) hTE (by kernel_rfl)
        obtain rfl : df = [] := hdE
        clear hTE
        have hF8 := tmps_fold [14, 15, 16, 17, 18, 19, 20, 21, 22, 23, 24, 25, 26] tm _ hszE hstE
        clear hszE hstE
        simp only [List.foldl_cons, List.foldl_nil, k26] at hF8
        clear k26
        generalize tm.getD 14 undef = x14 at hF8
        generalize tm.getD 15 undef = x15 at hF8
        generalize tm.getD 16 undef = x16 at hF8
        generalize tm.getD 17 undef = x17 at hF8
        generalize tm.getD 18 undef = x18 at hF8
        generalize tm.getD 19 undef = x19 at hF8
        generalize tm.getD 20 undef = x20 at hF8
        generalize tm.getD 21 undef = x21 at hF8
        generalize tm.getD 22 undef = x22 at hF8
        generalize tm.getD 23 undef = x23 at hF8
        generalize tm.getD 24 undef = x24 at hF8
        generalize tm.getD 25 undef = x25 at hF8
        simp only [List.setIfInBounds_toArray, List.set_cons_zero, List.set_cons_succ] at hF8
        subst hF8
        have HGE : Hid (Below w1.heap.size w1 wE) := HG.out.trans (hbE.mono HG.out.size)
        have RE := ownsRow_below R0 hbE
        clear hbE HU HG R0 HR9
        obtain ⟨s0, s1, s2, s3, s4⟩ := HBX.out wE HGE.out
        by_cases hr : r9 < 0
        · have g5 : decide (r9 < 0) = true := decide_eq_true hr
          have HE : Hid _ := HPU2.out hr
          clear HPU2 HPO2
          go_upto_region 8 with (at_builtin; refine wp_append_ups (W := w) rfl _ _ rfl w1.heap.size (HGE.out.alloc HGE.out.size _).size _ o rfl (RE.alloc _) (some ⟨wE.heap.size, 0, none⟩) 1 [(⟨⟨⟨ua, un⟩, ps, says, ts⟩, .slice a1 n1 d1, .slice a2 n2 d2, .slice a3 n3 d3⟩ : Uv)] rfl (fun h => by cases h) (ups_one _ _) (one_ok HX.out) (by rw [List.length_singleton]; (try rw [List.length_append, List.length_singleton]); omega) ?_; intro vs8 z8 hown8 hgrow8)
          have hB8 : Below w1.heap.size w1 z8 := (HGE.out.alloc HGE.out.size _).grown hgrow8 (HGE.out.alloc HGE.out.size _).size (fun j e => (RE.lt j e).1)
          obtain ⟨ao8, cap8, rfl⟩ := own_slice hown8
          have R8 : z8.ownsRow w1.heap.size 30 5 (.slice ao8 (o ++ [(⟨⟨⟨ua, un⟩, ps, says, ts⟩, .slice a1 n1 d1, .slice a2 n2 d2, .slice a3 n3 d3⟩ : Uv)]).length cap8) (o ++ [(⟨⟨⟨ua, un⟩, ps, says, ts⟩, .slice a1 n1 d1, .slice a2 n2 d2, .slice a3 n3 d3⟩ : Uv)]).length ((o ++ [(⟨⟨⟨ua, un⟩, ps, says, ts⟩, .slice a1 n1 d1, .slice a2 n2 d2, .slice a3 n3 d3⟩ : Uv)]).map uvCells).flatten := hown8
          have B8 : Hid (Below w1.heap.size w1 z8) := hB8
          clear hB8 hown8 hgrow8
          obtain ⟨t0, t1, t2, t3, t4⟩ := HYC.out z8 B8.out
          clear s0 s1 s2 s3 s4 RE HGE
          go_wp2_with (at_builtin; refine wp_append_ups (W := w) rfl _ _ rfl w1.heap.size (B8.out.alloc B8.out.size _).size _ (o ++ [(⟨⟨⟨ua, un⟩, ps, says, ts⟩, .slice a1 n1 d1, .slice a2 n2 d2, .slice a3 n3 d3⟩ : Uv)]) rfl (R8.alloc _) (some ⟨z8.heap.size, 0, none⟩) 1 [(⟨⟨⟨va, vn⟩, ps2, says2, ts2⟩, .slice b1 m1 f1, .slice b2 m2 f2, .slice b3 m3 f3⟩ : Uv)] rfl (fun h => by cases h) (ups_one _ _) (one_ok HY.out) (by rw [List.length_singleton]; (try rw [List.length_append, List.length_singleton]); omega) ?_; intro vs9 z9 hown9 hgrow9)
          have hB9 : Below w1.heap.size w1 z9 := (B8.out.alloc B8.out.size _).grown hgrow9 (B8.out.alloc B8.out.size _).size (fun j e => (R8.lt j e).1)
          obtain ⟨ao9, cap9, rfl⟩ := own_slice hown9
          have R9 : z9.ownsRow w1.heap.size 30 5 (.slice ao9 ((o ++ [(⟨⟨⟨ua, un⟩, ps, says, ts⟩, .slice a1 n1 d1, .slice a2 n2 d2, .slice a3 n3 d3⟩ : Uv)]) ++ [(⟨⟨⟨va, vn⟩, ps2, says2, ts2⟩, .slice b1 m1 f1, .slice b2 m2 f2, .slice b3 m3 f3⟩ : Uv)]).length cap9) ((o ++ [(⟨⟨⟨ua, un⟩, ps, says, ts⟩, .slice a1 n1 d1, .slice a2 n2 d2, .slice a3 n3 d3⟩ : Uv)]) ++ [(⟨⟨⟨va, vn⟩, ps2, says2, ts2⟩, .slice b1 m1 f1, .slice b2 m2 f2, .slice b3 m3 f3⟩ : Uv)]).length (((o ++ [(⟨⟨⟨ua, un⟩, ps, says, ts⟩, .slice a1 n1 d1, .slice a2 n2 d2, .slice a3 n3 d3⟩ : Uv)]) ++ [(⟨⟨⟨va, vn⟩, ps2, says2, ts2⟩, .slice b1 m1 f1, .slice b2 m2 f2, .slice b3 m3 f3⟩ : Uv)]).map uvCells).flatten := hown9
          have B9 : Hid (Below w1.heap.size w1 z9) := hB9
          clear hB9 hown9 hgrow9
          have RF : Hid (URow z9 w1.heap.size (.slice ao9 (o ++ [(⟨⟨⟨ua, un⟩, ps, says, ts⟩, .slice a1 n1 d1, .slice a2 n2 d2, .slice a3 n3 d3⟩ : Uv)] ++ [(⟨⟨⟨va, vn⟩, ps2, says2, ts2⟩, .slice b1 m1 f1, .slice b2 m2 f2, .slice b3 m3 f3⟩ : Uv)]).length cap9) (o ++ [(⟨⟨⟨ua, un⟩, ps, says, ts⟩, .slice a1 n1 d1, .slice a2 n2 d2, .slice a3 n3 d3⟩ : Uv)] ++ [(⟨⟨⟨va, vn⟩, ps2, says2, ts2⟩, .slice b1 m1 f1, .slice b2 m2 f2, .slice b3 m3 f3⟩ : Uv)])) := R9
          clear R9 R8 B8 t0 t1 t2 t3 t4
          go_wp2_with fail
          go_roundw
          case rel => exact ⟨i + 1, true, _, hlt, by simp; omega, (fun e => by cases e), by go_num, rfl, HE.out, RF.out, B9.out⟩
          case measure => simp [intOf]; omega
        · have g5 : decide (r9 < 0) = false := decide_eq_false hr
          have HE : Hid _ := HPO2.out hr
          clear HPU2 HPO2 s0 s1 s2 s3 s4
          obtain ⟨t0, t1, t2, t3, t4⟩ := HYC.out wE HGE.out
          go_wp2_with (at_builtin; refine wp_append_ups (W := w) rfl _ _ rfl w1.heap.size (HGE.out.alloc HGE.out.size _).size _ o rfl (RE.alloc _) (some ⟨wE.heap.size, 0, none⟩) 1 [(⟨⟨⟨va, vn⟩, ps2, says2, ts2⟩, .slice b1 m1 f1, .slice b2 m2 f2, .slice b3 m3 f3⟩ : Uv)] rfl (fun h => by cases h) (ups_one _ _) (one_ok HY.out) (by rw [List.length_singleton]; (try rw [List.length_append, List.length_singleton]); omega) ?_; intro vs9 z9 hown9 hgrow9)
          have hB9 : Below w1.heap.size w1 z9 := (HGE.out.alloc HGE.out.size _).grown hgrow9 (HGE.out.alloc HGE.out.size _).size (fun j e => (RE.lt j e).1)
          obtain ⟨ao9, cap9, rfl⟩ := own_slice hown9
          have R9 : z9.ownsRow w1.heap.size 30 5 (.slice ao9 (o ++ [(⟨⟨⟨va, vn⟩, ps2, says2, ts2⟩, .slice b1 m1 f1, .slice b2 m2 f2, .slice b3 m3 f3⟩ : Uv)]).length cap9) (o ++ [(⟨⟨⟨va, vn⟩, ps2, says2, ts2⟩, .slice b1 m1 f1, .slice b2 m2 f2, .slice b3 m3 f3⟩ : Uv)]).length ((o ++ [(⟨⟨⟨va, vn⟩, ps2, says2, ts2⟩, .slice b1 m1 f1, .slice b2 m2 f2, .slice b3 m3 f3⟩ : Uv)]).map uvCells).flatten := hown9
          have B9 : Hid (Below w1.heap.size w1 z9) := hB9
          clear hB9 hown9 hgrow9
          have RF : Hid (URow z9 w1.heap.size (.slice ao9 (o ++ [(⟨⟨⟨va, vn⟩, ps2, says2, ts2⟩, .slice b1 m1 f1, .slice b2 m2 f2, .slice b3 m3 f3⟩ : Uv)]).length cap9) (o ++ [(⟨⟨⟨va, vn⟩, ps2, says2, ts2⟩, .slice b1 m1 f1, .slice b2 m2 f2, .slice b3 m3 f3⟩ : Uv)])) := R9
          clear R9 RE HGE t0 t1 t2 t3 t4
          go_wp2_with fail
          go_roundw
          case rel => exact ⟨i + 1, false, _, hlt, by simp; omega, (fun _ => by simp; omega), by go_num, rfl, HE.out, RF.out, B9.out⟩
          case measure => simp [intOf]; omega
      · have HE : Hid _ := HPA.out rfl
        clear HPA HPU HPO hop
        go_upto_region 6 with fail
        go_quiet (fail)
        have HGE : Hid (Below w1.heap.size w1 (wr.drewN nq)) := HG.out.trans ((blw_drewN wr _).mono HG.out.size)
        have RE := ownsRow_below R0 (blw_drewN wr nq)
        clear HG R0
        generalize wr.drewN nq = wE at *
        obtain ⟨t0, t1, t2, t3, t4⟩ := HYC.out wE HGE.out
        go_wp2_with (at_builtin; refine wp_append_ups (W := w) rfl _ _ rfl w1.heap.size (HGE.out.alloc HGE.out.size _).size _ o rfl (RE.alloc _) (some ⟨wE.heap.size, 0, none⟩) 1 [(⟨⟨⟨va, vn⟩, ps2, says2, ts2⟩, .slice b1 m1 f1, .slice b2 m2 f2, .slice b3 m3 f3⟩ : Uv)] rfl (fun h => by cases h) (ups_one _ _) (one_ok HY.out) (by rw [List.length_singleton]; (try rw [List.length_append, List.length_singleton]); omega) ?_; intro vs9 z9 hown9 hgrow9)
        have hB9 : Below w1.heap.size w1 z9 := (HGE.out.alloc HGE.out.size _).grown hgrow9 (HGE.out.alloc HGE.out.size _).size (fun j e => (RE.lt j e).1)
        obtain ⟨ao9, cap9, rfl⟩ := own_slice hown9
        have R9 : z9.ownsRow w1.heap.size 30 5 (.slice ao9 (o ++ [(⟨⟨⟨va, vn⟩, ps2, says2, ts2⟩, .slice b1 m1 f1, .slice b2 m2 f2, .slice b3 m3 f3⟩ : Uv)]).length cap9) (o ++ [(⟨⟨⟨va, vn⟩, ps2, says2, ts2⟩, .slice b1 m1 f1, .slice b2 m2 f2, .slice b3 m3 f3⟩ : Uv)]).length ((o ++ [(⟨⟨⟨va, vn⟩, ps2, says2, ts2⟩, .slice b1 m1 f1, .slice b2 m2 f2, .slice b3 m3 f3⟩ : Uv)]).map uvCells).flatten := hown9
        have B9 : Hid (Below w1.heap.size w1 z9) := hB9
        clear hB9 hown9 hgrow9
        have RF : Hid (URow z9 w1.heap.size (.slice ao9 (o ++ [(⟨⟨⟨va, vn⟩, ps2, says2, ts2⟩, .slice b1 m1 f1, .slice b2 m2 f2, .slice b3 m3 f3⟩ : Uv)]).length cap9) (o ++ [(⟨⟨⟨va, vn⟩, ps2, says2, ts2⟩, .slice b1 m1 f1, .slice b2 m2 f2, .slice b3 m3 f3⟩ : Uv)])) := R9
        clear R9 RE HGE t0 t1 t2 t3 t4
        go_wp2_with fail
        go_roundw
        case rel => exact ⟨i + 1, true, _, hlt, by simp; omega, (fun e => by cases e), by go_num, rfl, HE.out, RF.out, B9.out⟩
        case measure => simp [intOf]; omega
    · have g1 : decide (i < q.length) = false := decide_eq_false hlt
      have HF : Hid (insV ⟨⟨⟨ua, un⟩, ps, says, ts⟩, .slice a1 n1 d1, .slice a2 n2 d2, .slice a3 n3 d3⟩ q = if p then o else o ++ [⟨⟨⟨ua, un⟩, ps, says, ts⟩, .slice a1 n1 d1, .slice a2 n2 d2, .slice a3 n3 d3⟩]) := HI.out.fin hlt
      clear HI
      cases p
      · have HF2 : Hid (insV ⟨⟨⟨ua, un⟩, ps, says, ts⟩, .slice a1 n1 d1, .slice a2 n2 d2, .slice a3 n3 d3⟩ q = o ++ [⟨⟨⟨ua, un⟩, ps, says, ts⟩, .slice a1 n1 d1, .slice a2 n2 d2, .slice a3 n3 d3⟩]) := HF.out
        obtain ⟨s0, s1, s2, s3, s4⟩ := HBX.out wr HG.out
        go_wp2_with (at_builtin; refine wp_append_ups (W := w) rfl _ _ rfl w1.heap.size (HG.out.alloc HG.out.size _).size _ o rfl (R0.alloc _) (some ⟨wr.heap.size, 0, none⟩) 1 [(⟨⟨⟨ua, un⟩, ps, says, ts⟩, .slice a1 n1 d1, .slice a2 n2 d2, .slice a3 n3 d3⟩ : Uv)] rfl (fun h => by cases h) (ups_one _ _) (one_ok HX.out) (by rw [List.length_singleton]; (try rw [List.length_append, List.length_singleton]); omega) ?_; intro vs9 z9 hown9 hgrow9)
        have hB9 : Below w1.heap.size w1 z9 := (HG.out.alloc HG.out.size _).grown hgrow9 (HG.out.alloc HG.out.size _).size (fun j e => (R0.lt j e).1)
        obtain ⟨ao9, cap9, rfl⟩ := own_slice hown9
        have R9 : z9.ownsRow w1.heap.size 30 5 (.slice ao9 (o ++ [(⟨⟨⟨ua, un⟩, ps, says, ts⟩, .slice a1 n1 d1, .slice a2 n2 d2, .slice a3 n3 d3⟩ : Uv)]).length cap9) (o ++ [(⟨⟨⟨ua, un⟩, ps, says, ts⟩, .slice a1 n1 d1, .slice a2 n2 d2, .slice a3 n3 d3⟩ : Uv)]).length ((o ++ [(⟨⟨⟨ua, un⟩, ps, says, ts⟩, .slice a1 n1 d1, .slice a2 n2 d2, .slice a3 n3 d3⟩ : Uv)]).map uvCells).flatten := hown9
        have B9 : Hid (Below w1.heap.size w1 z9) := hB9
        clear hB9 hown9 hgrow9
        have RF : Hid (URow z9 w.heap.size (.slice ao9 (o ++ [(⟨⟨⟨ua, un⟩, ps, says, ts⟩, .slice a1 n1 d1, .slice a2 n2 d2, .slice a3 n3 d3⟩ : Uv)]).length cap9) (insV ⟨⟨⟨ua, un⟩, ps, says, ts⟩, .slice a1 n1 d1, .slice a2 n2 d2, .slice a3 n3 d3⟩ q)) := by
          show URow _ _ _ _
          rw [HF2.out]
          exact rl_own_le R9 hsz1
        clear R9 R0 HG s0 s1 s2 s3 s4
        go_wp2_with fail
        go_ret
        exact ⟨_, rfl, RF.out, HT.out _ B9.out⟩
      · have HF2 : Hid (insV ⟨⟨⟨ua, un⟩, ps, says, ts⟩, .slice a1 n1 d1, .slice a2 n2 d2, .slice a3 n3 d3⟩ q = o) := HF.out
        have RF : Hid (URow wr w.heap.size (.slice av o.length cv) (insV ⟨⟨⟨ua, un⟩, ps, says, ts⟩, .slice a1 n1 d1, .slice a2 n2 d2, .slice a3 n3 d3⟩ q)) := by
          show URow _ _ _ _
          rw [HF2.out]
          exact rl_own_le R0 hsz1
        clear R0
        go_wp2_with fail
        go_ret
        exact ⟨_, rfl, RF.out, HT.out _ HG.out⟩
end Go.Proofs.YtmfaodapofamfaaGreat

/- What the document's AddOf does, plain; and a box that is written. -/
namespace Go.Proofs.YtmfaodapofamfaaGreat
open Go.RowKit

namespace Dg
open Wr
def put (c : List Up) (x : Up) : List Up := ins x c
end Dg
/-- What one round has done so far. -/
structure PassJ (c q : List Uv) (k : Nat) (c' l' : List Uv) (mv : Bool) : Prop where
  pass : Dg.pass Dg.put (ups c) (ups q) = ((Dg.pass Dg.put (ups c') (ups (q.drop k))).1, ups l' ++ (Dg.pass Dg.put (ups c') (ups (q.drop k))).2)
  perm : (c' ++ l' ++ q.drop k).Perm (c ++ q)
  no : mv = false → l'.length = k
  yes : mv = true → l'.length < k
theorem PassJ.start (c q : List Uv) : PassJ c q 0 c [] false := ⟨rfl, by simp, fun _ => rfl, fun h => by cases h⟩
theorem PassJ.le {c q c' l' : List Uv} {k : Nat} {mv : Bool} (h : PassJ c q k c' l' mv) : l'.length ≤ k := by
  cases mv with
  | false => exact Nat.le_of_eq (h.no rfl)
  | true => exact Nat.le_of_lt (h.yes rfl)
theorem PassJ.move {c q c' l' : List Uv} {k : Nat} {mv : Bool} (h : PassJ c q k c' l' mv) (hk : k < q.length) (hc : Dg.carry (ups c') (uvD q k).u = true) : PassJ c q (k + 1) (insV (uvD q k) c') l' true := by
  refine ⟨?_, ?_, (fun e => by cases e), fun _ => by have := h.le; omega⟩
  · rw [h.pass, uvD_drop q k hk]
    have e : ups (uvD q k :: q.drop (k + 1)) = (uvD q k).u :: ups (q.drop (k + 1)) := rfl
    rw [e, Dg.pass_yes hc, ups_insV]
    rfl
  · refine List.Perm.trans ?_ h.perm
    rw [uvD_drop q k hk]
    generalize uvD q k = x
    generalize q.drop (k + 1) = r
    rw [List.append_assoc, List.append_assoc]
    refine ((insV_perm x c').append_right (l' ++ r)).trans ?_
    refine List.Perm.trans ?_ (List.Perm.append_left c' (List.perm_middle (a := x) (l₁ := l') (l₂ := r)).symm)
    exact (List.perm_middle (a := x) (l₁ := c') (l₂ := l' ++ r)).symm
theorem PassJ.stay {c q c' l' : List Uv} {k : Nat} {mv : Bool} (h : PassJ c q k c' l' mv) (hk : k < q.length) (hc : Dg.carry (ups c') (uvD q k).u = false) : PassJ c q (k + 1) c' (l' ++ [uvD q k]) mv := by
  refine ⟨?_, ?_, fun e => by rw [List.length_append, h.no e]; rfl, fun e => by rw [List.length_append]; have := h.yes e; simp; omega⟩
  · rw [h.pass, uvD_drop q k hk]
    have e : ups (uvD q k :: q.drop (k + 1)) = (uvD q k).u :: ups (q.drop (k + 1)) := rfl
    rw [e, Dg.pass_no hc, ups_append, List.append_assoc]
    rfl
  · refine List.Perm.trans ?_ h.perm
    rw [uvD_drop q k hk]
    simp only [List.append_assoc, List.cons_append, List.nil_append]
    exact List.Perm.refl _
/-- What stands between two rounds. -/
structure AddJ (h0 q0 c q : List Uv) (mv : Bool) : Prop where
  set : Dg.settle Dg.put (ups h0) (ups q0) = if mv then Dg.settle Dg.put (ups c) (ups q) else (ups c, ups q)
  perm : (c ++ q).Perm (h0 ++ q0)
theorem PassJ.fin {h0 q0 c q c' l' : List Uv} {k : Nat} {mv : Bool} (ha : AddJ h0 q0 c q true) (h : PassJ c q k c' l' mv) (hk : ¬ k < q.length) (hk2 : k ≤ q.length) : AddJ h0 q0 c' l' mv ∧ (mv = true → l'.length < q.length) ∧ l'.length ≤ q.length := by
  have e : q.drop k = [] := List.drop_of_length_le (by omega)
  have h1 := h.pass
  have h2 := h.perm
  rw [e] at h1 h2
  rw [List.append_nil] at h2
  have h3 : Dg.pass Dg.put (ups c) (ups q) = (ups c', ups l') := by
    rw [h1]
    show (ups c', ups l' ++ []) = _
    rw [List.append_nil]
  refine ⟨⟨?_, h2.trans ha.perm⟩, fun e => by have := h.yes e; omega, by have := h.le; omega⟩
  have h4 : Dg.settle Dg.put (ups h0) (ups q0) = Dg.settle Dg.put (ups c) (ups q) := ha.set
  cases mv with
  | false =>
    have h5 := h.no rfl
    rw [h4, Dg.settle_end (by rw [h3]; show (ups l').length = _; rw [ups_length, ups_length]; omega), h3]
    rfl
  | true =>
    have h5 := h.yes rfl
    rw [h4, Dg.settle_on (by rw [h3]; show ¬ (ups l').length = _; rw [ups_length, ups_length]; omega), h3]
    rfl
/-- What AddOf answers. -/
def AddR (hq wq : List Uv) (x : Uv) (c l : List Uv) (b : Bool) : Prop :=
  (Dg.hasU (ups hq ++ ups wq) x.u.id = true ∧ b = true ∧ c = hq ∧ l = wq) ∨
  (Dg.hasU (ups hq ++ ups wq) x.u.id = false ∧ 200 ≤ hq.length + wq.length ∧ b = false ∧ c = [] ∧ l = []) ∨
  (Dg.hasU (ups hq ++ ups wq) x.u.id = false ∧ hq.length + wq.length < 200 ∧ b = true ∧ Dg.settle Dg.put (ups hq) (Dg.ins x.u (ups wq)) = (ups c, ups l))
/-- All but two blocks stand. -/
def Kb (g r : Nat) (w z : World) : Prop := w.heap.size ≤ z.heap.size ∧ ∀ j, j < w.heap.size → j ≠ g → j ≠ r → z.heap[j]? = w.heap[j]?
theorem Kb.refl (g r : Nat) (w : World) : Kb g r w w := ⟨Nat.le_refl _, fun _ _ _ _ => rfl⟩
theorem Kb.trans {g r : Nat} {a b c : World} (h : Kb g r a b) (k : Kb g r b c) : Kb g r a c := ⟨Nat.le_trans h.1 k.1, fun j hj h1 h2 => (k.2 j (Nat.lt_of_lt_of_le hj h.1) h1 h2).trans (h.2 j hj h1 h2)⟩
theorem Kb.left {g r : Nat} {w z : World} (h : w.grownBy z (some g)) : Kb g r w z := ⟨h.size, fun j hj h1 _ => h.block j hj (fun e => h1 (by injection e))⟩
theorem Kb.right {g r : Nat} {w z : World} (h : w.grownBy z (some r)) : Kb g r w z := ⟨h.size, fun j hj _ h2 => h.block j hj (fun e => h2 (by injection e))⟩
theorem Kb.below {g r : Nat} {w z : World} (h : Below w.heap.size w z) : Kb g r w z := ⟨h.size, fun j hj _ _ => h.block j hj⟩
/-- A row that stands where the boxes g and r are written. -/
def RowS (g r : Nat) (wr : World) (v : Value) (c : List Uv) : Prop := ∀ z, Kb g r wr z → UpsV z v c
theorem RowS.here {g r : Nat} {wr : World} {v : Value} {c : List Uv} (h : RowS g r wr v c) : UpsV wr v c := h wr (Kb.refl _ _ _)
theorem RowS.on {g r : Nat} {wr z : World} {v : Value} {c : List Uv} (h : RowS g r wr v c) (hg : Kb g r wr z) : RowS g r z v c := fun y hy => h y (hg.trans hy)
theorem rowS_old {w wr : World} {g r : Nat} {v : Value} {c : List Uv} (h : UpsV w v c) (hb : Below w.heap.size w wr) (hg : w.heap.size ≤ g) (hr : w.heap.size ≤ r) : RowS g r wr v c := fun z hz => by
  refine h.kc (fun b o u e => ?_)
  have hlt := cell_lt e
  rw [cell_heap ((hz.2 b (Nat.lt_of_lt_of_le hlt hb.size) (by omega) (by omega)).trans (hb.block b hlt))]
  exact e
theorem rowS_own {wr : World} {B g r : Nat} {v : Value} {c : List Uv} {a a2 : Array Value} (h : URow wr B v c) (hg : wr.heap[g]? = some (.cells a 24)) (hr : wr.heap[r]? = some (.cells a2 24)) : RowS g r wr v c := fun z hz => by
  refine own_ups (B := B) ⟨h.1, ?_⟩
  rcases h.2 with e | ⟨k, cap, cur, e, hB, hk, hrest⟩
  · exact .inl e
  · have ne : ∀ (j : Nat) (u : Array Value), wr.heap[j]? = some (.cells u 24) → k ≠ j := fun j u hj e2 => by
      subst e2
      rw [hk] at hj
      injection hj with hj
      injection hj with _ h2
      cases h2
    exact .inr ⟨k, cap, cur, e, hB, (hz.2 k (Array.getElem?_eq_some_iff.1 hk).1 (ne g a hg) (ne r a2 hr)).trans hk, hrest⟩
theorem own_first {w : World} {B : Nat} {v : Value} {c : List Uv} (h : URow w B v c) (hc : c ≠ []) : ∃ k, v.ownBlock = some k ∧ w.cell? ⟨k, 0, none⟩ = some (.int .i64 (uvD c 0).u.id.a) ∧ w.cell? ⟨k, 1, none⟩ = some (.int .i64 (uvD c 0).u.id.n) := by
  have hl : 0 < c.length := List.length_pos_iff.mpr hc
  obtain ⟨ao, cap, e, _, hA⟩ := own_ups h
  rcases h.2 with ⟨_, e2⟩ | ⟨k, cap2, cur, e2, _, _, _⟩
  · omega
  · rw [e2] at e
    injection e with e3 _ _
    subst e3
    obtain ⟨b, off, e4, h0, h1, _⟩ := ups_at hA 0 hl
    injection e4 with e5
    injection e5 with e6 e7 _
    subst e6 e7
    exact ⟨k, by rw [e2]; rfl, h0, h1⟩
theorem own_apart {w : World} {B B' : Nat} {v v' : Value} {c l : List Uv} (h : URow w B v c) (h' : URow w B' v' l) (hc : c ≠ []) (hl : l ≠ []) (hn : ((ups (c ++ l)).map Wr.Up.id).Nodup) : v.ownBlock ≠ v'.ownBlock := by
  obtain ⟨k, e1, a0, a1⟩ := own_first h hc
  obtain ⟨k', e2, b0, b1⟩ := own_first h' hl
  intro e
  rw [e1, e2] at e
  injection e with e
  subst e
  rw [a0] at b0
  rw [a1] at b1
  injection b0 with b0
  injection b0 with _ b0
  injection b1 with b1
  injection b1 with _ b1
  rw [ups_append, List.map_append, List.nodup_append] at hn
  have m1 : (uvD c 0).u.id ∈ (ups c).map Wr.Up.id := List.mem_map.mpr ⟨_, List.mem_map.mpr ⟨_, uvD_mem c 0 (List.length_pos_iff.mpr hc), rfl⟩, rfl⟩
  have m2 : (uvD l 0).u.id ∈ (ups l).map Wr.Up.id := List.mem_map.mpr ⟨_, List.mem_map.mpr ⟨_, uvD_mem l 0 (List.length_pos_iff.mpr hl), rfl⟩, rfl⟩
  refine hn.2.2 _ m1 _ m2 ?_
  generalize (uvD c 0).u.id = x at *
  generalize (uvD l 0).u.id = y at *
  obtain ⟨xa, xn⟩ := x
  obtain ⟨ya, yn⟩ := y
  dsimp only at b0 b1
  rw [b0, b1]
/-- Has, while others are put behind another row. -/
def HasS (g r : Nat) (wO wr : World) (v : Value) (c : List Uv) : Prop := RowS g r wO v c ∨ (c ≠ [] ∧ URow wr wO.heap.size v c)
theorem HasS.row {g r : Nat} {wO wr : World} {v : Value} {c : List Uv} {a a2 : Array Value} (h : HasS g r wO wr v c) (hk : Kb g r wO wr) (hg : wr.heap[g]? = some (.cells a 24)) (hr : wr.heap[r]? = some (.cells a2 24)) : RowS g r wr v c := by
  rcases h with h | ⟨_, h⟩
  · exact h.on hk
  · exact rowS_own h hg hr
theorem HasS.on {g r : Nat} {wO wr z : World} {v : Value} {c : List Uv} (h : HasS g r wO wr v c) (hb : Below wr.heap.size wr z) : HasS g r wO z v c := by
  rcases h with h | ⟨h1, h⟩
  · exact .inl h
  · exact .inr ⟨h1, ownsRow_below h hb⟩
theorem HasS.app {g r B : Nat} {wO wr z : World} {v lv : Value} {c l : List Uv} (h : HasS g r wO wr v c) (hrow : URow wr B lv l) (hnil : l = [] → lv = .slice none 0 0) (hg : wr.grownBy z lv.ownBlock) (hn : ((ups (c ++ l)).map Wr.Up.id).Nodup) : HasS g r wO z v c := by
  rcases h with h | ⟨h1, h⟩
  · exact .inl h
  · refine .inr ⟨h1, h.kept hg (.inr ?_)⟩
    by_cases hl : l = []
    · rw [hnil hl]
      obtain ⟨k, e, _⟩ := own_first h h1
      rw [e]
      exact fun e2 => by cases e2
    · exact own_apart h hrow h1 hl hn
theorem Kb.app {g r : Nat} {wO wr z : World} {o : Option Nat} (h : Kb g r wO wr) (hg : wr.grownBy z o) (ho : ∀ j, o = some j → wO.heap.size ≤ j) : Kb g r wO z :=
  ⟨Nat.le_trans h.1 hg.size, fun j hj h1 h2 => (hg.block j (Nat.lt_of_lt_of_le hj h.1) (fun e => by have := ho j e.symm; omega)).trans (h.2 j hj h1 h2)⟩
def lenAt : Option Value → Nat
  | some (.slice _ n _) => n
  | _ => 0
end Go.Proofs.YtmfaodapofamfaaGreat

/- Add and AddOf answer the same, plain. -/
namespace Go.Proofs.YtmfaodapofamfaaGreat

end Go.Proofs.YtmfaodapofamfaaGreat

/- Many updates added, plain. -/
namespace Go.Proofs.YtmfaodapofamfaaGreat
namespace Dg
open Wr (Up)

def mores (l us : List Up) : List Up := us.foldl more l
theorem mores_snoc (l us : List Up) (u : Up) : mores l (us ++ [u]) = more (mores l us) u := by
  unfold mores
  rw [List.foldl_append]
  rfl
theorem hasU_congr {l m : List Up} (h : ∀ u, u ∈ l ↔ u ∈ m) (x : Wr.Id) : hasU l x = hasU m x := by
  rw [Bool.eq_iff_iff, hasU_iff, hasU_iff]
  exact ⟨fun ⟨u, h1, h2⟩ => ⟨u, (h u).mp h1, h2⟩, fun ⟨u, h1, h2⟩ => ⟨u, (h u).mpr h1, h2⟩⟩
theorem more_congr {l m : List Up} (h : ∀ u, u ∈ l ↔ u ∈ m) (u : Up) : ∀ v, v ∈ more l u ↔ v ∈ more m u := fun v => by
  rw [more_mem, more_mem, hasU_congr h, h]
theorem mores_nodup : ∀ {us l : List Up}, (l.map Up.id).Nodup → ((mores l us).map Up.id).Nodup
  | [], _, h => h
  | u :: us, l, h => mores_nodup (us := us) (l := more l u) (more_nodup h)
theorem more_len (l : List Up) (u : Up) : (more l u).length ≤ l.length + 1 := by
  unfold more
  split
  · omega
  · rw [List.length_append]; exact Nat.le_refl _
theorem mores_check {us l : List Up} (h1 : ∀ u, u ∈ l → Wr.check u = 0) (h2 : ∀ u, u ∈ us → Wr.check u = 0) : ∀ u, u ∈ mores l us → Wr.check u = 0 := by
  induction us generalizing l with
  | nil => exact h1
  | cons x us ih =>
    refine ih (l := more l x) (fun u hu => ?_) (fun u hu => h2 u (List.mem_cons_of_mem _ hu))
    rcases more_mem.mp hu with h | ⟨_, rfl⟩
    · exact h1 u h
    · exact h2 u (by simp)
/-- What stands when the first of us have been added. -/
theorem Is.on {all h w : List Up} {u : Up} (hi : Is all h w) {h' w' : List Up} (hn : Is (more (h ++ w) u) h' w') : Is (more all u) h' w' :=
  hn.congr (more_congr (fun v => by rw [List.mem_append]; exact hi.parts.mem v) u)
theorem Is.len {all h w : List Up} (hi : Is all h w) (hn : (all.map Up.id).Nodup) (hA : ((h ++ w).map Up.id).Nodup) : h.length + w.length = all.length := by
  have hp : ((h ++ w).map Up.id).Perm (all.map Up.id) := (List.perm_ext_iff_of_nodup hA hn).mpr fun x => by
    simp only [List.mem_map]
    constructor
    · rintro ⟨u, hu, e⟩
      exact ⟨u, (hi.parts.mem u).mp (List.mem_append.mp hu), e⟩
    · rintro ⟨u, hu, e⟩
      exact ⟨u, List.mem_append.mpr ((hi.parts.mem u).mpr hu), e⟩
  have := hp.length_eq
  rw [List.length_map, List.length_map, List.length_append] at this
  exact this
theorem Is.nd {all h w : List Up} (hi : Is all h w) (hA : Apart all) : ((h ++ w).map Up.id).Nodup := by
  refine nodup_app hi.rh hi.rw_ fun u hu => ?_
  rcases hb : hasU h u.id with _ | _
  · rfl
  · obtain ⟨v, hv, e⟩ := hasU_iff.mp hb
    have h1 := (hi.parts.mem v).mp (.inl hv)
    have h2 := (hi.parts.mem u).mp (.inr hu)
    have e2 := hA v u h1 h2 e
    subst e2
    exact absurd ((hi.parts.1 v).mp hv).2 ((hi.parts.2 v).mp hu).2
theorem Is.okN {all h w : List Up} (hi : Is all h w) (hn : (all.map Up.id).Nodup) (he : ∀ u, u ∈ all → Wr.check u = 0) (hl : all.length ≤ 200) : Ok h w :=
  hi.ok (apart_of_nodup hn) he (by rw [hi.len hn (hi.nd (apart_of_nodup hn))]; exact hl)
end Dg
end Go.Proofs.YtmfaodapofamfaaGreat

