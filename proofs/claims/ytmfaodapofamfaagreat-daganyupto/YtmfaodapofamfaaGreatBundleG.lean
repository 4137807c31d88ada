/- Own texts, one behind the other (part 7). -/
import Derived.Test.YtmfaodapofamfaaGreatBundleF
import Derived.Test.YtmfaodapofamfaaGreatRows
import Derived.Lib.BufferMore
/- Package dag: Heads and Facts. -/
namespace Go.Proofs.YtmfaodapofamfaaGreat
open Go.RowKit Go.Maps

namespace Dg
/-- Is it named by one of them? -/
def named (f : Wr.Up → List Wr.Id) (h : List Wr.Up) (u : Wr.Up) : Bool := h.any fun v => Wr.has (f v) u.id
def free (f : Wr.Up → List Wr.Id) (h : List Wr.Up) : List Wr.Up := h.filter fun u => !named f h u
def heads (h : List Wr.Up) : List Wr.Id := (free Wr.Up.ps h).map Wr.Up.id
def said (h : List Wr.Up) : List Rl.Fc := (free Wr.Up.ts h).flatMap Wr.Up.says
/-- Something, if nothing is wrong. -/
def ifOk {α : Type} (e : Int) (l : List α) : List α := if e = 0 then l else []
theorem ifOk_ok {α : Type} {e : Int} (h : e = 0) (l : List α) : ifOk e l = l := if_pos h
theorem ifOk_no {α : Type} {e : Int} (h : ¬ e = 0) (l : List α) : ifOk e l = [] := if_neg h
def facts (h : List Wr.Up) : List Rl.Fc := Rl.set (said h)
end Dg
theorem named_count (f : Wr.Up → List Wr.Id) (q : List Uv) (u : Wr.Up) : decide (0 < (q.flatMap (fun x => f x.u)).count u.id) = Dg.named f (ups q) u := by
  have h : (0 < (q.flatMap (fun x => f x.u)).count u.id) ↔ Dg.named f (ups q) u = true := by
    rw [List.count_pos_iff]
    unfold Dg.named ups
    rw [List.mem_flatMap, List.any_map, List.any_eq_true]
    constructor
    · rintro ⟨x, hx, h⟩
      exact ⟨x, hx, by unfold Wr.has; simpa using h⟩
    · rintro ⟨x, hx, h⟩
      exact ⟨x, hx, by unfold Wr.has at h; simpa using h⟩
  cases hb : Dg.named f (ups q) u with
  | true => exact decide_eq_true (h.mpr hb)
  | false => exact decide_eq_false (fun e => by rw [h.mp e] at hb; cases hb)
theorem ups_keep (P : Wr.Up → Bool) (q : List Uv) : ups (keepU P q) = (ups q).filter (fun u => !P u) := by
  unfold ups keepU
  rw [List.filter_map]
  rfl
theorem ups_free (f : Wr.Up → List Wr.Id) (q : List Uv) : ups (keepU (fun u => decide (0 < (q.flatMap (fun x => f x.u)).count u.id)) q) = Dg.free f (ups q) := by
  rw [ups_keep]
  unfold Dg.free
  congr 1
  funext u
  rw [named_count f q u]
theorem keepU_mem {P : Wr.Up → Bool} {q : List Uv} {x : Uv} (h : x ∈ keepU P q) : x ∈ q := (List.mem_filter.mp h).1

set_option maxRecDepth 100000 in
set_option maxHeartbeats 4000000 in
theorem Heads_any (hq wq : List Uv) (hv wv : Value) (w : World) (hV : UpsV w hv hq) (wV : UpsV w wv wq) (hl : hq.length ≤ 4611686018427387903 ∧ wq.length ≤ 4611686018427387903) (hok : ∀ x, x ∈ hq ++ wq → UvOk w x) :
    Calls Tryz.prog 7 #[repVal hv wv] w fun e w' => ∃ v', e = .returned (.tuple #[v', .int .i64 (Dg.check (ups hq) (ups wq))]) ∧ IdsV w' v' (Dg.ifOk (Dg.check (ups hq) (ups wq)) (Dg.heads (ups hq))) ∧ Below w.heap.size w w' := by
  obtain ⟨i0, hi, hz0, hz1, hz2⟩ := info_parts id_info
  have HO : Hid (∀ x, x ∈ hq ++ wq → UvOk w x) := hok
  have HHV : Hid (UpsV w hv hq) := hV
  have HCK0 : Hid (∀ z, Below w.heap.size w z → Calls Tryz.prog 15 #[repVal hv wv] z fun e w' => e = .returned (.int .i64 (Dg.check (ups hq) (ups wq))) ∧ Below z.heap.size z w') := fun z hz => DCheck_any hq wq _ _ z (hV.kc (Kc.below hz)) (wV.kc (Kc.below hz)) hl (fun x hx => (hok x hx).below hz)
  obtain ⟨ah, ch, rfl, _, _⟩ := hV
  obtain ⟨aw, cw, rfl, _, _⟩ := wV
  clear hok
  have HB1 : Hid (Below w.heap.size w (w.alloc (.cells #[.slice ah hq.length ch, .slice aw wq.length cw] 24))) := (Below.refl _ _).alloc (Nat.le_refl _) _
  have HH1 : Hid ((w.alloc (.cells #[.slice ah hq.length ch, .slice aw wq.length cw] 24)).heap[w.heap.size]? = some (.cells #[.slice ah hq.length ch, .slice aw wq.length cw] 24)) := rl_new w _
  go_enter Tryz.func7, Tryz.ntmps7
  go_upto_region 1 with fail
  generalize w.alloc (.cells #[.slice ah hq.length ch, .slice aw wq.length cw] 24) = w1 at *
  have HF : Hid (∀ z, Below w1.heap.size w1 z → z.cell? ⟨w.heap.size, 0, none⟩ = some (.slice ah hq.length ch) ∧ z.cell? ⟨w.heap.size, 1, none⟩ = some (.slice aw wq.length cw)) := fun z hz => by
    have hh1 := (hz.block _ (Array.getElem?_eq_some_iff.1 HH1.out).1).trans HH1.out
    exact ⟨by rw [Lib.cell_of_heap hh1]; rfl, by rw [Lib.cell_of_heap hh1]; rfl⟩
  obtain ⟨c0, c1⟩ := HF.out w1 (Below.refl _ _)
  go_upto_region 2 with (go_at_call 15; refine Calls.mono (HCK0.out _ HB1.out) ?_; rintro e w2 ⟨rfl, hb2⟩)
  have HG2 : Hid (Below w.heap.size w w2) := HB1.out.trans (hb2.mono HB1.out.size)
  clear c0 c1 HCK0
  obtain ⟨c0, c1⟩ := HF.out w2 hb2
  clear hb2
  by_cases hck : Dg.check (ups hq) (ups wq) = 0
  rotate_left
  · have hne : (Dg.check (ups hq) (ups wq) != 0) = true := by simpa using hck
    go_wp2_with fail
    go_ret2
    exact ⟨_, rfl, by rw [Dg.ifOk_no hck]; exact ⟨none, 0, rfl, ⟨Nat.le_refl _, fun _ => rfl⟩, .inl rfl⟩, HG2.out⟩
  have HCK : Hid (Dg.check (ups hq) (ups wq) = 0) := hck
  have HOKR : Hid (Dg.Ok (ups hq) (ups wq)) := Dg.check_ok.mp hck
  rw [hck]
  clear hck
  have hfew : hq.length ≤ 200 := by have := HOKR.out.few; rw [ups_length, ups_length] at this; omega
  have HID : Hid (∀ x, x ∈ hq → UvOk w x ∧ Wr.check x.u = 0) := fun x hx => ⟨HO.out x (List.mem_append_left _ hx), HOKR.out.each x.u (List.mem_append_left _ (List.mem_map.mpr ⟨x, hx, rfl⟩))⟩
  have HUN : Hid (Calls Tryz.prog 36 #[.slice ah hq.length ch, .func (.func 37) #[] #[]] w2 fun e w' => ∃ v', e = .returned v' ∧ URow w' w2.heap.size v' (keepU (fun u => decide (0 < (hq.flatMap (fun x => x.u.ps)).count u.id)) hq) ∧ Below w2.heap.size w2 w') := unnamedP_any hq _ w2 (HHV.out.kc (Kc.below HG2.out)) (by omega) (fun x hx => (HID.out x hx).1.below HG2.out) (fun x hx => idsOk_of (HID.out x hx).2)
  have HUF : Hid (ups (keepU (fun u => decide (0 < (hq.flatMap (fun x => x.u.ps)).count u.id)) hq) = Dg.free Wr.Up.ps (ups hq)) := ups_free Wr.Up.ps hq
  have HKM : Hid (∀ x, x ∈ keepU (fun u => decide (0 < (hq.flatMap (fun x => x.u.ps)).count u.id)) hq → x ∈ hq) := fun x hx => keepU_mem hx
  have HKL : Hid ((keepU (fun u => decide (0 < (hq.flatMap (fun x => x.u.ps)).count u.id)) hq).length ≤ 200) := Nat.le_trans (keepU_len _ _) hfew
  generalize keepU (fun u => decide (0 < (hq.flatMap (fun x => x.u.ps)).count u.id)) hq = q at *
  go_upto_region 6 with (go_at_call 36; refine Calls.mono HUN.out ?_; rintro e w3 ⟨v3, rfl, hr3, hb3⟩; obtain ⟨a3, k3, rfl⟩ := own_slice hr3)
  have HR3 : Hid (UpsV w3 (.slice a3 q.length k3) q) := own_ups hr3
  have HG3 : Hid (Below w.heap.size w w3) := HG2.out.trans (hb3.mono HG2.out.size)
  have hql : q.length ≤ 200 := HKL.out
  clear hr3 hb3 HUN c0 c1
  go_loopw [5, 17] (fun vs iv wr => ∃ k : Nat, k ≤ q.length ∧ iv = .int .i64 k ∧ wr.ownsRow w3.heap.size 26 2 vs k (((ups (q.take k)).map Wr.Up.id).map idCells).flatten ∧ Below w3.heap.size w3 wr) (fun _ iv _ => q.length - (intOf iv).toNat)
  case atStart => exact ⟨0, Nat.zero_le _, rfl, World.ownsRow_nil _ _ _ _, Below.refl _ _⟩
  case round =>
    obtain ⟨k, hk, rfl, ho, hbw⟩ := hrel
    obtain ⟨av, cv, rfl⟩ := own_slice ho
    have hsz := hbw.size
    by_cases hlt : k < q.length
    · obtain ⟨_, _, e9, _, hA9⟩ := HR3.out.kc (Kc.below hbw)
      cases e9
      obtain ⟨b, off, rfl, c0, c1, c2, c3, c4⟩ := ups_at hA9 k hlt
      have hx := (HID.out _ (HKM.out _ (uvD_mem q k hlt))).1
      have HTK : Hid ((((ups (q.take (k + 1))).map Wr.Up.id).map idCells).flatten = (((ups (q.take k)).map Wr.Up.id).map idCells).flatten ++ idCells (uvD q k).u.id) := by
        show _ = _
        rw [uvD_take q k hlt, ups_append, List.map_append, List.map_append, List.flatten_append]
        simp [ups]
      obtain ⟨a1, n1, d1, a2, n2, d2, a4, n4, d4, e1, e2, e3⟩ := hx.forms
      generalize uvD q k = x at *
      obtain ⟨⟨⟨ua, un⟩, ps, says, ts⟩, vp, vs, vt⟩ := x
      dsimp only at *
      subst e1 e2 e3
      generalize (((ups (q.take k)).map Wr.Up.id).map idCells).flatten = X0 at *
      clear hA9 hx
      have HBN : Hid (Below w3.heap.size w3 (wr.alloc (.cells #[.int .i64 ua, .int .i64 un, .slice a1 n1 d1, .slice a2 n2 d2, .slice a4 n4 d4] 30))) := hbw.alloc hsz _
      have ho2 := ho.alloc (.cells #[.int .i64 ua, .int .i64 un, .slice a1 n1 d1, .slice a2 n2 d2, .slice a4 n4 d4] 30)
      clear ho
      go_upto_region 8 with fail
      have HCX : Hid ((wr.alloc (.cells #[.int .i64 ua, .int .i64 un, .slice a1 n1 d1, .slice a2 n2 d2, .slice a4 n4 d4] 30)).heap[wr.heap.size]? = some (.cells #[.int .i64 ua, .int .i64 un, .slice a1 n1 d1, .slice a2 n2 d2, .slice a4 n4 d4] 30)) := rl_new wr _
      generalize wr.alloc (.cells #[.int .i64 ua, .int .i64 un, .slice a1 n1 d1, .slice a2 n2 d2, .slice a4 n4 d4] 30) = w5 at *
      have x0 : w5.cell? ⟨wr.heap.size, 0, none⟩ = some (.int .i64 ua) := by rw [Lib.cell_of_heap HCX.out]; rfl
      have x1 : w5.cell? ⟨wr.heap.size, 1, none⟩ = some (.int .i64 un) := by rw [Lib.cell_of_heap HCX.out]; rfl
      have hs5 := HBN.out.size
      clear c0 c1 c2 c3 c4
      go_wp2_with (at_builtin; refine wpList_append_own _ rfl _ _ 27 rfl w3.heap.size 26 i0 _ 2 16 Tryz.underlying27 hi hz0 hz1 hz2 rfl (by decide) _ _ _ rfl (ho2.alloc _) ⟨w5.heap.size, 0, none⟩ 1 1 (idCells ⟨ua, un⟩) rfl rfl (news2 w5 _ _ 26) (by intro u hu; simp at hu; rcases hu with rfl | rfl <;> rfl) (by unfold maxLen; omega) (by omega) (by simp; omega) ?_; intro v6 w6 hown6 hgrow6 _; obtain ⟨a6, c6, rfl⟩ := own_slice hown6)
      have HO6 : Hid (w6.ownsRow w3.heap.size 26 2 (.slice a6 (k + 1) c6) (k + 1) (((ups (q.take (k + 1))).map Wr.Up.id).map idCells).flatten) := by
        show World.ownsRow _ _ _ _ _ _ _
        rw [HTK.out]
        exact hown6
      have HB6 : Hid (Below w3.heap.size w3 w6) := (HBN.out.alloc hs5 _).grown hgrow6 (by simp; omega) (fun j hj => (ho2.lt j hj).1)
      clear hown6 hgrow6 ho2 HTK
      go_roundw
      case rel => exact ⟨k + 1, hlt, by go_num, HO6.out, HB6.out⟩
      case measure => simp [intOf]; omega
    · have hdd : decide (k < q.length) = false := decide_eq_false hlt
      obtain rfl : k = q.length := by omega
      have HE : Hid (IdsV wr (.slice av q.length cv) (Dg.heads (ups hq))) := by
        have e : Dg.heads (ups hq) = (ups q).map Wr.Up.id := by unfold Dg.heads; rw [HUF.out]
        have el : ((ups q).map Wr.Up.id).length = q.length := by rw [List.length_map, ups_length]
        have h9 := ho
        rw [List.take_length, ← el] at h9
        show IdsV _ _ _
        rw [e, ← el]
        exact own_ids h9
      have HBE : Hid (Below w.heap.size w wr) := HG3.out.trans (hbw.mono HG3.out.size)
      clear ho hbw
      go_wp2_with fail
      go_ret2
      exact ⟨_, by rw [HCK.out]; rfl, by rw [Dg.ifOk_ok HCK.out]; exact HE.out, HBE.out⟩
end Go.Proofs.YtmfaodapofamfaaGreat

/- What dagBegun asks, plain. -/
namespace Go.Proofs.YtmfaodapofamfaaGreat
namespace Dg
open Wr
theorem beg_mem {u a b : Up} : u ∈ [a, b] ↔ u = a ∨ u = b := by simp
theorem beg1 {h w : List Up} (hi : Is (more ([] ++ []) secondU) h w) : h = [] ∧ w = [secondU] := by
  have he : more ([] ++ []) secondU = [secondU] := rfl
  rw [he] at hi
  have hno : ¬ Cm [secondU] ⟨0, 1⟩ := fun h => absurd h.has (by decide)
  have hns : ¬ Cm [secondU] secondU.id := fun h => hno (Cm.under (apart_of_nodup (by decide)) (by simp) h ⟨0, 1⟩ (by decide))
  refine hi.one ⟨⟨fun u => ?_, fun u => ?_⟩, rfl, rfl⟩
  · constructor
    · intro hu; cases hu
    · rintro ⟨hu, hc⟩
      rw [List.mem_singleton.mp hu] at hc
      exact absurd hc hns
  · constructor
    · intro hu
      refine ⟨hu, ?_⟩
      rw [List.mem_singleton.mp hu]
      exact hns
    · intro hu
      exact hu.1
theorem beg2 {h w : List Up} (hi : Is (more ([] ++ [secondU]) firstU) h w) : h = [firstU, secondU] ∧ w = [] := by
  have he : more ([] ++ [secondU]) firstU = [secondU, firstU] := rfl
  rw [he] at hi
  have h1 : Cm [secondU, firstU] firstU.id := .mk firstU (by simp) (fun x hx => by cases hx)
  have h2 : Cm [secondU, firstU] secondU.id := .mk secondU (by simp) (fun x hx => by
    have hx2 : x = ⟨0, 1⟩ := by simpa [under, secondU] using hx
    rw [hx2]
    exact h1)
  have hall : ∀ u, u ∈ [secondU, firstU] → Cm [secondU, firstU] u.id := fun u hu => by
    rcases beg_mem.mp hu with rfl | rfl
    · exact h2
    · exact h1
  refine hi.one ⟨⟨fun u => ?_, fun u => ?_⟩, by decide, rfl⟩
  · rw [beg_mem]
    constructor
    · intro hu
      have hm : u ∈ [secondU, firstU] := beg_mem.mpr hu.symm
      exact ⟨hm, hall u hm⟩
    · intro hu
      exact (beg_mem.mp hu.1).symm
  · constructor
    · intro hu; cases hu
    · intro hu
      exact absurd (hall u hu.1) hu.2
theorem beg_heads : heads [firstU, secondU] = [⟨1, 1⟩] := by decide
theorem beg_facts : facts [firstU, secondU] = [⟨0, [4, 5]⟩] := by
  have h : said [firstU, secondU] = [⟨0, [4, 5]⟩] := by rfl
  unfold facts
  rw [h]
  rfl
theorem beg_c1 : Wr.check firstU = 0 := by decide
theorem beg_c2 : Wr.check secondU = 0 := by decide
theorem beg_ok0 : Ok [] [] := ⟨by decide, (fun u hu => by cases hu), rfl, rfl, (fun u hu => by cases hu), ⟨fun u => ⟨(fun h => by cases h), (fun h => by cases h.1)⟩, fun u => ⟨(fun h => by cases h), (fun h => by cases h.1)⟩⟩⟩
end Dg
end Go.Proofs.YtmfaodapofamfaaGreat

/- Package dag: Facts. -/
namespace Go.Proofs.YtmfaodapofamfaaGreat
open Go.RowKit Go.Maps

set_option maxRecDepth 100000 in
set_option maxHeartbeats 4000000 in
theorem Facts_any (hq wq : List Uv) (hv wv : Value) (w : World) (hV : UpsV w hv hq) (wV : UpsV w wv wq) (hl : hq.length ≤ 4611686018427387903 ∧ wq.length ≤ 4611686018427387903) (hok : ∀ x, x ∈ hq ++ wq → UvOk w x) :
    Calls Tryz.prog 8 #[repVal hv wv] w fun e w' => ∃ v', e = .returned (.tuple #[v', .int .i64 (Dg.check (ups hq) (ups wq))]) ∧ FactsV w' v' (Dg.ifOk (Dg.check (ups hq) (ups wq)) (Dg.facts (ups hq))) ∧ Below w.heap.size w w' := by
  have HO : Hid (∀ x, x ∈ hq ++ wq → UvOk w x) := hok
  have HHV : Hid (UpsV w hv hq) := hV
  have HCK0 : Hid (∀ z, Below w.heap.size w z → Calls Tryz.prog 15 #[repVal hv wv] z fun e w' => e = .returned (.int .i64 (Dg.check (ups hq) (ups wq))) ∧ Below z.heap.size z w') := fun z hz => DCheck_any hq wq _ _ z (hV.kc (Kc.below hz)) (wV.kc (Kc.below hz)) hl (fun x hx => (hok x hx).below hz)
  obtain ⟨ah, ch, rfl, _, _⟩ := hV
  obtain ⟨aw, cw, rfl, _, _⟩ := wV
  clear hok
  have HB1 : Hid (Below w.heap.size w (w.alloc (.cells #[.slice ah hq.length ch, .slice aw wq.length cw] 24))) := (Below.refl _ _).alloc (Nat.le_refl _) _
  have HH1 : Hid ((w.alloc (.cells #[.slice ah hq.length ch, .slice aw wq.length cw] 24)).heap[w.heap.size]? = some (.cells #[.slice ah hq.length ch, .slice aw wq.length cw] 24)) := rl_new w _
  go_enter Tryz.func8, Tryz.ntmps8
  go_upto_region 1 with fail
  generalize w.alloc (.cells #[.slice ah hq.length ch, .slice aw wq.length cw] 24) = w1 at *
  have HF : Hid (∀ z, Below w1.heap.size w1 z → z.cell? ⟨w.heap.size, 0, none⟩ = some (.slice ah hq.length ch) ∧ z.cell? ⟨w.heap.size, 1, none⟩ = some (.slice aw wq.length cw)) := fun z hz => by
    have hh1 := (hz.block _ (Array.getElem?_eq_some_iff.1 HH1.out).1).trans HH1.out
    exact ⟨by rw [Lib.cell_of_heap hh1]; rfl, by rw [Lib.cell_of_heap hh1]; rfl⟩
  obtain ⟨c0, c1⟩ := HF.out w1 (Below.refl _ _)
  go_upto_region 2 with (go_at_call 15; refine Calls.mono (HCK0.out _ HB1.out) ?_; rintro e w2 ⟨rfl, hb2⟩)
  have HG2 : Hid (Below w.heap.size w w2) := HB1.out.trans (hb2.mono HB1.out.size)
  clear c0 c1 HCK0
  obtain ⟨c0, c1⟩ := HF.out w2 hb2
  clear hb2
  by_cases hck : Dg.check (ups hq) (ups wq) = 0
  rotate_left
  · have hne : (Dg.check (ups hq) (ups wq) != 0) = true := by simpa using hck
    go_wp2_with fail
    go_ret2
    exact ⟨_, rfl, by rw [Dg.ifOk_no hck]; exact ⟨none, 0, rfl, ⟨Nat.le_refl _, fun _ => rfl⟩, .inl rfl⟩, HG2.out⟩
  have HCK : Hid (Dg.check (ups hq) (ups wq) = 0) := hck
  have HOKR : Hid (Dg.Ok (ups hq) (ups wq)) := Dg.check_ok.mp hck
  rw [hck]
  clear hck
  have hfew : hq.length ≤ 200 := by have := HOKR.out.few; rw [ups_length, ups_length] at this; omega
  have HID : Hid (∀ x, x ∈ hq → UvOk w x ∧ Wr.check x.u = 0) := fun x hx => ⟨HO.out x (List.mem_append_left _ hx), HOKR.out.each x.u (List.mem_append_left _ (List.mem_map.mpr ⟨x, hx, rfl⟩))⟩
  have HUN : Hid (Calls Tryz.prog 36 #[.slice ah hq.length ch, .func (.func 38) #[] #[]] w2 fun e w' => ∃ v', e = .returned v' ∧ URow w' w2.heap.size v' (keepU (fun u => decide (0 < (hq.flatMap (fun x => x.u.ts)).count u.id)) hq) ∧ Below w2.heap.size w2 w') := unnamedT_any hq _ w2 (HHV.out.kc (Kc.below HG2.out)) (by omega) (fun x hx => (HID.out x hx).1.below HG2.out) (fun x hx => idsOk_of (HID.out x hx).2)
  have HUF : Hid (ups (keepU (fun u => decide (0 < (hq.flatMap (fun x => x.u.ts)).count u.id)) hq) = Dg.free Wr.Up.ts (ups hq)) := ups_free Wr.Up.ts hq
  have HKM : Hid (∀ x, x ∈ keepU (fun u => decide (0 < (hq.flatMap (fun x => x.u.ts)).count u.id)) hq → x ∈ hq) := fun x hx => keepU_mem hx
  have HKL : Hid ((keepU (fun u => decide (0 < (hq.flatMap (fun x => x.u.ts)).count u.id)) hq).length ≤ 200) := Nat.le_trans (keepU_len _ _) hfew
  generalize keepU (fun u => decide (0 < (hq.flatMap (fun x => x.u.ts)).count u.id)) hq = q at *
  go_upto_region 6 with (go_at_call 36; refine Calls.mono HUN.out ?_; rintro e w3 ⟨v3, rfl, hr3, hb3⟩; obtain ⟨a3, k3, rfl⟩ := own_slice hr3)
  have HR3 : Hid (UpsV w3 (.slice a3 q.length k3) q) := own_ups hr3
  have HG3 : Hid (Below w.heap.size w w3) := HG2.out.trans (hb3.mono HG2.out.size)
  have hql : q.length ≤ 200 := HKL.out
  clear hr3 hb3 HUN c0 c1
  have HSL : Hid (∀ k, ((ups (q.take k)).flatMap Wr.Up.says).length ≤ k * 6) := by
    intro k
    induction k with
    | zero => simp [ups]
    | succ k ih =>
      by_cases hk : k < q.length
      · rw [uvD_take q k hk, ups_append, List.flatMap_append, List.length_append]
        have := (few_of (HID.out _ (HKM.out _ (uvD_mem q k hk))).2).l.2.1
        simp only [ups, List.map_cons, List.map_nil, List.flatMap_cons, List.flatMap_nil, List.append_nil] at ih ⊢
        omega
      · have e : q.take (k + 1) = q.take k := by rw [List.take_of_length_le (by omega), List.take_of_length_le (by omega)]
        rw [e]
        omega
  go_loopw [5, 17] (fun vs iv wr => ∃ (k : Nat) (r : List Fv), k ≤ q.length ∧ iv = .int .i64 k ∧ wr.ownsRow w3.heap.size 84 2 vs r.length (r.map fcCells).flatten ∧ Hid (r.map (·.1) = (ups (q.take k)).flatMap Wr.Up.says) ∧ Hid (∀ p, p ∈ r → FvOk w3 p) ∧ Below w3.heap.size w3 wr) (fun _ iv _ => q.length - (intOf iv).toNat)
  case atStart => exact ⟨0, [], Nat.zero_le _, rfl, World.ownsRow_nil _ _ _ _, rfl, fun p hp => absurd hp (by simp), Below.refl _ _⟩
  case round =>
    obtain ⟨k, r, hk, rfl, ho, HRS, HRO, hbw⟩ := hrel
    obtain ⟨av, cv, rfl⟩ := own_slice ho
    have hsz := hbw.size
    have hrl : r.length ≤ 1200 := by
      have h1 := congrArg List.length HRS.out
      rw [List.length_map] at h1
      have h2 := HSL.out k
      omega
    by_cases hlt : k < q.length
    · obtain ⟨_, _, e9, _, hA9⟩ := HR3.out.kc (Kc.below hbw)
      cases e9
      obtain ⟨b, off, rfl, c0, c1, c2, c3, c4⟩ := ups_at hA9 k hlt
      have hxo := HID.out _ (HKM.out _ (uvD_mem q k hlt))
      have hx := hxo.1.below HG3.out
      have hfw := (few_of hxo.2).l.2.1
      have HTK : Hid ((ups (q.take (k + 1))).flatMap Wr.Up.says = (ups (q.take k)).flatMap Wr.Up.says ++ (uvD q k).u.says) := by
        show _ = _
        rw [uvD_take q k hlt, ups_append, List.flatMap_append]
        simp [ups]
      obtain ⟨a1, n1, d1, a2, n2, d2, a4, n4, d4, e1, e2, e3⟩ := hx.forms
      obtain ⟨sa, sc, hse, hsc, hsA⟩ := hx.s
      have HSA : Hid (FactsAt w3 sa (uvD q k).u.says ∧ (sa = none → sc = 0) ∧ ∀ f, f ∈ (uvD q k).u.says → FFit f) := ⟨hsA, hsc.2, hx.f⟩
      clear hsA hsc hx hxo hA9
      generalize uvD q k = x at *
      obtain ⟨⟨⟨ua, un⟩, ps, says, ts⟩, vp, vs, vt⟩ := x
      dsimp only at *
      subst e1 e2 e3
      injection hse with hse1 hse2 hse3
      subst hse1 hse2 hse3
      generalize (ups (q.take k)).flatMap Wr.Up.says = X0 at *
      have HBN : Hid (Below w3.heap.size w3 (wr.alloc (.cells #[.int .i64 ua, .int .i64 un, .slice a1 n1 d1, .slice a2 says.length d2, .slice a4 n4 d4] 30))) := hbw.alloc hsz _
      have ho2 := ho.alloc (.cells #[.int .i64 ua, .int .i64 un, .slice a1 n1 d1, .slice a2 says.length d2, .slice a4 n4 d4] 30)
      clear ho
      go_upto_region 8 with fail
      have HCX : Hid ((wr.alloc (.cells #[.int .i64 ua, .int .i64 un, .slice a1 n1 d1, .slice a2 says.length d2, .slice a4 n4 d4] 30)).heap[wr.heap.size]? = some (.cells #[.int .i64 ua, .int .i64 un, .slice a1 n1 d1, .slice a2 says.length d2, .slice a4 n4 d4] 30)) := rl_new wr _
      generalize wr.alloc (.cells #[.int .i64 ua, .int .i64 un, .slice a1 n1 d1, .slice a2 says.length d2, .slice a4 n4 d4] 30) = w5 at *
      have x3 : w5.cell? ⟨wr.heap.size, 3, none⟩ = some (.slice a2 says.length d2) := by rw [Lib.cell_of_heap HCX.out]; rfl
      have hs5 := HBN.out.size
      clear c0 c1 c2 c3 c4
      go_wp2_with (at_builtin; refine wp_append_facts rfl (.tmp 21) (.tmp 23) rfl HBN.out _ r.length r rfl rfl ho2 a2 d2 says rfl HSA.out.2.1 HSA.out.1 HSA.out.2.2 ?c1 ?_)
      case c1 => omega
      intro v6 w6 r2 H2
      obtain ⟨h1, h2, h3, h4⟩ := H2
      obtain ⟨a6, c6, rfl⟩ := own_slice h3
      have HO6 : Hid (w6.ownsRow w3.heap.size 84 2 (.slice a6 (r ++ r2).length c6) (r ++ r2).length ((r ++ r2).map fcCells).flatten) := h3
      have HB6 : Hid (Below w3.heap.size w3 w6) := h4
      have HM6 : Hid ((r ++ r2).map (·.1) = (ups (q.take (k + 1))).flatMap Wr.Up.says) := by
        show _ = _
        rw [List.map_append, HRS.out, h1, HTK.out]
      have HP6 : Hid (∀ p, p ∈ r ++ r2 → FvOk w3 p) := fun p hp => by
        rcases List.mem_append.mp hp with hp | hp
        · exact HRO.out p hp
        · exact h2 p hp
      clear h1 h2 h3 h4 ho2 HTK HRS HRO
      go_wp2_with fail
      go_roundw
      case rel => exact ⟨k + 1, r ++ r2, hlt, by go_num, HO6.out, HM6.out, HP6.out, HB6.out⟩
      case measure => simp [intOf]; omega
    · have hdd : decide (k < q.length) = false := decide_eq_false hlt
      obtain rfl : k = q.length := by omega
      have HSD : Hid (r.map (·.1) = Dg.said (ups hq)) := by
        show _ = _
        rw [HRS.out, List.take_length]
        unfold Dg.said
        rw [HUF.out]
      have hFV : FactsV wr (.slice av r.length cv) (Dg.said (ups hq)) := by
        have h9 := own_factsV ho HRO.out hbw
        rw [HSD.out] at h9
        exact h9
      have HLS : Hid ((Dg.said (ups hq)).length = r.length) := by show _ = _; rw [← HSD.out, List.length_map]
      have HAS : Hid (∀ f, f ∈ Dg.said (ups hq) → f.args.length ≤ 1048576) := fun f hf => by
        unfold Dg.said at hf
        rw [← HUF.out] at hf
        obtain ⟨u, hu, hfu⟩ := List.mem_flatMap.mp hf
        obtain ⟨x, hx, rfl⟩ := List.mem_map.mp hu
        exact Nat.le_trans ((few_of (HID.out _ (HKM.out x hx)).2).f f hfu) (by decide)
      have HST : Hid (Calls Tryz.prog 39 #[.slice av r.length cv] wr fun e w' => ∃ v', e = .returned v' ∧ FactsP wr.heap.size w' v' (Dg.facts (ups hq)) ∧ Below wr.heap.size wr w') := Set_any (Dg.said (ups hq)) _ wr hFV (by have := HLS.out; omega) HAS.out
      have HFF : Hid (∀ f, f ∈ Dg.facts (ups hq) → FFit f) := fun f hf => Nat.le_trans (HAS.out f (Rl.mem_set.mp hf)) (by decide)
      have HBE : Hid (Below w.heap.size w wr) := HG3.out.trans (hbw.mono HG3.out.size)
      clear ho hbw hFV HRS HRO HSD
      go_wp2_with fail
      refine Calls.mono HST.out ?_
      rintro e w9 ⟨v9, rfl, hfp, hb9⟩
      have HE : Hid (FactsV w9 v9 (Dg.facts (ups hq))) := factsP_V hfp HFF.out
      obtain ⟨q9, _, hown9, _⟩ := id hfp
      obtain ⟨a9, c9, rfl⟩ := own_slice hown9
      have HB9 : Hid (Below w.heap.size w w9) := HBE.out.trans (hb9.mono HBE.out.size)
      clear hfp hown9 hb9 HST
      go_wp2_with fail
      go_ret2
      exact ⟨_, by rw [HCK.out]; rfl, by rw [Dg.ifOk_ok HCK.out]; exact HE.out, HB9.out⟩
end Go.Proofs.YtmfaodapofamfaaGreat

/- A region by a table whose last operations come one behind the other, behind all others, and may change anything (append, then a store). -/
namespace Go.Proofs.YtmfaodapofamfaaGreat
open Go.RowKit

section
variable {P : Program} {ops : Array Oper} {Q : Exit → Act → World → Prop}
end

end Go.Proofs.YtmfaodapofamfaaGreat

/- A region by a table with a tail, where the tail writes what the table reads. -/
namespace Go.Proofs.YtmfaodapofamfaaGreat
open Go.RowKit

section
variable {P : Program} {ops : Array Oper} {Q : Exit → Act → World → Prop}
end

end Go.Proofs.YtmfaodapofamfaaGreat

/- One operation of a tail. -/
namespace Go.Proofs.YtmfaodapofamfaaGreat
open Go.RowKit

section
variable {P : Program} {ops : Array Oper} {Q : Exit → Act → World → Prop} {i : Nat} {o : Oper} {K : Act → World → Prop} {a : Act} {w w' : World}
end

end Go.Proofs.YtmfaodapofamfaaGreat

/- dagBegun. -/
namespace Go.Proofs.YtmfaodapofamfaaGreat
open Go.RowKit

theorem UpV.ok {w : World} {u : Wr.Up} {vp vs vt : Value} (h : UpV w u vp vs vt) : UvOk w ⟨u, vp, vs, vt⟩ := ⟨h.1, h.2.1, h.2.2.1, h.2.2.2.1, by have := h.2.2.2.2; dsimp only; omega⟩
/-- Add's answers in dagBegun. -/
theorem add_beg1 (w : World) (x : Uv) (hx : UvOk w x) (he : x.u = Wr.secondU) :
    Calls Tryz.prog 6 #[repVal (.slice none 0 0) (.slice none 0 0), uvVal x] w fun e w' => ∃ (a1 : Option Addr) (c1 : Nat) (a2 : Option Addr) (c2 : Nat) (R : Uv), e = .returned (.tuple #[repVal (.slice a1 0 c1) (.slice a2 1 c2), .int .i64 0]) ∧ UpsV w' (.slice a1 0 c1) [] ∧ UpsV w' (.slice a2 1 c2) [R] ∧ UvOk w' R ∧ R.u = Wr.secondU ∧ Below w.heap.size w w' := by
  refine (Add_any [] [] _ _ x w (ups_nil _) (ups_nil _) (by decide) (fun y hy => absurd hy (by simp)) hx).mono ?_
  rintro e w' ⟨v1, v2, R1, R2, rfl, h1, h2, h3, h4, _, h6⟩
  have hz : Dg.addErr (ups []) (ups []) x.u = 0 := by
    rw [he]
    have hc : Dg.check (ups []) (ups []) = 0 := Dg.check_ok.mpr Dg.beg_ok0
    unfold Dg.addErr
    rw [if_neg (by rw [hc]; simp), if_neg (by rw [Dg.beg_c2]; simp)]
    rfl
  have h7 := h4 hz
  rw [he] at h7
  obtain ⟨e1, e2⟩ := Dg.beg1 h7
  have e3 : R1 = [] := List.eq_nil_of_length_eq_zero (by have := congrArg List.length e1; rw [ups_length] at this; exact this)
  subst e3
  obtain ⟨R, rfl⟩ : ∃ R, R2 = [R] := by
    have hl := congrArg List.length e2
    rw [ups_length] at hl
    match R2, hl with
    | [R], _ => exact ⟨R, rfl⟩
  have e4 : R.u = Wr.secondU := by
    have : [R.u] = [Wr.secondU] := e2
    injection this
  obtain ⟨a1, c1, f1, _⟩ := id h1
  obtain ⟨a2, c2, f2, _⟩ := id h2
  subst f1 f2
  exact ⟨a1, c1, a2, c2, R, by rw [hz]; rfl, h1, h2, h3 R (by simp), e4, h6⟩
theorem add_beg2 (v1 v2 : Value) (w : World) (x R : Uv) (h1 : UpsV w v1 []) (h2 : UpsV w v2 [R]) (hR : UvOk w R) (hx : UvOk w x) (he : x.u = Wr.firstU) (hr : R.u = Wr.secondU) :
    Calls Tryz.prog 6 #[repVal v1 v2, uvVal x] w fun e w' => ∃ (a1 : Option Addr) (c1 : Nat) (a2 : Option Addr) (c2 : Nat) (R1 R2 : Uv), e = .returned (.tuple #[repVal (.slice a1 2 c1) (.slice a2 0 c2), .int .i64 0]) ∧ UpsV w' (.slice a1 2 c1) [R1, R2] ∧ UpsV w' (.slice a2 0 c2) [] ∧ UvOk w' R1 ∧ UvOk w' R2 ∧ R1.u = Wr.firstU ∧ R2.u = Wr.secondU ∧ Below w.heap.size w w' := by
  refine (Add_any [] [R] _ _ x w h1 h2 (by simp) (fun y hy => by rw [List.nil_append, List.mem_singleton] at hy; rw [hy]; exact hR) hx).mono ?_
  rintro e w' ⟨u1, u2, R1, R2, rfl, k1, k2, k3, k4, _, k6⟩
  have hu : ups [R] = [Wr.secondU] := by show [R.u] = _; rw [hr]
  rw [hu, he] at k4
  have hz : Dg.addErr (ups []) [Wr.secondU] Wr.firstU = 0 := by
    have ho : Dg.Ok [] [Wr.secondU] := by
      have hi : Dg.Is [Wr.secondU] [] [Wr.secondU] := by
        have hno : ¬ Dg.Cm [Wr.secondU] ⟨0, 1⟩ := fun h => absurd h.has (by decide)
        have hns : ¬ Dg.Cm [Wr.secondU] Wr.secondU.id := fun h => hno (Dg.Cm.under (Dg.apart_of_nodup (by decide)) (by simp) h ⟨0, 1⟩ (by decide))
        refine ⟨⟨fun u => ⟨(fun h => by cases h), (fun h => by rw [List.mem_singleton.mp h.1] at h; exact absurd h.2 hns)⟩, fun u => ⟨(fun h => ⟨h, by rw [List.mem_singleton.mp h]; exact hns⟩), (fun h => h.1)⟩⟩, rfl, rfl⟩
      exact hi.ok (Dg.apart_of_nodup (by decide)) (fun u hu => by rw [List.mem_singleton.mp hu]; exact Dg.beg_c2) (by decide)
    have hc : Dg.check (ups []) [Wr.secondU] = 0 := Dg.check_ok.mpr ho
    unfold Dg.addErr
    rw [if_neg (by rw [hc]; simp), if_neg (by rw [Dg.beg_c1]; simp)]
    rfl
  obtain ⟨e1, e2⟩ := Dg.beg2 (k4 hz)
  have e3 : R2 = [] := List.eq_nil_of_length_eq_zero (by have := congrArg List.length e2; rw [ups_length] at this; exact this)
  subst e3
  obtain ⟨Q1, Q2, rfl⟩ : ∃ Q1 Q2, R1 = [Q1, Q2] := by
    have hl := congrArg List.length e1
    rw [ups_length] at hl
    match R1, hl with
    | [Q1, Q2], _ => exact ⟨Q1, Q2, rfl⟩
  have e4 : [Q1.u, Q2.u] = [Wr.firstU, Wr.secondU] := e1
  injection e4 with e5 e6
  injection e6 with e7 _
  obtain ⟨a1, c1, f1, _⟩ := id k1
  obtain ⟨a2, c2, f2, _⟩ := id k2
  subst f1 f2
  exact ⟨a1, c1, a2, c2, Q1, Q2, by rw [hu, he, hz]; rfl, k1, k2, k3 Q1 (by simp), k3 Q2 (by simp), e5, e7, k6⟩
theorem beg_check {h w : List Wr.Up} (e1 : h = [Wr.firstU, Wr.secondU]) (e2 : w = []) : Dg.check h w = 0 := by
  subst e1 e2
  have hA : Dg.Apart [Wr.secondU, Wr.firstU] := Dg.apart_of_nodup (by decide)
  have h1 : Dg.Cm [Wr.secondU, Wr.firstU] Wr.firstU.id := .mk Wr.firstU (by simp) (fun x hx => by cases hx)
  have h2 : Dg.Cm [Wr.secondU, Wr.firstU] Wr.secondU.id := .mk Wr.secondU (by simp) (fun x hx => by
    have hx2 : x = ⟨0, 1⟩ := by simpa [Dg.under, Wr.secondU] using hx
    rw [hx2]
    exact h1)
  have hall : ∀ u, u ∈ [Wr.secondU, Wr.firstU] → Dg.Cm [Wr.secondU, Wr.firstU] u.id := fun u hu => by
    rcases Dg.beg_mem.mp hu with rfl | rfl
    · exact h2
    · exact h1
  have hi : Dg.Is [Wr.secondU, Wr.firstU] [Wr.firstU, Wr.secondU] [] := by
    refine ⟨⟨fun u => ?_, fun u => ⟨(fun h => by cases h), (fun h => absurd (hall u h.1) h.2)⟩⟩, by decide, rfl⟩
    rw [Dg.beg_mem]
    exact ⟨fun h => ⟨Dg.beg_mem.mpr h.symm, hall u (Dg.beg_mem.mpr h.symm)⟩, fun h => (Dg.beg_mem.mp h.1).symm⟩
  refine Dg.check_ok.mpr (hi.ok hA (fun u hu => ?_) (by decide))
  rcases Dg.beg_mem.mp hu with rfl | rfl
  · exact Dg.beg_c2
  · exact Dg.beg_c1
theorem beg_all (v1 v2 : Value) (w : World) (R1 R2 : Uv) (h1 : UpsV w v1 [R1, R2]) (h2 : UpsV w v2 []) (o1 : UvOk w R1) (o2 : UvOk w R2) (e1 : R1.u = Wr.firstU) (e2 : R2.u = Wr.secondU) :
    (Calls Tryz.prog 7 #[repVal v1 v2] w fun e w' => ∃ v', e = .returned (.tuple #[v', .int .i64 0]) ∧ IdsV w' v' [⟨1, 1⟩] ∧ Below w.heap.size w w') ∧
    (Calls Tryz.prog 8 #[repVal v1 v2] w fun e w' => ∃ v', e = .returned (.tuple #[v', .int .i64 0]) ∧ FactsV w' v' [⟨0, [4, 5]⟩] ∧ Below w.heap.size w w') ∧
    (Calls Tryz.prog 15 #[repVal v1 v2] w fun e w' => e = .returned (.int .i64 0) ∧ Below w.heap.size w w') := by
  have hu : ups [R1, R2] = [Wr.firstU, Wr.secondU] := by show [R1.u, R2.u] = _; rw [e1, e2]
  have hc : Dg.check (ups [R1, R2]) (ups []) = 0 := beg_check hu rfl
  have hok : ∀ x, x ∈ [R1, R2] ++ [] → UvOk w x := fun x hx => by
    have hx : x = R1 ∨ x = R2 := by simpa using hx
    rcases hx with rfl | rfl
    · exact o1
    · exact o2
  refine ⟨?_, ?_, ?_⟩
  · refine (Heads_any [R1, R2] [] _ _ w h1 h2 (by simp) hok).mono ?_
    rintro e w' ⟨v', rfl, k1, k2⟩
    rw [Dg.ifOk_ok hc, hu, Dg.beg_heads] at k1
    exact ⟨v', by rw [hc], k1, k2⟩
  · refine (Facts_any [R1, R2] [] _ _ w h1 h2 (by simp) hok).mono ?_
    rintro e w' ⟨v', rfl, k1, k2⟩
    rw [Dg.ifOk_ok hc, hu, Dg.beg_facts] at k1
    exact ⟨v', by rw [hc], k1, k2⟩
  · refine (DCheck_any [R1, R2] [] _ _ w h1 h2 (by simp) hok).mono ?_
    rintro e w' ⟨rfl, k2⟩
    exact ⟨by rw [hc], k2⟩
end Go.Proofs.YtmfaodapofamfaaGreat

/- What stands where a box of two slices is written: all blocks that hold a number. -/
namespace Go.Proofs.YtmfaodapofamfaaGreat
open Go.RowKit

def Kn (w w' : World) : Prop := ∀ b, (∃ o n, w.cell? ⟨b, o, none⟩ = some (.int .i64 n)) → ∀ o v, w.cell? ⟨b, o, none⟩ = some v → w'.cell? ⟨b, o, none⟩ = some v
theorem Kn.trans {a b c : World} (h : Kn a b) (k : Kn b c) : Kn a c := fun i hi o v e => k i (by obtain ⟨p, n, q⟩ := hi; exact ⟨p, n, h i ⟨p, n, q⟩ p _ q⟩) o v (h i hi o v e)
theorem Kn.below {w w' : World} (h : Below w.heap.size w w') : Kn w w' := fun _ _ _ _ e => cell_below h e
theorem Kn.ints {w w' : World} (k : Kn w w') {v : Value} {l : List Int} (h : IntsV w v l) : IntsV w' v l := by
  obtain ⟨ao, cap, rfl, h⟩ := h
  refine ⟨ao, cap, rfl, ?_⟩
  rcases h with h | ⟨b, off, rfl, h⟩
  · exact .inl h
  · exact .inr ⟨b, off, rfl, fun i hi => k _ ⟨_, _, h i hi⟩ _ _ (h i hi)⟩
theorem Kn.ids {w w' : World} (k : Kn w w') {v : Value} {l : List Wr.Id} (h : IdsV w v l) : IdsV w' v l := by
  obtain ⟨ao, cap, rfl, hc, h⟩ := h
  refine ⟨ao, cap, rfl, hc, ?_⟩
  rcases h with h | ⟨b, off, rfl, h⟩
  · exact .inl h
  · exact .inr ⟨b, off, rfl, fun i hi => ⟨k _ ⟨_, _, (h i hi).1⟩ _ _ (h i hi).1, k _ ⟨_, _, (h i hi).1⟩ _ _ (h i hi).2⟩⟩
theorem Kn.fact {w w' : World} (k : Kn w w') {b off : Nat} {f : Rl.Fc} (h : FactIn w b off f) : FactIn w' b off f := by
  obtain ⟨h1, u, h2, h3⟩ := h
  exact ⟨k _ ⟨_, _, h1⟩ _ _ h1, u, k _ ⟨_, _, h1⟩ _ _ h2, k.ints h3⟩
theorem Kn.facts {w w' : World} (k : Kn w w') {v : Value} {l : List Rl.Fc} (h : FactsV w v l) : FactsV w' v l := by
  obtain ⟨ao, cap, rfl, hc, h⟩ := h
  refine ⟨ao, cap, rfl, hc, ?_⟩
  rcases h with h | ⟨b, off, rfl, h⟩
  · exact .inl h
  · exact .inr ⟨b, off, rfl, fun i hi => k.fact (h i hi)⟩
theorem UvOk.kn {w w' : World} {x : Uv} (h : UvOk w x) (k : Kn w w') : UvOk w' x := ⟨k.ids h.p, k.facts h.s, k.ids h.t, h.f, h.l⟩
theorem UpsV.kn {w w' : World} {v : Value} {q : List Uv} (h : UpsV w v q) (k : Kn w w') : UpsV w' v q := by
  obtain ⟨ao, cap, e, hc, h⟩ := h
  refine ⟨ao, cap, e, hc, ?_⟩
  rcases h with h | ⟨b, off, rfl, h⟩
  · exact .inl h
  · refine .inr ⟨b, off, rfl, fun i hi => ?_⟩
    obtain ⟨h0, h1, h2, h3, h4⟩ := h i hi
    exact ⟨k _ ⟨_, _, h0⟩ _ _ h0, k _ ⟨_, _, h0⟩ _ _ h1, k _ ⟨_, _, h0⟩ _ _ h2, k _ ⟨_, _, h0⟩ _ _ h3, k _ ⟨_, _, h0⟩ _ _ h4⟩
/-- .. a box of two slices, one after the other. -/
def two (z : World) (F : Nat) (u v : Value) : World := (z.setCell ⟨F, 0, none⟩ u).setCell ⟨F, 1, none⟩ v
theorem two_heap {z : World} {F : Nat} {x y u v : Value} {t : TypeId} (h : z.heap[F]? = some (.cells #[x, y] t)) : (two z F u v).heap[F]? = some (.cells #[u, v] t) := by
  unfold two
  have h1 : (z.setCell ⟨F, 0, none⟩ u).heap[F]? = some (.cells #[u, y] t) := by rw [Lib.heap_setCell_same h]; rfl
  rw [Lib.heap_setCell_same h1]
  rfl
theorem two_other {z : World} {F : Nat} {u v : Value} {b : Nat} (h : b ≠ F) : (two z F u v).heap[b]? = z.heap[b]? := by
  unfold two
  rw [Below.heap_setCell _ _ _ _ h, Below.heap_setCell _ _ _ _ h]
theorem two_kn {z : World} {F : Nat} {ax ay : Option Addr} {nx cx ny cy : Nat} {u v : Value} {t : TypeId} (h : z.heap[F]? = some (.cells #[.slice ax nx cx, .slice ay ny cy] t)) : Kn z (two z F u v) := fun b hb o x e => by
  have hne : b ≠ F := fun e2 => by
    subst e2
    obtain ⟨p, n, hp⟩ := hb
    rw [Lib.cell_of_heap h] at hp
    match p with
    | 0 => cases hp
    | 1 => cases hp
    | _ + 2 => cases hp
  rw [cell_heap (two_other hne)]
  exact e
/-- A box of two slices stands there. -/
def Bx (w : World) (b : Nat) : Prop := ∃ a1 n1 c1 a2 n2 c2, w.heap[b]? = some (.cells #[.slice a1 n1 c1, .slice a2 n2 c2] 24)
theorem Bx.below {w w' : World} {b : Nat} (h : Bx w b) (hb : Below w.heap.size w w') : Bx w' b := by
  obtain ⟨a1, n1, c1, a2, n2, c2, h⟩ := h
  exact ⟨a1, n1, c1, a2, n2, c2, (hb.block _ (Array.getElem?_eq_some_iff.1 h).1).trans h⟩
/-- From world to world: all below B stands, all blocks with numbers, and a box stays a box. -/
def Rb (B : Nat) (w w' : World) : Prop := Below B w w' ∧ Kn w w' ∧ ∀ b, Bx w b → Bx w' b
theorem Rb.trans {B : Nat} {a b c : World} (h : Rb B a b) (k : Rb B b c) : Rb B a c := ⟨h.1.trans k.1, h.2.1.trans k.2.1, fun i hi => k.2.2 i (h.2.2 i hi)⟩
theorem Rb.refl (B : Nat) (w : World) : Rb B w w := ⟨Below.refl _ _, fun _ _ _ _ e => e, fun _ h => h⟩
theorem Rb.of {B : Nat} {w w' : World} (h : Below w.heap.size w w') (hB : B ≤ w.heap.size) : Rb B w w' := ⟨h.mono hB, Kn.below h, fun _ hb => hb.below h⟩
theorem Rb.draw (B : Nat) (w : World) : Rb B w { w with drawn := w.drawn + 1 } := ⟨(Below.refl B w).drew, fun _ _ _ _ e => e, fun _ h => h⟩
theorem Rb.two {B : Nat} {z : World} {F : Nat} {a1 a2 b1 b2 : Option Addr} {n1 c1 n2 c2 m1 d1 m2 d2 : Nat} (h : z.heap[F]? = some (.cells #[.slice a1 n1 c1, .slice a2 n2 c2] 24)) (hF : B ≤ F) : Rb B z (two z F (.slice b1 m1 d1) (.slice b2 m2 d2)) := by
  refine ⟨((Below.refl B z).setCell (p := ⟨F, 0, none⟩) hF _).setCell (p := ⟨F, 1, none⟩) hF _, two_kn h, fun b hb => ?_⟩
  by_cases e : b = F
  · subst e
    exact ⟨_, _, _, _, _, _, two_heap h⟩
  · obtain ⟨p1, q1, r1, p2, q2, r2, hb⟩ := hb
    exact ⟨p1, q1, r1, p2, q2, r2, (two_other e).trans hb⟩
/-- A pointer to a box. -/
def Bxp (B : Nat) (w : World) (v : Value) : Prop := ∃ b, v = .pointer (some ⟨b, 0, none⟩) ∧ Bx w b ∧ B ≤ b
theorem Bxp.rb {B C : Nat} {w w' : World} {v : Value} (h : Bxp B w v) (k : Rb C w w') : Bxp B w' v := by
  obtain ⟨b, e, h, l⟩ := h
  exact ⟨b, e, k.2.2 b h, l⟩
theorem bxp_new (B : Nat) (y : World) (hB : B ≤ y.heap.size) : Bxp B (y.alloc (.cells #[.slice none 0 0, .slice none 0 0] 24)) (.pointer (some ⟨y.heap.size, 0, none⟩)) := ⟨_, rfl, ⟨_, _, _, _, _, _, heap_alloc_new y _⟩, hB⟩
end Go.Proofs.YtmfaodapofamfaaGreat

/- A region by a table, with a store among its operations: worlds behind are such as a relation says; one operation S leaves a fact D. -/
namespace Go.Proofs.YtmfaodapofamfaaGreat
open Go.RowKit

/-- All that is written is written once, and within the frame; what must be waited for stands ahead. -/
def tabFineR (ops : Array Oper) (n : Nat) : Bool :=
  decide ((ops.toList.filterMap (·.dst)).Nodup) && (ops.toList.filterMap (·.dst)).all (fun t => decide (t < n)) && (List.range ops.size).all (fun i => ((ops[i]?).map (fun o => o.after.toList.all (fun e => !Region.binds .any e || decide (e.on < i)))).getD true)
def waitedBy (ops : Array Oper) (S i : Nat) : Bool := ((ops[S]?).map fun o => o.after.toList.any fun e => Region.binds .any e && e.on == i).getD false
structure TabbedR (R : World → World → Prop) (ops : Array Oper) (T : Nat → Value → World → Prop) (a0 : Act) (w0 : World) (s : Array Bool) (a : Act) (w : World) : Prop where
  below : R w0 w
  defers : a.defers = a0.defers
  size : a.tmps.size = a0.tmps.size
  still : ∀ t, t ∉ ops.toList.filterMap (·.dst) → a.tmps.getD t undef = a0.tmps.getD t undef
  done : ∀ (i : Nat) (o : Oper) (t : Nat), s[i]? = some true → ops[i]? = some o → o.dst = some t → T t (a.tmps.getD t undef) w
structure OpInR (R : World → World → Prop) (ops : Array Oper) (T : Nat → Value → World → Prop) (a0 : Act) (w0 : World) (o : Oper) (a : Act) (w : World) : Prop where
  below : R w0 w
  still : ∀ t, t ∉ ops.toList.filterMap (·.dst) → a.tmps.getD t undef = a0.tmps.getD t undef
  has : ∀ e, e ∈ o.after → Region.binds .any e = true → ∀ (o' : Oper) (t : Nat), ops[e.on]? = some o' → o'.dst = some t → T t (a.tmps.getD t undef) w
  size : a.tmps.size = a0.tmps.size
def OpOkR (P : Program) (R : World → World → Prop) (ops : Array Oper) (Q : Exit → Act → World → Prop) (T : Nat → Value → World → Prop) (S : Nat) (D : Act → World → Prop) (i : Nat) (o : Oper) (a : Act) (w : World) : Prop :=
  Region.wanted o (yielded ops a.tmps) = true ∧ o.wp P a w (fun a' w' => ∃ v, a' = a.put o.dst v ∧ (∀ t, o.dst = some t → T t v w') ∧ R w w' ∧ (i = S → D (a.put o.dst v) w') ∧ (waitedBy ops S i = false → ¬ i = S → D a w → D (a.put o.dst v) w')) Q
section
variable {P : Program} {ops : Array Oper} {Q : Exit → Act → World → Prop} {R : World → World → Prop} {T : Nat → Value → World → Prop} {a0 : Act} {w0 : World} {o : Oper} {a : Act} {w : World} {S i : Nat} {D : Act → World → Prop}
theorem OpInR.of (h : OpInR R ops T a0 w0 o a w) (t : Nat) (hw : waitsFor ops o t = true) : T t (a.tmps.getD t undef) w := by
  unfold waitsFor at hw
  rw [List.any_eq_true] at hw
  obtain ⟨e, he, hw⟩ := hw
  rw [Bool.and_eq_true] at hw
  cases ho : ops[e.on]? with
  | none => rw [ho] at hw; simp at hw
  | some o' =>
    rw [ho] at hw
    exact h.has e (by simpa using he) hw.1 o' t ho (by simpa using hw.2)
theorem OpInR.old (h : OpInR R ops T a0 w0 o a w) (t : Nat) (hs : stays ops t = true) : a.tmps.getD t undef = a0.tmps.getD t undef := by
  refine h.still t ?_
  unfold stays at hs
  simpa [List.contains_iff_mem] using hs
theorem opOkR_val {v : Value} {w' : World} (hw : Region.wanted o (yielded ops a.tmps) = true) (hr : (execOp a.eval o).run P w = .ok (.value v) w') (hT : ∀ t, o.dst = some t → T t v w') (hb : R w w') (hS : i = S → D (a.put o.dst v) w') (hD : waitedBy ops S i = false → ¬ i = S → D a w → D (a.put o.dst v) w') : OpOkR P R ops Q T S D i o a w := by
  refine ⟨hw, ?_⟩
  unfold Oper.wp
  rw [hr, Oper.upon_value]
  exact ⟨v, rfl, hT, hb, hS, hD⟩
theorem opOkR_void {w' : World} (hw : Region.wanted o (yielded ops a.tmps) = true) (hr : (execOp a.eval o).run P w = .ok .skip w') (hd : o.dst = none) (hb : R w w') (hS : i = S → D a w') (hD : waitedBy ops S i = false → ¬ i = S → D a w → D a w') : OpOkR P R ops Q T S D i o a w := by
  refine ⟨hw, ?_⟩
  unfold Oper.wp
  rw [hr, Oper.upon_skip]
  refine ⟨undef, rfl, fun t ht => (by rw [hd] at ht; cases ht), hb, fun h => ?_, fun h1 h2 h3 => ?_⟩
  · rw [hd]; exact hS h
  · rw [hd]; exact hD h1 h2 h3
theorem opOkR_call {f : FuncId} {args : Array Value} (hw : Region.wanted o (yielded ops a.tmps) = true) (hr : (execOp a.eval o).run P w = .ok (.enter f args) w)
    (hc : Calls P f args w fun e w' => ∃ v, e = .returned v ∧ (∀ t, o.dst = some t → T t v w') ∧ R w w' ∧ (i = S → D (a.put o.dst v) w') ∧ (waitedBy ops S i = false → ¬ i = S → D a w → D (a.put o.dst v) w')) : OpOkR P R ops Q T S D i o a w := by
  refine ⟨hw, ?_⟩
  unfold Oper.wp
  rw [hr, Oper.upon_enter]
  refine Calls.mono hc ?_
  rintro e w' ⟨v, rfl, h⟩
  exact ⟨v, rfl, h⟩
def AllOpsI (Φ : Nat → Oper → Prop) : Nat → List Oper → Prop
  | _, [] => True
  | i, o :: l => Φ i o ∧ AllOpsI Φ (i + 1) l
theorem AllOpsI.cons {Φ : Nat → Oper → Prop} {i : Nat} {o : Oper} {l : List Oper} (h : Φ i o) (hl : AllOpsI Φ (i + 1) l) : AllOpsI Φ i (o :: l) := ⟨h, hl⟩
theorem AllOpsI.nil {Φ : Nat → Oper → Prop} {i : Nat} : AllOpsI Φ i [] := trivial
theorem AllOpsI.get {Φ : Nat → Oper → Prop} : ∀ (l : List Oper) (i : Nat), AllOpsI Φ i l → ∀ j o, l[j]? = some o → Φ (i + j) o
  | [], _, _, j, o, h => by simp at h
  | x :: l, i, hA, j, o, h => by
    cases j with
    | zero => simp only [List.getElem?_cons_zero, Option.some.injEq] at h; subst h; exact hA.1
    | succ j =>
      simp only [List.getElem?_cons_succ] at h
      have := AllOpsI.get l (i + 1) hA.2 j o h
      rw [show i + (j + 1) = i + 1 + j by omega]
      exact this
theorem wp_region_tabR (R : World → World → Prop) (hRt : ∀ a b c, R a b → R b c → R a c) (hRd : ∀ w, R w { w with drawn := w.drawn + 1 }) (T : Nat → Value → World → Prop) (S : Nat) (D : Act → World → Prop) (hS : S < ops.size) {id : Nat} {a0 : Act} {w0 : World} (hm : P.follows .mixedOrders = true)
    (hf : tabFineR ops a0.tmps.size = true)
    (hmono : ∀ t v w w', R w w' → T t v w → T t v w')
    (hopA : AllOpsI (fun i o => ∀ a w, OpInR R ops T a0 w0 o a w → OpOkR P R ops Q T S D i o a w) 0 ops.toList)
    (hend : ∀ a w, R w0 w → D a w → a.defers = a0.defers → a.tmps.size = a0.tmps.size → (∀ t, t ∉ ops.toList.filterMap (·.dst) → a.tmps.getD t undef = a0.tmps.getD t undef) → (∀ t, t ∈ ops.toList.filterMap (·.dst) → T t (a.tmps.getD t undef) w) → Q .normal a w) :
    (Code.region id ops true).wp P Q a0 w0 := by
  have hop : ∀ (i : Nat) (o : Oper), ops[i]? = some o → ∀ a w, OpInR R ops T a0 w0 o a w → OpOkR P R ops Q T S D i o a w := fun i o ho => by
    have := AllOpsI.get ops.toList 0 hopA i o (by rw [Array.getElem?_toList]; exact ho)
    rw [Nat.zero_add] at this
    exact this
  unfold tabFineR at hf
  rw [Bool.and_eq_true, Bool.and_eq_true] at hf
  obtain ⟨⟨hnd, hlt⟩, hah⟩ := hf
  have hnd := of_decide_eq_true hnd
  have hlt' : ∀ t, t ∈ ops.toList.filterMap (·.dst) → t < a0.tmps.size := fun t ht => by
    have h := List.all_eq_true.mp hlt t ht
    exact of_decide_eq_true h
  have hah' : ∀ (i : Nat) (o : Oper), ops[i]? = some o → ∀ e, e ∈ o.after → Region.binds .any e = true → e.on < i := fun i o ho e he hbe => by
    have hi : i < ops.size := (Array.getElem?_eq_some_iff.mp ho).1
    have h := List.all_eq_true.mp hah i (List.mem_range.mpr hi)
    rw [ho, Option.map_some, Option.getD_some] at h
    have h9 := List.all_eq_true.mp h e (by simpa using he)
    rw [hbe] at h9
    exact of_decide_eq_true (by simpa using h9)
  have hset : ∀ {T : Nat → Value → World → Prop} {s : Array Bool} {a : Act} {w w' : World} {i : Nat} {o : Oper} {v : Value}, (∀ t v w w', R w w' → T t v w → T t v w') → s.size = ops.size → ops[i]? = some o → TabbedR R ops T a0 w0 s a w → (∀ t, o.dst = some t → T t v w') → R w w' → TabbedR R ops T a0 w0 (s.setIfInBounds i true) (a.put o.dst v) w' := by
    intro T s a w w' i o v hmono hs ho hI hv hb
    refine ⟨hRt _ _ _ hI.below hb, by rw [put_defers]; exact hI.defers, by rw [put_size]; exact hI.size, fun t ht => ?_, fun j oj t hj hoj hd => ?_⟩
    · cases hd : o.dst with
      | none => exact hI.still t ht
      | some u =>
        have hne : t ≠ u := fun h => ht (h ▸ dst_mem ho hd)
        rw [put_get_ne hne]
        exact hI.still t ht
    · by_cases hij : j = i
      · subst hij
        rw [ho] at hoj
        cases hoj
        rw [hd, put_get_self (by rw [hI.size]; exact hlt' t (dst_mem ho hd))]
        exact hv t hd
      · have hj' : s[j]? = some true := by
          rw [Array.getElem?_setIfInBounds, if_neg (fun h => hij h.symm)] at hj
          exact hj
        have h1 := hmono t _ w w' hb (hI.done j oj t hj' hoj hd)
        cases hd2 : o.dst with
        | none => exact h1
        | some u =>
          have hne : t ≠ u := fun h => hij (dst_inj ops.toList hnd j i oj o t (by rw [Array.getElem?_toList]; exact hoj) (by rw [Array.getElem?_toList]; exact ho) hd (h ▸ hd2))
          rw [put_get_ne hne]
          exact h1
  refine wp_region_inv (fun s a w => s.size = ops.size ∧ TabbedR R ops T a0 w0 s a w ∧ (s[S]? = some true → D a w ∧ ∀ i, waitedBy ops S i = true → s[i]? = some true)) hm ?_ ?_ ?_
  · rintro s a w hr ⟨hs, hI, hDs⟩
    have hall : ∀ n : Nat, n ≤ ops.size → ∀ i : Nat, i < n → s[i]? = some true := by
      intro n
      induction n with
      | zero => intro _ i hi; exact absurd hi (Nat.not_lt_zero _)
      | succ n ih =>
        intro hn i hi
        have ih := ih (by omega)
        by_cases hin : i < n
        · exact ih i hin
        · have hin : i = n := by omega
          subst hin
          cases hsi : s[i]? with
          | none => rw [Array.getElem?_eq_none_iff] at hsi; omega
          | some b =>
            cases b with
            | true => rfl
            | false =>
              exfalso
              have hio : i < ops.size := by omega
              have : i ∈ Region.ready .any ops s := by
                unfold Region.ready
                refine List.mem_filter.mpr ⟨List.mem_range.mpr hio, ?_⟩
                rw [Bool.and_eq_true]
                refine ⟨by simp [Array.getD_eq_getD_getElem?, hsi], ?_⟩
                have ho : ops[i]? = some ops[i] := Array.getElem?_eq_getElem hio
                rw [ho, Option.map_some, Option.getD_some, Array.all_eq_true_iff_forall_mem]
                intro e he
                cases hbe : Region.binds .any e with
                | false => rfl
                | true =>
                  have h1 := ih e.on (hah' i _ ho e he hbe)
                  simp [Array.getD_eq_getD_getElem?, h1]
              rw [hr] at this
              exact absurd this (by simp)
    refine hend a w hI.below (hDs (hall ops.size (Nat.le_refl _) S hS)).1 hI.defers hI.size hI.still (fun t ht => ?_)
    obtain ⟨o, ho, hd⟩ := List.mem_filterMap.mp ht
    obtain ⟨i, hi⟩ := List.mem_iff_getElem?.mp ho
    rw [Array.getElem?_toList] at hi
    exact hI.done i o t (hall ops.size (Nat.le_refl _) i (Array.getElem?_eq_some_iff.mp hi).1) hi hd
  · rintro s a w i hi ⟨hs, hI, hDs⟩
    obtain ⟨hsi, o, ho, haf⟩ := ready_mem hi
    have h := hop i o ho a w ⟨hI.below, hI.still, fun e he hb o' t ho' hd => hI.done e.on o' t (haf e he hb) ho' hd, hI.size⟩
    have hss : (s.setIfInBounds i true).size = ops.size := by simp [hs]
    obtain ⟨hw, h⟩ := h
    unfold wpOp
    rw [ho]
    dsimp only
    rw [if_pos hw]
    left
    refine Oper.wp_mono ?_ h
    rintro a' w' ⟨v, rfl, hv, hb, hSS, hDD⟩
    refine ⟨hss, hset hmono hs ho hI hv hb, fun hS1 => ?_⟩
    have hup : ∀ j, s[j]? = some true → (s.setIfInBounds i true)[j]? = some true := fun j hj => by
      rw [Array.getElem?_setIfInBounds]
      split
      · rename_i h9
        subst h9
        rw [hsi] at hj
        cases hj
      · exact hj
    by_cases hiS : i = S
    · refine ⟨hSS hiS, fun j hj => hup j ?_⟩
      subst hiS
      unfold waitedBy at hj
      rw [ho, Option.map_some, Option.getD_some, List.any_eq_true] at hj
      obtain ⟨e, he, h9⟩ := hj
      rw [Bool.and_eq_true] at h9
      have := haf e (by simpa using he) h9.1
      rw [(by simpa using h9.2 : e.on = j)] at this
      exact this
    · rw [Array.getElem?_setIfInBounds, if_neg hiS] at hS1
      obtain ⟨hD1, hW1⟩ := hDs hS1
      refine ⟨?_, fun j hj => hup j (hW1 j hj)⟩
      cases hwi : waitedBy ops S i with
      | true =>
        have := hW1 i hwi
        rw [hsi] at this
        cases this
      | false => exact hDD hwi hiS hD1
  · refine ⟨by simp, ⟨hRd w0, rfl, rfl, fun _ _ => rfl, fun i o t h _ _ => ?_⟩, fun h => ?_⟩
    · rw [Array.getElem?_replicate] at h
      split at h <;> simp at h
    · rw [Array.getElem?_replicate] at h
      split at h <;> simp at h
end
end Go.Proofs.YtmfaodapofamfaaGreat

/- dagBegun. -/
namespace Go.Proofs.YtmfaodapofamfaaGreat
open Go.RowKit

theorem UpV.below {w w' : World} {u : Wr.Up} {vp vs vt : Value} (h : UpV w u vp vs vt) (hb : Below w.heap.size w w') : UpV w' u vp vs vt := ⟨idsV_below h.1 hb, factsV_below h.2.1 hb, idsV_below h.2.2.1 hb, h.2.2.2.1, h.2.2.2.2⟩
def Up1 (u : Wr.Up) (w : World) (v : Value) : Prop := ∃ a1 n1 c1 a2 n2 c2 a3 n3 c3, v = .agg #[.int .i64 u.id.a, .int .i64 u.id.n, .slice a1 n1 c1, .slice a2 n2 c2, .slice a3 n3 c3] ∧ UpV w u (.slice a1 n1 c1) (.slice a2 n2 c2) (.slice a3 n3 c3)
theorem Up1.below {u : Wr.Up} {w w' : World} {v : Value} (h : Up1 u w v) (hb : Below w.heap.size w w') : Up1 u w' v := by
  obtain ⟨a1, n1, c1, a2, n2, c2, a3, n3, c3, e, h⟩ := h
  exact ⟨a1, n1, c1, a2, n2, c2, a3, n3, c3, e, h.below hb⟩
theorem Up1.kn {u : Wr.Up} {w w' : World} {v : Value} (h : Up1 u w v) (hb : Kn w w') : Up1 u w' v := by
  obtain ⟨a1, n1, c1, a2, n2, c2, a3, n3, c3, e, h⟩ := h
  exact ⟨a1, n1, c1, a2, n2, c2, a3, n3, c3, e, hb.ids h.1, hb.facts h.2.1, hb.ids h.2.2.1, h.2.2.2.1, h.2.2.2.2⟩
theorem up1_of {u : Wr.Up} {w : World} {vp vs vt : Value} (h : UpV w u vp vs vt) : Up1 u w (upVal u vp vs vt) := by
  obtain ⟨a1, c1, rfl, _⟩ := id h.1
  obtain ⟨a2, c2, rfl, _⟩ := id h.2.1
  obtain ⟨a3, c3, rfl, _⟩ := id h.2.2.1
  exact ⟨a1, _, c1, a2, _, c2, a3, _, c3, rfl, h⟩
def Ups2 (w : World) (v : Value) : Prop := ∃ a, v = .slice a 2 2 ∧ ∃ R1 R2, UpsV w (.slice a 2 2) [R1, R2] ∧ UvOk w R1 ∧ UvOk w R2 ∧ R1.u = Wr.firstU ∧ R2.u = Wr.secondU
theorem Ups2.below {w w' : World} {v : Value} (h : Ups2 w v) (hb : Below w.heap.size w w') : Ups2 w' v := by
  obtain ⟨a, e, R1, R2, h1, h2, h3, h4, h5⟩ := h
  exact ⟨a, e, R1, R2, h1.kc (Kc.below hb), h2.below hb, h3.below hb, h4, h5⟩
def Rep2 (w : World) (v1 v2 : Value) : Prop := ∃ R1 R2, UpsV w v1 [R1, R2] ∧ UpsV w v2 [] ∧ UvOk w R1 ∧ UvOk w R2 ∧ R1.u = Wr.firstU ∧ R2.u = Wr.secondU
theorem Rep2.kn {w w' : World} {v1 v2 : Value} (h : Rep2 w v1 v2) (hb : Kn w w') : Rep2 w' v1 v2 := by
  obtain ⟨R1, R2, h1, h2, h3, h4, h5, h6⟩ := h
  exact ⟨R1, R2, h1.kn hb, h2.kn hb, h3.kn hb, h4.kn hb, h5, h6⟩
def Ad2 (w : World) (v : Value) : Prop := ∃ a1 c1 a2 c2, v = .tuple #[.agg #[.slice a1 2 c1, .slice a2 0 c2], .int .i64 0] ∧ Rep2 w (.slice a1 2 c1) (.slice a2 0 c2)
theorem Ad2.kn {w w' : World} {v : Value} (h : Ad2 w v) (hb : Kn w w') : Ad2 w' v := by
  obtain ⟨a1, c1, a2, c2, e, h⟩ := h
  exact ⟨a1, c1, a2, c2, e, h.kn hb⟩
def Re2 (w : World) (v : Value) : Prop := ∃ a1 c1 a2 c2, v = .agg #[.slice a1 2 c1, .slice a2 0 c2] ∧ Rep2 w (.slice a1 2 c1) (.slice a2 0 c2)
theorem Re2.kn {w w' : World} {v : Value} (h : Re2 w v) (hb : Kn w w') : Re2 w' v := by
  obtain ⟨a1, c1, a2, c2, e, h⟩ := h
  exact ⟨a1, c1, a2, c2, e, h.kn hb⟩
def dbD2 (B : Nat) (a : Act) (w : World) : Prop := ∃ F, a.tmps.getD 3 undef = .pointer (some ⟨F, 0, none⟩) ∧ B ≤ F ∧ ∃ b1 d1 b2 d2, w.heap[F]? = some (.cells #[.slice b1 2 d1, .slice b2 0 d2] 24) ∧ Rep2 w (.slice b1 2 d1) (.slice b2 0 d2)
def Ids1 (w : World) (v : Value) : Prop := ∃ a, v = .slice a 1 1 ∧ IdsV w (.slice a 1 1) [⟨1, 1⟩]
theorem Ids1.below {w w' : World} {v : Value} (h : Ids1 w v) (hb : Below w.heap.size w w') : Ids1 w' v := by
  obtain ⟨a, e, h⟩ := h
  exact ⟨a, e, idsV_below h hb⟩
def Int1 (w : World) (v : Value) : Prop := ∃ a, v = .slice a 2 2 ∧ IntsV w (.slice a 2 2) [4, 5]
theorem Int1.below {w w' : World} {v : Value} (h : Int1 w v) (hb : Below w.heap.size w w') : Int1 w' v := by
  obtain ⟨a, e, h⟩ := h
  exact ⟨a, e, intsV_below h hb⟩
def Fc1 (w : World) (v : Value) : Prop := ∃ a, v = .agg #[.int .i64 0, .slice a 2 2] ∧ IntsV w (.slice a 2 2) [4, 5]
theorem Fc1.below {w w' : World} {v : Value} (h : Fc1 w v) (hb : Below w.heap.size w w') : Fc1 w' v := by
  obtain ⟨a, e, h⟩ := h
  exact ⟨a, e, intsV_below h hb⟩
def Fa1 (w : World) (v : Value) : Prop := ∃ a, v = .slice a 1 1 ∧ FactsV w (.slice a 1 1) [⟨0, [4, 5]⟩]
theorem Fa1.below {w w' : World} {v : Value} (h : Fa1 w v) (hb : Below w.heap.size w w') : Fa1 w' v := by
  obtain ⟨a, e, h⟩ := h
  exact ⟨a, e, factsV_below h hb⟩
theorem ups2_new {y : World} {p1 p2 p3 p4 p5 p6 : Option Addr} {n1 n2 n3 n4 n5 n6 q1 q2 q3 q4 q5 q6 : Nat} (hU : UpV y Wr.firstU (.slice p1 n1 q1) (.slice p2 n2 q2) (.slice p3 n3 q3)) (hV : UpV y Wr.secondU (.slice p4 n4 q4) (.slice p5 n5 q5) (.slice p6 n6 q6)) :
    Ups2 (y.alloc (.cells #[.int .i64 0, .int .i64 1, .slice p1 n1 q1, .slice p2 n2 q2, .slice p3 n3 q3, .int .i64 1, .int .i64 1, .slice p4 n4 q4, .slice p5 n5 q5, .slice p6 n6 q6] 30)) (.slice (some ⟨y.heap.size, 0, none⟩) 2 2) := by
  have hb := new_below y (.cells #[.int .i64 0, .int .i64 1, .slice p1 n1 q1, .slice p2 n2 q2, .slice p3 n3 q3, .int .i64 1, .int .i64 1, .slice p4 n4 q4, .slice p5 n5 q5, .slice p6 n6 q6] 30)
  have hh := heap_alloc_new y (.cells #[.int .i64 0, .int .i64 1, .slice p1 n1 q1, .slice p2 n2 q2, .slice p3 n3 q3, .int .i64 1, .int .i64 1, .slice p4 n4 q4, .slice p5 n5 q5, .slice p6 n6 q6] 30)
  refine ⟨_, rfl, ⟨Wr.firstU, _, _, _⟩, ⟨Wr.secondU, _, _, _⟩, ⟨_, _, rfl, ⟨Nat.le_refl _, (fun h => by cases h)⟩, .inr ⟨_, 0, rfl, fun i hi => ?_⟩⟩, (hU.below hb).ok, (hV.below hb).ok, rfl, rfl⟩
  match i, hi with
  | 0, _ => exact ⟨by rw [Lib.cell_of_heap hh]; rfl, by rw [Lib.cell_of_heap hh]; rfl, by rw [Lib.cell_of_heap hh]; rfl, by rw [Lib.cell_of_heap hh]; rfl, by rw [Lib.cell_of_heap hh]; rfl⟩
  | 1, _ => exact ⟨by rw [Lib.cell_of_heap hh]; rfl, by rw [Lib.cell_of_heap hh]; rfl, by rw [Lib.cell_of_heap hh]; rfl, by rw [Lib.cell_of_heap hh]; rfl, by rw [Lib.cell_of_heap hh]; rfl⟩
theorem ids1_new (y : World) : Ids1 (y.alloc (.cells #[.int .i64 1, .int .i64 1] 26)) (.slice (some ⟨y.heap.size, 0, none⟩) 1 1) := by
  have hh := heap_alloc_new y (.cells #[.int .i64 1, .int .i64 1] 26)
  refine ⟨_, rfl, ⟨_, _, rfl, ⟨Nat.le_refl _, (fun h => by cases h)⟩, .inr ⟨_, 0, rfl, fun i hi => ?_⟩⟩⟩
  match i, hi with
  | 0, _ => exact ⟨by rw [Lib.cell_of_heap hh]; rfl, by rw [Lib.cell_of_heap hh]; rfl⟩
theorem int1_new (y : World) : Int1 (y.alloc (.cells #[.int .i64 4, .int .i64 5] 3)) (.slice (some ⟨y.heap.size, 0, none⟩) 2 2) := by
  have hh := heap_alloc_new y (.cells #[.int .i64 4, .int .i64 5] 3)
  refine ⟨_, rfl, ⟨_, _, rfl, .inr ⟨_, 0, rfl, fun i hi => ?_⟩⟩⟩
  match i, hi with
  | 0, _ => rw [Lib.cell_of_heap hh]; rfl
  | 1, _ => rw [Lib.cell_of_heap hh]; rfl
theorem fa1_new {y : World} {p1 : Option Addr} (h : IntsV y (.slice p1 2 2) [4, 5]) : Fa1 (y.alloc (.cells #[.int .i64 0, .slice p1 2 2] 84)) (.slice (some ⟨y.heap.size, 0, none⟩) 1 1) := by
  have hb := new_below y (.cells #[.int .i64 0, .slice p1 2 2] 84)
  have hh := heap_alloc_new y (.cells #[.int .i64 0, .slice p1 2 2] 84)
  refine ⟨_, rfl, ⟨_, _, rfl, ⟨Nat.le_refl _, (fun h => by cases h)⟩, .inr ⟨_, 0, rfl, fun i hi => ?_⟩⟩⟩
  match i, hi with
  | 0, _ => exact ⟨by rw [Lib.cell_of_heap hh]; rfl, _, by rw [Lib.cell_of_heap hh]; rfl, intsV_below h hb⟩
def dbT2 (B : Nat) (a1 : Option Addr) (c1 : Nat) (a2 : Option Addr) (c2 : Nat) (tQ : Nat) (vQ : Value) (WQ : World) : Prop :=
  match tQ with
  | 16 => vQ = .agg #[.slice a1 0 c1, .slice a2 1 c2]
  | 17 => Up1 Wr.firstU WQ vQ
  | 18 => Ad2 WQ vQ
  | 15 => Ad2 WQ vQ
  | 19 => Re2 WQ vQ
  | 20 => vQ = .int .i64 0
  | 3 => Bxp B WQ vQ
  | 4 => vQ = .int .i64 0
  | _ => True
theorem dbT2_mono (B : Nat) (a1 : Option Addr) (c1 : Nat) (a2 : Option Addr) (c2 : Nat) (C : Nat) (tQ : Nat) (vQ : Value) (W W' : World) (hb : Rb C W W') (h : dbT2 B a1 c1 a2 c2 tQ vQ W) : dbT2 B a1 c1 a2 c2 tQ vQ W' := by
  revert h
  unfold dbT2
  split <;> (intro h; first | exact h | exact Up1.kn h hb.2.1 | exact Ad2.kn h hb.2.1 | exact Re2.kn h hb.2.1 | exact Bxp.rb h hb)
def dbT5 (XA XB : Nat) (a1 : Option Addr) (c1 : Nat) (a2 : Option Addr) (c2 : Nat) (b1 : Option Addr) (d1 : Nat) (b2 : Option Addr) (d2 : Nat) (ah : Option Addr) (ch : Nat) (al : Option Addr) (cl : Nat) (tQ : Nat) (vQ : Value) (WQ : World) : Prop :=
  match tQ with
  | 31 => vQ = .int .i64 0
  | 32 => vQ = .bool true
  | 33 => vQ = .bool true
  | 34 => vQ = .int .i64 0
  | 35 => vQ = .bool true
  | 36 => vQ = .bool true
  | 37 => vQ = .bool true
  | 38 => vQ = .int .i64 0
  | 39 => vQ = .bool true
  | 40 => vQ = .bool true
  | 41 => vQ = .bool true
  | 42 => vQ = .int .i64 0
  | 43 => vQ = .bool true
  | 44 => vQ = .bool true
  | 45 => vQ = .bool true
  | 46 => vQ = .pointer (some ⟨XA, 0, none⟩)
  | 47 => vQ = .slice a1 0 c1
  | 48 => vQ = .int .i64 0
  | 49 => vQ = .bool true
  | 50 => vQ = .bool true
  | 51 => vQ = .bool true
  | 52 => vQ = .pointer (some ⟨XA, 1, none⟩)
  | 53 => vQ = .slice a2 1 c2
  | 54 => vQ = .int .i64 1
  | 55 => vQ = .bool true
  | 56 => vQ = .bool true
  | 57 => vQ = .bool true
  | 58 => vQ = .agg #[.slice b1 2 d1, .slice b2 0 d2]
  | 59 => vQ = .int .i64 0
  | 60 => vQ = .bool true
  | 61 => vQ = .bool true
  | 62 => vQ = .bool true
  | 63 => vQ = .pointer (some ⟨XB, 0, none⟩)
  | 64 => vQ = .slice b1 2 d1
  | 65 => Up1 Wr.firstU WQ vQ
  | 66 => Up1 Wr.secondU WQ vQ
  | 67 => Ups2 WQ vQ
  | 68 => vQ = .bool true
  | 69 => vQ = .bool true
  | 70 => vQ = .bool true
  | 71 => vQ = .slice ah 1 ch
  | 72 => vQ = .agg #[.int .i64 1, .int .i64 1]
  | 73 => Ids1 WQ vQ
  | 74 => vQ = .bool true
  | 75 => vQ = .bool true
  | 76 => vQ = .bool true
  | 77 => vQ = .slice al 1 cl
  | 78 => Int1 WQ vQ
  | 79 => Fc1 WQ vQ
  | 80 => Fa1 WQ vQ
  | 81 => vQ = .bool true
  | 82 => vQ = .bool true
  | 0 => vQ = .bool true
  | _ => True
theorem dbT5_mono (XA XB : Nat) (a1 : Option Addr) (c1 : Nat) (a2 : Option Addr) (c2 : Nat) (b1 : Option Addr) (d1 : Nat) (b2 : Option Addr) (d2 : Nat) (ah : Option Addr) (ch : Nat) (al : Option Addr) (cl : Nat) (tQ : Nat) (vQ : Value) (W W' : World) (hb : Below W.heap.size W W') (h : dbT5 XA XB a1 c1 a2 c2 b1 d1 b2 d2 ah ch al cl tQ vQ W) : dbT5 XA XB a1 c1 a2 c2 b1 d1 b2 d2 ah ch al cl tQ vQ W' := by
  revert h
  unfold dbT5
  split <;> (intro h; first | exact h | exact Up1.below h hb | exact Ad2.below h hb | exact Re2.below h hb | exact Ids1.below h hb | exact Int1.below h hb | exact Fc1.below h hb | exact Fa1.below h hb | exact Ups2.below h hb)

set_option maxRecDepth 100000 in
set_option maxHeartbeats 4000000 in
theorem dagBegun_any (w : World) : Calls Tryz.prog 14 #[] w fun e w' => e = .returned (.bool true) ∧ Below w.heap.size w w' := by
  have HFI : Hid (∀ w, Calls Tryz.prog 53 #[] w fun e w' => ∃ vp vs vt, e = .returned (upVal Wr.firstU vp vs vt) ∧ UpV w' Wr.firstU vp vs vt ∧ Below w.heap.size w w') := first_any
  have HSE : Hid (∀ w, Calls Tryz.prog 52 #[] w fun e w' => ∃ vp vs vt, e = .returned (upVal Wr.secondU vp vs vt) ∧ UpV w' Wr.secondU vp vs vt ∧ Below w.heap.size w w') := second_any
  have HFC : Hid (∀ (p : Int) (a : Option Addr) (n c : Nat) (w : World), Calls Tryz.prog 55 #[.int .i64 p, .slice a n c] w fun e w' => e = .returned (fcVal p (.slice a n c)) ∧ Below w.heap.size w w') := fact_any
  go_enter Tryz.func14, Tryz.ntmps14
  go_upto_region 2 with (first | (go_at_call 52; refine Calls.mono (HSE.out _) ?_; rintro e w1 ⟨vp, vs, vt, rfl, hU, hb1⟩) | (go_at_call 6; refine Calls.mono (add_beg1 w1 ⟨Wr.secondU, vp, vs, vt⟩ hU.ok rfl) ?_; rintro e w2 ⟨a1, c1, a2, c2, R, rfl, h1, h2, h3, h4, hb2⟩))
  have hA := heap_alloc_new w2 (.cells #[.slice a1 0 c1, .slice a2 1 c2] 24)
  have hbA := new_below w2 (.cells #[.slice a1 0 c1, .slice a2 1 c2] 24)
  generalize w2.alloc (.cells #[.slice a1 0 c1, .slice a2 1 c2] 24) = wr at *
  have HB : Hid (Below w.heap.size w wr) := (hb1.trans (hb2.mono hb1.size)).trans (hbA.mono (hb1.trans (hb2.mono hb1.size)).size)
  have HX : Hid (∀ z, Below wr.heap.size wr z → z.cell? ⟨w2.heap.size, 0, none⟩ = some (.slice a1 0 c1) ∧ z.cell? ⟨w2.heap.size, 1, none⟩ = some (.slice a2 1 c2)) := fun z hz => ⟨cell_below hz (by rw [Lib.cell_of_heap hA]; rfl), cell_below hz (by rw [Lib.cell_of_heap hA]; rfl)⟩
  have hXl : w2.heap.size < wr.heap.size := (Array.getElem?_eq_some_iff.1 hA).1
  have HAD : Hid (∀ z (x : Uv), Below wr.heap.size wr z → UvOk z x → x.u = Wr.firstU → Calls Tryz.prog 6 #[.agg #[.slice a1 0 c1, .slice a2 1 c2], uvVal x] z fun e w' => ∃ v, e = .returned v ∧ Ad2 w' v ∧ Below z.heap.size z w') := fun z x hz hx he => by
    have hk : Kc w2 z := Kc.below (hbA.trans (hz.mono hbA.size))
    refine (add_beg2 _ _ z x R (h1.kc hk) (h2.kc hk) (h3.kc hk) hx he h4).mono ?_
    rintro e w' ⟨b1, d1, b2, d2, R1, R2, rfl, k1, k2, k3, k4, k5, k6, k7⟩
    exact ⟨_, rfl, ⟨b1, d1, b2, d2, rfl, R1, R2, k1, k2, k3, k4, k5, k6⟩, k7⟩
  clear h1 h2 h3 h4 hb1 hb2 hbA hA hU
  generalize w2.heap.size = X at *
  skip
  refine wp_region_tabR (Rb wr.heap.size) (fun _ _ _ => Rb.trans) (fun _ => Rb.draw _ _) (dbT2 wr.heap.size a1 c1 a2 c2) 7 (dbD2 wr.heap.size) (by decide) (by kernel_rfl) (by kernel_rfl) (dbT2_mono _ _ _ _ _ _) ?hop2 ?hend2
  case hop2 =>
    refine AllOpsI.cons (fun a y h => ?_) ?_
    · have e1 : a.eval (.tmp 1) = (.pointer (some ⟨X, 0, none⟩) : Value) := h.old 1 (by kernel_rfl)
      obtain ⟨x0, x1⟩ := HX.out y h.below.1
      refine opOkR_val (v := .agg #[.slice a1 0 c1, .slice a2 1 c2]) (w' := y) (wanted_none rfl) ?_ (fun t ht => by cases ht; exact rfl) (Rb.refl _ _) (fun h9 => absurd h9 (by decide)) (fun h9 => absurd h9 (by decide))
      have ec : ∀ v, a.eval (.const v) = v := fun _ => rfl
      generalize a.eval = ev at *
      clear h
      go_simp
    refine AllOpsI.cons (fun a y h => ?_) ?_
    · refine opOkR_call (f := 53) (args := #[]) (wanted_none rfl) ?_ ?_
      · have ec : ∀ v, a.eval (.const v) = v := fun _ => rfl
        have ef : ∀ f, a.eval (.func f) = .func (.func f) #[] #[] := fun _ => rfl
        generalize a.eval = ev at *
        clear h
        go_simp
      · refine Calls.mono (HFI.out y) ?_
        rintro _ y2 ⟨vp, vs, vt, rfl, hU, hb2⟩
        exact ⟨_, rfl, fun t ht => by cases ht; exact up1_of hU, Rb.of hb2 h.below.1.size, fun h9 => absurd h9 (by decide), fun h9 => absurd h9 (by decide)⟩
    refine AllOpsI.cons (fun a y h => ?_) ?_
    · have e16 : a.eval (.tmp 16) = (.agg #[.slice a1 0 c1, .slice a2 1 c2] : Value) := h.of 16 (by kernel_rfl)
      have t17 : Up1 Wr.firstU y (a.eval (.tmp 17)) := h.of 17 (by kernel_rfl)
      obtain ⟨b1, n1, d1, b2, n2, d2, b3, n3, d3, e17, hU⟩ := t17
      replace e17 : a.eval (.tmp 17) = .agg #[.int .i64 0, .int .i64 1, .slice b1 n1 d1, .slice b2 n2 d2, .slice b3 n3 d3] := e17
      refine opOkR_call (f := 6) (args := #[.agg #[.slice a1 0 c1, .slice a2 1 c2], .agg #[.int .i64 0, .int .i64 1, .slice b1 n1 d1, .slice b2 n2 d2, .slice b3 n3 d3]]) (wanted_none rfl) ?_ ?_
      · have ec : ∀ v, a.eval (.const v) = v := fun _ => rfl
        have ef : ∀ f, a.eval (.func f) = .func (.func f) #[] #[] := fun _ => rfl
        generalize a.eval = ev at *
        clear h
        go_simp
      · refine Calls.mono (HAD.out y ⟨Wr.firstU, _, _, _⟩ h.below.1 hU.ok rfl) ?_
        rintro _ y2 ⟨v, rfl, hA, hb2⟩
        exact ⟨_, rfl, fun t ht => by cases ht; exact hA, Rb.of hb2 h.below.1.size, fun h9 => absurd h9 (by decide), fun h9 => absurd h9 (by decide)⟩
    refine AllOpsI.cons (fun a y h => ?_) ?_
    · have t18 : Ad2 y (a.eval (.tmp 18)) := h.of 18 (by kernel_rfl)
      obtain ⟨b1, d1, b2, d2, e18, hR⟩ := t18
      refine opOkR_val (v := .tuple #[.agg #[.slice b1 2 d1, .slice b2 0 d2], .int .i64 0]) (w' := y) (wanted_none rfl) ?_ (fun t ht => by cases ht; exact ⟨_, _, _, _, rfl, hR⟩) (Rb.refl _ _) (fun h9 => absurd h9 (by decide)) (fun h9 => absurd h9 (by decide))
      have ec : ∀ v, a.eval (.const v) = v := fun _ => rfl
      generalize a.eval = ev at *
      clear h
      go_simp
    refine AllOpsI.cons (fun a y h => ?_) ?_
    · have t15 : Ad2 y (a.eval (.tmp 15)) := h.of 15 (by kernel_rfl)
      obtain ⟨b1, d1, b2, d2, e15, hR⟩ := t15
      refine opOkR_val (v := .agg #[.slice b1 2 d1, .slice b2 0 d2]) (w' := y) (wanted_none rfl) ?_ (fun t ht => by cases ht; exact ⟨_, _, _, _, rfl, hR⟩) (Rb.refl _ _) (fun h9 => absurd h9 (by decide)) (fun h9 => absurd h9 (by decide))
      have ec : ∀ v, a.eval (.const v) = v := fun _ => rfl
      generalize a.eval = ev at *
      clear h
      go_simp
    refine AllOpsI.cons (fun a y h => ?_) ?_
    · have t15 : Ad2 y (a.eval (.tmp 15)) := h.of 15 (by kernel_rfl)
      obtain ⟨b1, d1, b2, d2, e15, hR⟩ := t15
      refine opOkR_val (v := .int .i64 0) (w' := y) (wanted_none rfl) ?_ (fun t ht => by cases ht; exact rfl) (Rb.refl _ _) (fun h9 => absurd h9 (by decide)) (fun _ _ hD => by obtain ⟨F, e3, h8, b1, d1, b2, d2, h7⟩ := hD; exact ⟨F, (put_get_ne (by decide)).trans e3, h8, b1, d1, b2, d2, h7⟩)
      have ec : ∀ v, a.eval (.const v) = v := fun _ => rfl
      generalize a.eval = ev at *
      clear h
      go_simp
    refine AllOpsI.cons (fun a y h => ?_) ?_
    · refine opOkR_val (v := .pointer (some ⟨y.heap.size, 0, none⟩)) (w' := y.alloc (.cells #[.slice none 0 0, .slice none 0 0] 24)) (wanted_none rfl) ?_ (fun t ht => by cases ht; exact bxp_new _ y h.below.1.size) (Rb.of (new_below y _) h.below.1.size) (fun h9 => absurd h9 (by decide)) (fun h9 => absurd h9 (by decide))
      have ec : ∀ v, a.eval (.const v) = v := fun _ => rfl
      generalize a.eval = ev at *
      clear h
      go_simp
    refine AllOpsI.cons (fun a y h => ?_) ?_
    · have t3 : Bxp wr.heap.size y (a.eval (.tmp 3)) := h.of 3 (by kernel_rfl)
      have t19 : Re2 y (a.eval (.tmp 19)) := h.of 19 (by kernel_rfl)
      obtain ⟨b1, d1, b2, d2, e19, hR⟩ := t19
      obtain ⟨F, e3, ⟨r1, r2, r3, r4, r5, r6, hF⟩, hFl⟩ := t3
      have z0 : y.cell? ⟨F, 0, none⟩ = some (.slice r1 r2 r3) := by rw [Lib.cell_of_heap hF]; rfl
      have y0 := Lib.frozen_of_heap hF 0
      have k1 : (y.setCell ⟨F, 0, none⟩ (.slice b1 2 d1)).heap[F]? = some (.cells #[.slice b1 2 d1, .slice r4 r5 r6] 24) := by rw [Lib.heap_setCell_same hF]; rfl
      have z1 : (y.setCell ⟨F, 0, none⟩ (.slice b1 2 d1)).cell? ⟨F, 1, none⟩ = some (.slice r4 r5 r6) := by rw [Lib.cell_of_heap k1]; rfl
      have y1 := Lib.frozen_of_heap k1 1
      refine opOkR_void (w' := two y F (.slice b1 2 d1) (.slice b2 0 d2)) (wanted_none rfl) ?_ rfl (Rb.two hF hFl) (fun _ => ⟨F, e3, hFl, b1, d1, b2, d2, two_heap hF, hR.kn (two_kn hF)⟩) (fun _ h9 => absurd rfl h9)
      unfold two
      generalize a.eval = ev at *
      clear h hR
      go_simp
    refine AllOpsI.cons (fun a y h => ?_) ?_
    · have e20 : a.eval (.tmp 20) = (.int .i64 0 : Value) := h.of 20 (by kernel_rfl)
      refine opOkR_val (v := .int .i64 0) (w' := y) (wanted_none rfl) ?_ (fun t ht => by cases ht; exact rfl) (Rb.refl _ _) (fun h9 => absurd h9 (by decide)) (fun _ _ hD => by obtain ⟨F, e3, h8, b1, d1, b2, d2, h7⟩ := hD; exact ⟨F, (put_get_ne (by decide)).trans e3, h8, b1, d1, b2, d2, h7⟩)
      have ec : ∀ v, a.eval (.const v) = v := fun _ => rfl
      generalize a.eval = ev at *
      clear h
      go_simp
    exact AllOpsI.nil
  case hend2 =>
    rintro ⟨tm, df⟩ y2 hI hD hdE hszE hstE hTE
    obtain ⟨F, k3, hFl, b1, d1, b2, d2, hk2, hR2⟩ := hD
    have k4 : tm.getD 4 undef = (.int .i64 0 : Value) := hTE 4 (by decide)
    obtain rfl : df = [] := hdE
    have hb2 := hI.1
    clear hI hTE
    have hF8 := tmps_fold [16, 17, 18, 15, 19, 20, 3, 4] tm _ (hszE.trans (by rfl)) hstE
    clear hszE hstE
    simp only [] at k3
    simp only [List.foldl_cons, List.foldl_nil, k3, k4] at hF8
    clear k3 k4
    generalize tm.getD 16 undef = x16 at hF8
    generalize tm.getD 17 undef = x17 at hF8
    generalize tm.getD 18 undef = x18 at hF8
    generalize tm.getD 15 undef = x15 at hF8
    generalize tm.getD 19 undef = x19 at hF8
    generalize tm.getD 20 undef = x20 at hF8
    simp only [List.setIfInBounds_toArray, List.set_cons_zero, List.set_cons_succ] at hF8
    subst hF8
    have HB2 : Hid (Below w.heap.size w y2) := HB.out.trans (hb2.mono HB.out.size)
    have HC : Hid (∀ z, Below y2.heap.size y2 z → z.cell? ⟨X, 0, none⟩ = some (.slice a1 0 c1) ∧ z.cell? ⟨X, 1, none⟩ = some (.slice a2 1 c2) ∧ z.cell? ⟨F, 0, none⟩ = some (.slice b1 2 d1) ∧ z.cell? ⟨F, 1, none⟩ = some (.slice b2 0 d2)) := fun z hz => ⟨cell_below hz (HX.out _ hb2).1, cell_below hz (HX.out _ hb2).2, cell_below hz (by rw [Lib.cell_of_heap hk2]; rfl), cell_below hz (by rw [Lib.cell_of_heap hk2]; rfl)⟩
    have HALL : Hid (∀ z, Below y2.heap.size y2 z → (Calls Tryz.prog 7 #[.agg #[.slice b1 2 d1, .slice b2 0 d2]] z fun e w' => ∃ v', e = .returned (.tuple #[v', .int .i64 0]) ∧ IdsV w' v' [⟨1, 1⟩] ∧ Below z.heap.size z w') ∧
      (Calls Tryz.prog 8 #[.agg #[.slice b1 2 d1, .slice b2 0 d2]] z fun e w' => ∃ v', e = .returned (.tuple #[v', .int .i64 0]) ∧ FactsV w' v' [⟨0, [4, 5]⟩] ∧ Below z.heap.size z w') ∧
      (Calls Tryz.prog 15 #[.agg #[.slice b1 2 d1, .slice b2 0 d2]] z fun e w' => e = .returned (.int .i64 0) ∧ Below z.heap.size z w')) := fun z hz => by
      obtain ⟨R1, R2, r1, r2, r3, r4, r5, r6⟩ := hR2
      exact beg_all _ _ z R1 R2 (r1.kc (Kc.below hz)) (r2.kc (Kc.below hz)) (r3.below hz) (r4.below hz) r5 r6
    have HSU : Hid (∀ z v, Below y2.heap.size y2 z → (∃ R1 R2, UpsV z v [R1, R2] ∧ UvOk z R1 ∧ UvOk z R2 ∧ R1.u = Wr.firstU ∧ R2.u = Wr.secondU) → Calls Tryz.prog 26 #[.slice b1 2 d1, v] z fun e w' => e = .returned (.bool true) ∧ Below z.heap.size z w') := fun z v hz hv => by
      obtain ⟨R1, R2, r1, r2, r3, r4, r5, r6⟩ := hR2
      obtain ⟨Q1, Q2, q1, q2, q3, q4, q5⟩ := hv
      refine SameUpdates_same [R1, R2] [Q1, Q2] _ _ z (r1.kc (Kc.below hz)) q1 ?_ (by decide : 2 ≤ 1000) ?_ ?_
      · show [R1.u, R2.u] = [Q1.u, Q2.u]
        rw [r5, r6, q4, q5]
      · intro x hx
        have hx : x = R1 ∨ x = R2 := by simpa using hx
        rcases hx with rfl | rfl
        · exact r3.below hz
        · exact r4.below hz
      · intro x hx
        have hx : x = Q1 ∨ x = Q2 := by simpa using hx
        rcases hx with rfl | rfl
        · exact q2
        · exact q3
    obtain ⟨x0, x1, x2, x3⟩ := HC.out y2 (Below.refl _ _)
    clear hk2 hR2 hb2 HX HAD HB hXl hFl
    go_upto_region 4 with (go_at_call 7; refine Calls.mono (HALL.out y2 (Below.refl _ _)).1 ?_; rintro e w7 ⟨vh, rfl, hH, hb7⟩; obtain ⟨ah, ch, rfl, _⟩ := id hH)
    have HH7 : Hid (IdsV w7 (.slice ah 1 ch) [⟨1, 1⟩]) := hH
    have HB7 : Hid (Below y2.heap.size y2 w7) := hb7
    clear x0 x1 x2 x3
    obtain ⟨x0, x1, x2, x3⟩ := HC.out w7 hb7
    clear hH hb7
    go_upto_region 5 with (go_at_call 8; refine Calls.mono (HALL.out w7 HB7.out).2.1 ?_; rintro e w8 ⟨vl, rfl, hL, hb8⟩; obtain ⟨al, cl, rfl, _⟩ := id hL)
    have HF : Hid (FactsV w8 (.slice al 1 cl) [⟨0, [4, 5]⟩]) := hL
    have HH : Hid (IdsV w8 (.slice ah 1 ch) [⟨1, 1⟩]) := idsV_below HH7.out hb8
    have HB8 : Hid (Below y2.heap.size y2 w8) := HB7.out.trans (hb8.mono HB7.out.size)
    have HB9 : Hid (Below w.heap.size w w8) := HB2.out.trans (HB8.out.mono HB2.out.size)
    replace HC : Hid (∀ z, Below w8.heap.size w8 z → _) := fun z hz => HC.out z (HB8.out.trans (hz.mono HB8.out.size))
    replace HALL : Hid (∀ z, Below w8.heap.size w8 z → _) := fun z hz => HALL.out z (HB8.out.trans (hz.mono HB8.out.size))
    replace HSU : Hid (∀ z v, Below w8.heap.size w8 z → _) := fun z v hz => HSU.out z v (HB8.out.trans (hz.mono HB8.out.size))
    clear x0 x1 x2 x3 hL hb8 HB8 HB7 HB2 HH7
    skip
    refine wp_region_tabA (dbT5 X F a1 c1 a2 c2 b1 d1 b2 d2 ah ch al cl) (by kernel_rfl) (by kernel_rfl) (dbT5_mono _ _ _ _ _ _ _ _ _ _ _ _ _ _) ?hop ?hend
    case hop =>
      refine AllOps.cons (fun a y h => ?_) ?_
      · have e2 : a.eval (.tmp 2) = (.int .i64 0 : Value) := h.old 2 (by kernel_rfl)
        refine opOk_val (v := .int .i64 0) (w' := y) (wanted_none rfl) ?_ (fun t ht => by cases ht; exact rfl) (Below.refl _ _)
        have ec : ∀ v, a.eval (.const v) = v := fun _ => rfl
        generalize a.eval = ev at *
        clear h
        go_simp
      refine AllOps.cons (fun a y h => ?_) ?_
      · have e31 : a.eval (.tmp 31) = (.int .i64 0 : Value) := h.of 31 (by kernel_rfl)
        refine opOk_val (v := .bool true) (w' := y) (wanted_none rfl) ?_ (fun t ht => by cases ht; exact rfl) (Below.refl _ _)
        have ec : ∀ v, a.eval (.const v) = v := fun _ => rfl
        generalize a.eval = ev at *
        clear h
        go_simp
      refine AllOps.cons (fun a y h => ?_) ?_
      · have e32 : a.eval (.tmp 32) = (.bool true : Value) := h.of 32 (by kernel_rfl)
        refine opOk_val (v := .bool true) (w' := y) (wanted_none rfl) ?_ (fun t ht => by cases ht; exact rfl) (Below.refl _ _)
        have ec : ∀ v, a.eval (.const v) = v := fun _ => rfl
        generalize a.eval = ev at *
        clear h
        go_simp
      refine AllOps.cons (fun a y h => ?_) ?_
      · have e4 : a.eval (.tmp 4) = (.int .i64 0 : Value) := h.old 4 (by kernel_rfl)
        refine opOk_val (v := .int .i64 0) (w' := y) (wanted_some (j := 2) (t := 33) (b := true) rfl rfl rfl (h.of 33 (by kernel_rfl))) ?_ (fun t ht => by cases ht; exact rfl) (Below.refl _ _)
        have ec : ∀ v, a.eval (.const v) = v := fun _ => rfl
        generalize a.eval = ev at *
        clear h
        go_simp
      refine AllOps.cons (fun a y h => ?_) ?_
      · have e34 : a.eval (.tmp 34) = (.int .i64 0 : Value) := h.of 34 (by kernel_rfl)
        refine opOk_val (v := .bool true) (w' := y) (wanted_some (j := 2) (t := 33) (b := true) rfl rfl rfl (h.of 33 (by kernel_rfl))) ?_ (fun t ht => by cases ht; exact rfl) (Below.refl _ _)
        have ec : ∀ v, a.eval (.const v) = v := fun _ => rfl
        generalize a.eval = ev at *
        clear h
        go_simp
      refine AllOps.cons (fun a y h => ?_) ?_
      · have e33 : a.eval (.tmp 33) = (.bool true : Value) := h.of 33 (by kernel_rfl)
        have e35 : a.eval (.tmp 35) = (.bool true : Value) := h.of 35 (by kernel_rfl)
        refine opOk_val (v := .bool true) (w' := y) (wanted_none rfl) ?_ (fun t ht => by cases ht; exact rfl) (Below.refl _ _)
        have ec : ∀ v, a.eval (.const v) = v := fun _ => rfl
        generalize a.eval = ev at *
        clear h
        go_simp
      refine AllOps.cons (fun a y h => ?_) ?_
      · have e36 : a.eval (.tmp 36) = (.bool true : Value) := h.of 36 (by kernel_rfl)
        refine opOk_val (v := .bool true) (w' := y) (wanted_none rfl) ?_ (fun t ht => by cases ht; exact rfl) (Below.refl _ _)
        have ec : ∀ v, a.eval (.const v) = v := fun _ => rfl
        generalize a.eval = ev at *
        clear h
        go_simp
      refine AllOps.cons (fun a y h => ?_) ?_
      · have e6 : a.eval (.tmp 6) = (.int .i64 0 : Value) := h.old 6 (by kernel_rfl)
        refine opOk_val (v := .int .i64 0) (w' := y) (wanted_some (j := 6) (t := 37) (b := true) rfl rfl rfl (h.of 37 (by kernel_rfl))) ?_ (fun t ht => by cases ht; exact rfl) (Below.refl _ _)
        have ec : ∀ v, a.eval (.const v) = v := fun _ => rfl
        generalize a.eval = ev at *
        clear h
        go_simp
      refine AllOps.cons (fun a y h => ?_) ?_
      · have e38 : a.eval (.tmp 38) = (.int .i64 0 : Value) := h.of 38 (by kernel_rfl)
        refine opOk_val (v := .bool true) (w' := y) (wanted_some (j := 6) (t := 37) (b := true) rfl rfl rfl (h.of 37 (by kernel_rfl))) ?_ (fun t ht => by cases ht; exact rfl) (Below.refl _ _)
        have ec : ∀ v, a.eval (.const v) = v := fun _ => rfl
        generalize a.eval = ev at *
        clear h
        go_simp
      refine AllOps.cons (fun a y h => ?_) ?_
      · have e37 : a.eval (.tmp 37) = (.bool true : Value) := h.of 37 (by kernel_rfl)
        have e39 : a.eval (.tmp 39) = (.bool true : Value) := h.of 39 (by kernel_rfl)
        refine opOk_val (v := .bool true) (w' := y) (wanted_none rfl) ?_ (fun t ht => by cases ht; exact rfl) (Below.refl _ _)
        have ec : ∀ v, a.eval (.const v) = v := fun _ => rfl
        generalize a.eval = ev at *
        clear h
        go_simp
      refine AllOps.cons (fun a y h => ?_) ?_
      · have e40 : a.eval (.tmp 40) = (.bool true : Value) := h.of 40 (by kernel_rfl)
        refine opOk_val (v := .bool true) (w' := y) (wanted_none rfl) ?_ (fun t ht => by cases ht; exact rfl) (Below.refl _ _)
        have ec : ∀ v, a.eval (.const v) = v := fun _ => rfl
        generalize a.eval = ev at *
        clear h
        go_simp
      refine AllOps.cons (fun a y h => ?_) ?_
      · have e8 : a.eval (.tmp 8) = (.int .i64 0 : Value) := h.old 8 (by kernel_rfl)
        refine opOk_val (v := .int .i64 0) (w' := y) (wanted_some (j := 10) (t := 41) (b := true) rfl rfl rfl (h.of 41 (by kernel_rfl))) ?_ (fun t ht => by cases ht; exact rfl) (Below.refl _ _)
        have ec : ∀ v, a.eval (.const v) = v := fun _ => rfl
        generalize a.eval = ev at *
        clear h
        go_simp
      refine AllOps.cons (fun a y h => ?_) ?_
      · have e42 : a.eval (.tmp 42) = (.int .i64 0 : Value) := h.of 42 (by kernel_rfl)
        refine opOk_val (v := .bool true) (w' := y) (wanted_some (j := 10) (t := 41) (b := true) rfl rfl rfl (h.of 41 (by kernel_rfl))) ?_ (fun t ht => by cases ht; exact rfl) (Below.refl _ _)
        have ec : ∀ v, a.eval (.const v) = v := fun _ => rfl
        generalize a.eval = ev at *
        clear h
        go_simp
      refine AllOps.cons (fun a y h => ?_) ?_
      · have e41 : a.eval (.tmp 41) = (.bool true : Value) := h.of 41 (by kernel_rfl)
        have e43 : a.eval (.tmp 43) = (.bool true : Value) := h.of 43 (by kernel_rfl)
        refine opOk_val (v := .bool true) (w' := y) (wanted_none rfl) ?_ (fun t ht => by cases ht; exact rfl) (Below.refl _ _)
        have ec : ∀ v, a.eval (.const v) = v := fun _ => rfl
        generalize a.eval = ev at *
        clear h
        go_simp
      refine AllOps.cons (fun a y h => ?_) ?_
      · have e44 : a.eval (.tmp 44) = (.bool true : Value) := h.of 44 (by kernel_rfl)
        refine opOk_val (v := .bool true) (w' := y) (wanted_none rfl) ?_ (fun t ht => by cases ht; exact rfl) (Below.refl _ _)
        have ec : ∀ v, a.eval (.const v) = v := fun _ => rfl
        generalize a.eval = ev at *
        clear h
        go_simp
      refine AllOps.cons (fun a y h => ?_) ?_
      · have e1 : a.eval (.tmp 1) = (.pointer (some ⟨X, 0, none⟩) : Value) := h.old 1 (by kernel_rfl)
        refine opOk_val (v := .pointer (some ⟨X, 0, none⟩)) (w' := y) (wanted_some (j := 14) (t := 45) (b := true) rfl rfl rfl (h.of 45 (by kernel_rfl))) ?_ (fun t ht => by cases ht; exact rfl) (Below.refl _ _)
        have ec : ∀ v, a.eval (.const v) = v := fun _ => rfl
        generalize a.eval = ev at *
        clear h
        go_simp
      refine AllOps.cons (fun a y h => ?_) ?_
      · have e46 : a.eval (.tmp 46) = (.pointer (some ⟨X, 0, none⟩) : Value) := h.of 46 (by kernel_rfl)
        obtain ⟨x0, x1, x2, x3⟩ := HC.out y h.below
        refine opOk_val (v := .slice a1 0 c1) (w' := y) (wanted_some (j := 14) (t := 45) (b := true) rfl rfl rfl (h.of 45 (by kernel_rfl))) ?_ (fun t ht => by cases ht; exact rfl) (Below.refl _ _)
        have ec : ∀ v, a.eval (.const v) = v := fun _ => rfl
        generalize a.eval = ev at *
        clear h
        go_simp
      refine AllOps.cons (fun a y h => ?_) ?_
      · have e47 : a.eval (.tmp 47) = (.slice a1 0 c1 : Value) := h.of 47 (by kernel_rfl)
        refine opOk_val (v := .int .i64 0) (w' := y) (wanted_some (j := 14) (t := 45) (b := true) rfl rfl rfl (h.of 45 (by kernel_rfl))) ?_ (fun t ht => by cases ht; exact rfl) (Below.refl _ _)
        have ec : ∀ v, a.eval (.const v) = v := fun _ => rfl
        generalize a.eval = ev at *
        clear h
        go_simp
      refine AllOps.cons (fun a y h => ?_) ?_
      · have e48 : a.eval (.tmp 48) = (.int .i64 0 : Value) := h.of 48 (by kernel_rfl)
        refine opOk_val (v := .bool true) (w' := y) (wanted_some (j := 14) (t := 45) (b := true) rfl rfl rfl (h.of 45 (by kernel_rfl))) ?_ (fun t ht => by cases ht; exact rfl) (Below.refl _ _)
        have ec : ∀ v, a.eval (.const v) = v := fun _ => rfl
        generalize a.eval = ev at *
        clear h
        go_simp
      refine AllOps.cons (fun a y h => ?_) ?_
      · have e45 : a.eval (.tmp 45) = (.bool true : Value) := h.of 45 (by kernel_rfl)
        have e49 : a.eval (.tmp 49) = (.bool true : Value) := h.of 49 (by kernel_rfl)
        refine opOk_val (v := .bool true) (w' := y) (wanted_none rfl) ?_ (fun t ht => by cases ht; exact rfl) (Below.refl _ _)
        have ec : ∀ v, a.eval (.const v) = v := fun _ => rfl
        generalize a.eval = ev at *
        clear h
        go_simp
      refine AllOps.cons (fun a y h => ?_) ?_
      · have e50 : a.eval (.tmp 50) = (.bool true : Value) := h.of 50 (by kernel_rfl)
        refine opOk_val (v := .bool true) (w' := y) (wanted_none rfl) ?_ (fun t ht => by cases ht; exact rfl) (Below.refl _ _)
        have ec : ∀ v, a.eval (.const v) = v := fun _ => rfl
        generalize a.eval = ev at *
        clear h
        go_simp
      refine AllOps.cons (fun a y h => ?_) ?_
      · have e1 : a.eval (.tmp 1) = (.pointer (some ⟨X, 0, none⟩) : Value) := h.old 1 (by kernel_rfl)
        refine opOk_val (v := .pointer (some ⟨X, 1, none⟩)) (w' := y) (wanted_some (j := 20) (t := 51) (b := true) rfl rfl rfl (h.of 51 (by kernel_rfl))) ?_ (fun t ht => by cases ht; exact rfl) (Below.refl _ _)
        have ec : ∀ v, a.eval (.const v) = v := fun _ => rfl
        generalize a.eval = ev at *
        clear h
        go_simp
      refine AllOps.cons (fun a y h => ?_) ?_
      · have e52 : a.eval (.tmp 52) = (.pointer (some ⟨X, 1, none⟩) : Value) := h.of 52 (by kernel_rfl)
        obtain ⟨x0, x1, x2, x3⟩ := HC.out y h.below
        refine opOk_val (v := .slice a2 1 c2) (w' := y) (wanted_some (j := 20) (t := 51) (b := true) rfl rfl rfl (h.of 51 (by kernel_rfl))) ?_ (fun t ht => by cases ht; exact rfl) (Below.refl _ _)
        have ec : ∀ v, a.eval (.const v) = v := fun _ => rfl
        generalize a.eval = ev at *
        clear h
        go_simp
      refine AllOps.cons (fun a y h => ?_) ?_
      · have e53 : a.eval (.tmp 53) = (.slice a2 1 c2 : Value) := h.of 53 (by kernel_rfl)
        refine opOk_val (v := .int .i64 1) (w' := y) (wanted_some (j := 20) (t := 51) (b := true) rfl rfl rfl (h.of 51 (by kernel_rfl))) ?_ (fun t ht => by cases ht; exact rfl) (Below.refl _ _)
        have ec : ∀ v, a.eval (.const v) = v := fun _ => rfl
        generalize a.eval = ev at *
        clear h
        go_simp
      refine AllOps.cons (fun a y h => ?_) ?_
      · have e54 : a.eval (.tmp 54) = (.int .i64 1 : Value) := h.of 54 (by kernel_rfl)
        refine opOk_val (v := .bool true) (w' := y) (wanted_some (j := 20) (t := 51) (b := true) rfl rfl rfl (h.of 51 (by kernel_rfl))) ?_ (fun t ht => by cases ht; exact rfl) (Below.refl _ _)
        have ec : ∀ v, a.eval (.const v) = v := fun _ => rfl
        generalize a.eval = ev at *
        clear h
        go_simp
      refine AllOps.cons (fun a y h => ?_) ?_
      · have e51 : a.eval (.tmp 51) = (.bool true : Value) := h.of 51 (by kernel_rfl)
        have e55 : a.eval (.tmp 55) = (.bool true : Value) := h.of 55 (by kernel_rfl)
        refine opOk_val (v := .bool true) (w' := y) (wanted_none rfl) ?_ (fun t ht => by cases ht; exact rfl) (Below.refl _ _)
        have ec : ∀ v, a.eval (.const v) = v := fun _ => rfl
        generalize a.eval = ev at *
        clear h
        go_simp
      refine AllOps.cons (fun a y h => ?_) ?_
      · have e56 : a.eval (.tmp 56) = (.bool true : Value) := h.of 56 (by kernel_rfl)
        refine opOk_val (v := .bool true) (w' := y) (wanted_none rfl) ?_ (fun t ht => by cases ht; exact rfl) (Below.refl _ _)
        have ec : ∀ v, a.eval (.const v) = v := fun _ => rfl
        generalize a.eval = ev at *
        clear h
        go_simp
      refine AllOps.cons (fun a y h => ?_) ?_
      · have e3 : a.eval (.tmp 3) = (.pointer (some ⟨F, 0, none⟩) : Value) := h.old 3 (by kernel_rfl)
        obtain ⟨x0, x1, x2, x3⟩ := HC.out y h.below
        refine opOk_val (v := .agg #[.slice b1 2 d1, .slice b2 0 d2]) (w' := y) (wanted_some (j := 26) (t := 57) (b := true) rfl rfl rfl (h.of 57 (by kernel_rfl))) ?_ (fun t ht => by cases ht; exact rfl) (Below.refl _ _)
        have ec : ∀ v, a.eval (.const v) = v := fun _ => rfl
        generalize a.eval = ev at *
        clear h
        go_simp
      refine AllOps.cons (fun a y h => ?_) ?_
      · have e58 : a.eval (.tmp 58) = (.agg #[.slice b1 2 d1, .slice b2 0 d2] : Value) := h.of 58 (by kernel_rfl)
        refine opOk_call (f := 15) (args := #[.agg #[.slice b1 2 d1, .slice b2 0 d2]]) (wanted_some (j := 26) (t := 57) (b := true) rfl rfl rfl (h.of 57 (by kernel_rfl))) ?_ ?_
        · have ec : ∀ v, a.eval (.const v) = v := fun _ => rfl
          have ef : ∀ f, a.eval (.func f) = .func (.func f) #[] #[] := fun _ => rfl
          generalize a.eval = ev at *
          clear h
          go_simp
        · refine Calls.mono (HALL.out y h.below).2.2 ?_
          rintro _ y2 ⟨rfl, hb2⟩
          exact ⟨_, rfl, fun t ht => by cases ht; exact rfl, hb2⟩
      refine AllOps.cons (fun a y h => ?_) ?_
      · have e59 : a.eval (.tmp 59) = (.int .i64 0 : Value) := h.of 59 (by kernel_rfl)
        refine opOk_val (v := .bool true) (w' := y) (wanted_some (j := 26) (t := 57) (b := true) rfl rfl rfl (h.of 57 (by kernel_rfl))) ?_ (fun t ht => by cases ht; exact rfl) (Below.refl _ _)
        have ec : ∀ v, a.eval (.const v) = v := fun _ => rfl
        generalize a.eval = ev at *
        clear h
        go_simp
      refine AllOps.cons (fun a y h => ?_) ?_
      · have e57 : a.eval (.tmp 57) = (.bool true : Value) := h.of 57 (by kernel_rfl)
        have e60 : a.eval (.tmp 60) = (.bool true : Value) := h.of 60 (by kernel_rfl)
        refine opOk_val (v := .bool true) (w' := y) (wanted_none rfl) ?_ (fun t ht => by cases ht; exact rfl) (Below.refl _ _)
        have ec : ∀ v, a.eval (.const v) = v := fun _ => rfl
        generalize a.eval = ev at *
        clear h
        go_simp
      refine AllOps.cons (fun a y h => ?_) ?_
      · have e61 : a.eval (.tmp 61) = (.bool true : Value) := h.of 61 (by kernel_rfl)
        refine opOk_val (v := .bool true) (w' := y) (wanted_none rfl) ?_ (fun t ht => by cases ht; exact rfl) (Below.refl _ _)
        have ec : ∀ v, a.eval (.const v) = v := fun _ => rfl
        generalize a.eval = ev at *
        clear h
        go_simp
      refine AllOps.cons (fun a y h => ?_) ?_
      · have e3 : a.eval (.tmp 3) = (.pointer (some ⟨F, 0, none⟩) : Value) := h.old 3 (by kernel_rfl)
        refine opOk_val (v := .pointer (some ⟨F, 0, none⟩)) (w' := y) (wanted_some (j := 31) (t := 62) (b := true) rfl rfl rfl (h.of 62 (by kernel_rfl))) ?_ (fun t ht => by cases ht; exact rfl) (Below.refl _ _)
        have ec : ∀ v, a.eval (.const v) = v := fun _ => rfl
        generalize a.eval = ev at *
        clear h
        go_simp
      refine AllOps.cons (fun a y h => ?_) ?_
      · have e63 : a.eval (.tmp 63) = (.pointer (some ⟨F, 0, none⟩) : Value) := h.of 63 (by kernel_rfl)
        obtain ⟨x0, x1, x2, x3⟩ := HC.out y h.below
        refine opOk_val (v := .slice b1 2 d1) (w' := y) (wanted_some (j := 31) (t := 62) (b := true) rfl rfl rfl (h.of 62 (by kernel_rfl))) ?_ (fun t ht => by cases ht; exact rfl) (Below.refl _ _)
        have ec : ∀ v, a.eval (.const v) = v := fun _ => rfl
        generalize a.eval = ev at *
        clear h
        go_simp
      refine AllOps.cons (fun a y h => ?_) ?_
      · refine opOk_call (f := 53) (args := #[]) (wanted_some (j := 31) (t := 62) (b := true) rfl rfl rfl (h.of 62 (by kernel_rfl))) ?_ ?_
        · have ec : ∀ v, a.eval (.const v) = v := fun _ => rfl
          have ef : ∀ f, a.eval (.func f) = .func (.func f) #[] #[] := fun _ => rfl
          generalize a.eval = ev at *
          clear h
          go_simp
        · refine Calls.mono (HFI.out y) ?_
          rintro _ y2 ⟨vp, vs, vt, rfl, hU, hb2⟩
          exact ⟨_, rfl, fun t ht => by cases ht; exact up1_of hU, hb2⟩
      refine AllOps.cons (fun a y h => ?_) ?_
      · refine opOk_call (f := 52) (args := #[]) (wanted_some (j := 31) (t := 62) (b := true) rfl rfl rfl (h.of 62 (by kernel_rfl))) ?_ ?_
        · have ec : ∀ v, a.eval (.const v) = v := fun _ => rfl
          have ef : ∀ f, a.eval (.func f) = .func (.func f) #[] #[] := fun _ => rfl
          generalize a.eval = ev at *
          clear h
          go_simp
        · refine Calls.mono (HSE.out y) ?_
          rintro _ y2 ⟨vp, vs, vt, rfl, hU, hb2⟩
          exact ⟨_, rfl, fun t ht => by cases ht; exact up1_of hU, hb2⟩
      refine AllOps.cons (fun a y h => ?_) ?_
      · have t65 : Up1 Wr.firstU y (a.eval (.tmp 65)) := h.of 65 (by kernel_rfl)
        have t66 : Up1 Wr.secondU y (a.eval (.tmp 66)) := h.of 66 (by kernel_rfl)
        obtain ⟨p1, n1, q1, p2, n2, q2, p3, n3, q3, e65, hU⟩ := t65
        obtain ⟨p4, n4, q4, p5, n5, q5, p6, n6, q6, e66, hV⟩ := t66
        replace e65 : a.eval (.tmp 65) = .agg #[.int .i64 0, .int .i64 1, .slice p1 n1 q1, .slice p2 n2 q2, .slice p3 n3 q3] := e65
        replace e66 : a.eval (.tmp 66) = .agg #[.int .i64 1, .int .i64 1, .slice p4 n4 q4, .slice p5 n5 q5, .slice p6 n6 q6] := e66
        refine opOk_val (v := .slice (some ⟨y.heap.size, 0, none⟩) 2 2) (w' := y.alloc (.cells #[.int .i64 0, .int .i64 1, .slice p1 n1 q1, .slice p2 n2 q2, .slice p3 n3 q3, .int .i64 1, .int .i64 1, .slice p4 n4 q4, .slice p5 n5 q5, .slice p6 n6 q6] 30)) (wanted_some (j := 31) (t := 62) (b := true) rfl rfl rfl (h.of 62 (by kernel_rfl))) ?_ (fun t ht => by cases ht; exact ups2_new hU hV) ((Below.refl _ _).alloc (Nat.le_refl _) _)
        have ec : ∀ v, a.eval (.const v) = v := fun _ => rfl
        generalize a.eval = ev at *
        clear h
        go_simp
      refine AllOps.cons (fun a y h => ?_) ?_
      · have e64 : a.eval (.tmp 64) = (.slice b1 2 d1 : Value) := h.of 64 (by kernel_rfl)
        have t67 : Ups2 y (a.eval (.tmp 67)) := h.of 67 (by kernel_rfl)
        obtain ⟨p1, e67, hU⟩ := t67
        refine opOk_call (f := 26) (args := #[.slice b1 2 d1, .slice p1 2 2]) (wanted_some (j := 31) (t := 62) (b := true) rfl rfl rfl (h.of 62 (by kernel_rfl))) ?_ ?_
        · have ec : ∀ v, a.eval (.const v) = v := fun _ => rfl
          have ef : ∀ f, a.eval (.func f) = .func (.func f) #[] #[] := fun _ => rfl
          generalize a.eval = ev at *
          clear h
          go_simp
        · refine Calls.mono (HSU.out y (.slice p1 2 2) h.below hU) ?_
          rintro _ y2 ⟨rfl, hb2⟩
          exact ⟨_, rfl, fun t ht => by cases ht; exact rfl, hb2⟩
      refine AllOps.cons (fun a y h => ?_) ?_
      · have e62 : a.eval (.tmp 62) = (.bool true : Value) := h.of 62 (by kernel_rfl)
        have e68 : a.eval (.tmp 68) = (.bool true : Value) := h.of 68 (by kernel_rfl)
        refine opOk_val (v := .bool true) (w' := y) (wanted_none rfl) ?_ (fun t ht => by cases ht; exact rfl) (Below.refl _ _)
        have ec : ∀ v, a.eval (.const v) = v := fun _ => rfl
        generalize a.eval = ev at *
        clear h
        go_simp
      refine AllOps.cons (fun a y h => ?_) ?_
      · have e69 : a.eval (.tmp 69) = (.bool true : Value) := h.of 69 (by kernel_rfl)
        refine opOk_val (v := .bool true) (w' := y) (wanted_none rfl) ?_ (fun t ht => by cases ht; exact rfl) (Below.refl _ _)
        have ec : ∀ v, a.eval (.const v) = v := fun _ => rfl
        generalize a.eval = ev at *
        clear h
        go_simp
      refine AllOps.cons (fun a y h => ?_) ?_
      · have e5 : a.eval (.tmp 5) = (.slice ah 1 ch : Value) := h.old 5 (by kernel_rfl)
        refine opOk_val (v := .slice ah 1 ch) (w' := y) (wanted_some (j := 39) (t := 70) (b := true) rfl rfl rfl (h.of 70 (by kernel_rfl))) ?_ (fun t ht => by cases ht; exact rfl) (Below.refl _ _)
        have ec : ∀ v, a.eval (.const v) = v := fun _ => rfl
        generalize a.eval = ev at *
        clear h
        go_simp
      refine AllOps.cons (fun a y h => ?_) ?_
      · refine opOk_val (v := .agg #[.int .i64 1, .int .i64 1]) (w' := y) (wanted_some (j := 39) (t := 70) (b := true) rfl rfl rfl (h.of 70 (by kernel_rfl))) ?_ (fun t ht => by cases ht; exact rfl) (Below.refl _ _)
        have ec : ∀ v, a.eval (.const v) = v := fun _ => rfl
        generalize a.eval = ev at *
        clear h
        go_simp
      refine AllOps.cons (fun a y h => ?_) ?_
      · have e72 : a.eval (.tmp 72) = (.agg #[.int .i64 1, .int .i64 1] : Value) := h.of 72 (by kernel_rfl)
        refine opOk_val (v := .slice (some ⟨y.heap.size, 0, none⟩) 1 1) (w' := y.alloc (.cells #[.int .i64 1, .int .i64 1] 26)) (wanted_some (j := 39) (t := 70) (b := true) rfl rfl rfl (h.of 70 (by kernel_rfl))) ?_ (fun t ht => by cases ht; exact ids1_new y) ((Below.refl _ _).alloc (Nat.le_refl _) _)
        have ec : ∀ v, a.eval (.const v) = v := fun _ => rfl
        generalize a.eval = ev at *
        clear h
        go_simp
      refine AllOps.cons (fun a y h => ?_) ?_
      · have e71 : a.eval (.tmp 71) = (.slice ah 1 ch : Value) := h.of 71 (by kernel_rfl)
        have t73 : Ids1 y (a.eval (.tmp 73)) := h.of 73 (by kernel_rfl)
        obtain ⟨p1, e73, hU⟩ := t73
        refine opOk_call (f := 17) (args := #[.slice ah 1 ch, .slice p1 1 1]) (wanted_some (j := 39) (t := 70) (b := true) rfl rfl rfl (h.of 70 (by kernel_rfl))) ?_ ?_
        · have ec : ∀ v, a.eval (.const v) = v := fun _ => rfl
          have ef : ∀ f, a.eval (.func f) = .func (.func f) #[] #[] := fun _ => rfl
          generalize a.eval = ev at *
          clear h
          go_simp
        · refine Calls.mono (SameIds_same [⟨1, 1⟩] _ _ y (idsV_below HH.out h.below) hU (by decide)) ?_
          rintro _ y2 ⟨rfl, hb2⟩
          exact ⟨_, rfl, fun t ht => by cases ht; exact rfl, hb2⟩
      refine AllOps.cons (fun a y h => ?_) ?_
      · have e70 : a.eval (.tmp 70) = (.bool true : Value) := h.of 70 (by kernel_rfl)
        have e74 : a.eval (.tmp 74) = (.bool true : Value) := h.of 74 (by kernel_rfl)
        refine opOk_val (v := .bool true) (w' := y) (wanted_none rfl) ?_ (fun t ht => by cases ht; exact rfl) (Below.refl _ _)
        have ec : ∀ v, a.eval (.const v) = v := fun _ => rfl
        generalize a.eval = ev at *
        clear h
        go_simp
      refine AllOps.cons (fun a y h => ?_) ?_
      · have e75 : a.eval (.tmp 75) = (.bool true : Value) := h.of 75 (by kernel_rfl)
        refine opOk_val (v := .bool true) (w' := y) (wanted_none rfl) ?_ (fun t ht => by cases ht; exact rfl) (Below.refl _ _)
        have ec : ∀ v, a.eval (.const v) = v := fun _ => rfl
        generalize a.eval = ev at *
        clear h
        go_simp
      refine AllOps.cons (fun a y h => ?_) ?_
      · have e7 : a.eval (.tmp 7) = (.slice al 1 cl : Value) := h.old 7 (by kernel_rfl)
        refine opOk_val (v := .slice al 1 cl) (w' := y) (wanted_some (j := 45) (t := 76) (b := true) rfl rfl rfl (h.of 76 (by kernel_rfl))) ?_ (fun t ht => by cases ht; exact rfl) (Below.refl _ _)
        have ec : ∀ v, a.eval (.const v) = v := fun _ => rfl
        generalize a.eval = ev at *
        clear h
        go_simp
      refine AllOps.cons (fun a y h => ?_) ?_
      · refine opOk_val (v := .slice (some ⟨y.heap.size, 0, none⟩) 2 2) (w' := y.alloc (.cells #[.int .i64 4, .int .i64 5] 3)) (wanted_some (j := 45) (t := 76) (b := true) rfl rfl rfl (h.of 76 (by kernel_rfl))) ?_ (fun t ht => by cases ht; exact int1_new y) ((Below.refl _ _).alloc (Nat.le_refl _) _)
        have ec : ∀ v, a.eval (.const v) = v := fun _ => rfl
        generalize a.eval = ev at *
        clear h
        go_simp
      refine AllOps.cons (fun a y h => ?_) ?_
      · have t78 : Int1 y (a.eval (.tmp 78)) := h.of 78 (by kernel_rfl)
        obtain ⟨p1, e78, hU⟩ := t78
        refine opOk_call (f := 55) (args := #[.int .i64 0, .slice p1 2 2]) (wanted_some (j := 45) (t := 76) (b := true) rfl rfl rfl (h.of 76 (by kernel_rfl))) ?_ ?_
        · have ec : ∀ v, a.eval (.const v) = v := fun _ => rfl
          have ef : ∀ f, a.eval (.func f) = .func (.func f) #[] #[] := fun _ => rfl
          generalize a.eval = ev at *
          clear h
          go_simp
        · refine Calls.mono (HFC.out _ _ _ _ y) ?_
          rintro _ y2 ⟨rfl, hb2⟩
          exact ⟨_, rfl, fun t ht => by cases ht; exact ⟨_, rfl, intsV_below hU hb2⟩, hb2⟩
      refine AllOps.cons (fun a y h => ?_) ?_
      · have t79 : Fc1 y (a.eval (.tmp 79)) := h.of 79 (by kernel_rfl)
        obtain ⟨p1, e79, hU⟩ := t79
        refine opOk_val (v := .slice (some ⟨y.heap.size, 0, none⟩) 1 1) (w' := y.alloc (.cells #[.int .i64 0, .slice p1 2 2] 84)) (wanted_some (j := 45) (t := 76) (b := true) rfl rfl rfl (h.of 76 (by kernel_rfl))) ?_ (fun t ht => by cases ht; exact fa1_new hU) ((Below.refl _ _).alloc (Nat.le_refl _) _)
        have ec : ∀ v, a.eval (.const v) = v := fun _ => rfl
        generalize a.eval = ev at *
        clear h
        go_simp
      refine AllOps.cons (fun a y h => ?_) ?_
      · have e77 : a.eval (.tmp 77) = (.slice al 1 cl : Value) := h.of 77 (by kernel_rfl)
        have t80 : Fa1 y (a.eval (.tmp 80)) := h.of 80 (by kernel_rfl)
        obtain ⟨p1, e80, hU⟩ := t80
        refine opOk_call (f := 54) (args := #[.slice al 1 cl, .slice p1 1 1]) (wanted_some (j := 45) (t := 76) (b := true) rfl rfl rfl (h.of 76 (by kernel_rfl))) ?_ ?_
        · have ec : ∀ v, a.eval (.const v) = v := fun _ => rfl
          have ef : ∀ f, a.eval (.func f) = .func (.func f) #[] #[] := fun _ => rfl
          generalize a.eval = ev at *
          clear h
          go_simp
        · refine Calls.mono (SameFacts_refl [⟨0, [4, 5]⟩] _ _ y (factsV_below HF.out h.below) hU (by decide) (fun f hf => by rw [List.mem_singleton.mp hf]; exact (by decide : 2 ≤ 9223372036854775807))) ?_
          rintro _ y2 ⟨rfl, hb2⟩
          exact ⟨_, rfl, fun t ht => by cases ht; exact rfl, hb2⟩
      refine AllOps.cons (fun a y h => ?_) ?_
      · have e76 : a.eval (.tmp 76) = (.bool true : Value) := h.of 76 (by kernel_rfl)
        have e81 : a.eval (.tmp 81) = (.bool true : Value) := h.of 81 (by kernel_rfl)
        refine opOk_val (v := .bool true) (w' := y) (wanted_none rfl) ?_ (fun t ht => by cases ht; exact rfl) (Below.refl _ _)
        have ec : ∀ v, a.eval (.const v) = v := fun _ => rfl
        generalize a.eval = ev at *
        clear h
        go_simp
      refine AllOps.cons (fun a y h => ?_) ?_
      · have e82 : a.eval (.tmp 82) = (.bool true : Value) := h.of 82 (by kernel_rfl)
        refine opOk_val (v := .bool true) (w' := y) (wanted_none rfl) ?_ (fun t ht => by cases ht; exact rfl) (Below.refl _ _)
        have ec : ∀ v, a.eval (.const v) = v := fun _ => rfl
        generalize a.eval = ev at *
        clear h
        go_simp
      exact AllOps.nil
    case hend =>
    rintro ⟨tm, df⟩ wE hbE hdE hszE hstE hTE
    have k0 : tm.getD 0 undef = (.bool true : Value) := ends_at (T := dbT5 X F a1 c1 a2 c2 b1 d1 b2 d2 ah ch al cl) (w := wE) (a := ⟨tm, df⟩) (t := 0) hTE (by kernel_rfl)
    obtain rfl : df = [] := hdE
    have HBE : Hid (Below w.heap.size w wE) := HB9.out.trans (hbE.mono HB9.out.size)
    have hF8 := tmps_fold [31, 32, 33, 34, 35, 36, 37, 38, 39, 40, 41, 42, 43, 44, 45, 46, 47, 48, 49, 50, 51, 52, 53, 54, 55, 56, 57, 58, 59, 60, 61, 62, 63, 64, 65, 66, 67, 68, 69, 70, 71, 72, 73, 74, 75, 76, 77, 78, 79, 80, 81, 82, 0] tm _ hszE hstE
    clear hszE hstE hTE hbE
    simp only [List.foldl_cons, List.foldl_nil, k0] at hF8
    clear k0
    generalize tm.getD 31 undef = x31 at hF8
    generalize tm.getD 32 undef = x32 at hF8
    generalize tm.getD 33 undef = x33 at hF8
    generalize tm.getD 34 undef = x34 at hF8
    generalize tm.getD 35 undef = x35 at hF8
    generalize tm.getD 36 undef = x36 at hF8
    generalize tm.getD 37 undef = x37 at hF8
    generalize tm.getD 38 undef = x38 at hF8
    generalize tm.getD 39 undef = x39 at hF8
    generalize tm.getD 40 undef = x40 at hF8
    generalize tm.getD 41 undef = x41 at hF8
    generalize tm.getD 42 undef = x42 at hF8
    generalize tm.getD 43 undef = x43 at hF8
    generalize tm.getD 44 undef = x44 at hF8
    generalize tm.getD 45 undef = x45 at hF8
    generalize tm.getD 46 undef = x46 at hF8
    generalize tm.getD 47 undef = x47 at hF8
    generalize tm.getD 48 undef = x48 at hF8
    generalize tm.getD 49 undef = x49 at hF8
    generalize tm.getD 50 undef = x50 at hF8
    generalize tm.getD 51 undef = x51 at hF8
    generalize tm.getD 52 undef = x52 at hF8
    generalize tm.getD 53 undef = x53 at hF8
    generalize tm.getD 54 undef = x54 at hF8
    generalize tm.getD 55 undef = x55 at hF8
    generalize tm.getD 56 undef = x56 at hF8
    generalize tm.getD 57 undef = x57 at hF8
    generalize tm.getD 58 undef = x58 at hF8
    generalize tm.getD 59 undef = x59 at hF8
    generalize tm.getD 60 undef = x60 at hF8
    generalize tm.getD 61 undef = x61 at hF8
    generalize tm.getD 62 undef = x62 at hF8
    generalize tm.getD 63 undef = x63 at hF8
    generalize tm.getD 64 undef = x64 at hF8
    generalize tm.getD 65 undef = x65 at hF8
    generalize tm.getD 66 undef = x66 at hF8
    generalize tm.getD 67 undef = x67 at hF8
    generalize tm.getD 68 undef = x68 at hF8
    generalize tm.getD 69 undef = x69 at hF8
    generalize tm.getD 70 undef = x70 at hF8
    generalize tm.getD 71 undef = x71 at hF8
    generalize tm.getD 72 undef = x72 at hF8
    generalize tm.getD 73 undef = x73 at hF8
    generalize tm.getD 74 undef = x74 at hF8
    generalize tm.getD 75 undef = x75 at hF8
    generalize tm.getD 76 undef = x76 at hF8
    generalize tm.getD 77 undef = x77 at hF8
    generalize tm.getD 78 undef = x78 at hF8
    generalize tm.getD 79 undef = x79 at hF8
    generalize tm.getD 80 undef = x80 at hF8
    generalize tm.getD 81 undef = x81 at hF8
    generalize tm.getD 82 undef = x82 at hF8
    simp only [List.setIfInBounds_toArray, List.set_cons_zero, List.set_cons_succ] at hF8
    subst hF8
    go_wp2_with fail
    go_ret
    exact ⟨rfl, HBE.out⟩
end Go.Proofs.YtmfaodapofamfaaGreat

/- The document's inOrder: updates with one more. -/
namespace Go.Proofs.YtmfaodapofamfaaGreat
open Go.RowKit

theorem ups_one (w : World) (x : Uv) : UpsAt (w.alloc (.cells #[.int .i64 x.u.id.a, .int .i64 x.u.id.n, x.p, x.s, x.t] 30)) (some ⟨w.heap.size, 0, none⟩) [x] := by
  refine .inr ⟨_, _, rfl, fun i hi => ?_⟩
  have e : i = 0 := by simpa using hi
  subst e
  have h := rl_new w (.cells #[.int .i64 x.u.id.a, .int .i64 x.u.id.n, x.p, x.s, x.t] 30)
  exact ⟨by rw [Lib.cell_of_heap h]; rfl, by rw [Lib.cell_of_heap h]; rfl, by rw [Lib.cell_of_heap h]; rfl, by rw [Lib.cell_of_heap h]; rfl, by rw [Lib.cell_of_heap h]; rfl⟩
theorem one_ok {w : World} {x : Uv} (h : UvOk w x) : ∀ y, y ∈ [x] → UvOk w y := fun y hy => by
  rw [List.mem_singleton] at hy
  rw [hy]
  exact h
end Go.Proofs.YtmfaodapofamfaaGreat

/- What the document's AddOf does, plain; and a box that is written. -/
namespace Go.Proofs.YtmfaodapofamfaaGreat
open Go.RowKit

namespace Dg
open Wr
end Dg
end Go.Proofs.YtmfaodapofamfaaGreat

/- Add and AddOf answer the same, plain. -/
namespace Go.Proofs.YtmfaodapofamfaaGreat

end Go.Proofs.YtmfaodapofamfaaGreat

/- Many updates added, plain. -/
namespace Go.Proofs.YtmfaodapofamfaaGreat
namespace Dg
open Wr (Up)

def mores (l us : List Up) : List Up := us.foldl more l
theorem mores_snoc (l us : List Up) (u : Up) : mores l (us ++ [u]) = more (mores l us) u := by
  unfold mores
  rw [List.foldl_append]
  rfl
theorem hasU_congr {l m : List Up} (h : ∀ u, u ∈ l ↔ u ∈ m) (x : Wr.Id) : hasU l x = hasU m x := by
  rw [Bool.eq_iff_iff, hasU_iff, hasU_iff]
  exact ⟨fun ⟨u, h1, h2⟩ => ⟨u, (h u).mp h1, h2⟩, fun ⟨u, h1, h2⟩ => ⟨u, (h u).mpr h1, h2⟩⟩
theorem more_congr {l m : List Up} (h : ∀ u, u ∈ l ↔ u ∈ m) (u : Up) : ∀ v, v ∈ more l u ↔ v ∈ more m u := fun v => by
  rw [more_mem, more_mem, hasU_congr h, h]
theorem mores_nodup : ∀ {us l : List Up}, (l.map Up.id).Nodup → ((mores l us).map Up.id).Nodup
  | [], _, h => h
  | u :: us, l, h => mores_nodup (us := us) (l := more l u) (more_nodup h)
theorem more_len (l : List Up) (u : Up) : (more l u).length ≤ l.length + 1 := by
  unfold more
  split
  · omega
  · rw [List.length_append]; exact Nat.le_refl _
theorem mores_len : ∀ (us l : List Up), (mores l us).length ≤ l.length + us.length
  | [], _ => Nat.le_refl _
  | u :: us, l => by
    have h1 := mores_len us (more l u)
    have h2 := more_len l u
    rw [List.length_cons]
    show (mores (more l u) us).length ≤ _
    omega
theorem mores_mem : ∀ {us l : List Up}, (us.map Up.id).Nodup → ∀ v, v ∈ mores l us ↔ v ∈ l ∨ (hasU l v.id = false ∧ v ∈ us)
  | [], l, _, v => by simp [mores]
  | u :: us, l, hn, v => by
    rw [List.map_cons, List.nodup_cons] at hn
    show v ∈ mores (more l u) us ↔ _
    rw [mores_mem hn.2, more_mem]
    have hne : v ∈ us → v.id ≠ u.id := fun hv he => hn.1 (by rw [← he]; exact List.mem_map_of_mem hv)
    have hh : v.id ≠ u.id → hasU (more l u) v.id = hasU l v.id := fun hne => by
      rw [Bool.eq_iff_iff, hasU_iff, hasU_iff]
      constructor
      · rintro ⟨x, hx, e⟩
        rcases more_mem.mp hx with hx | ⟨_, rfl⟩
        · exact ⟨x, hx, e⟩
        · exact absurd e.symm hne
      · rintro ⟨x, hx, e⟩
        exact ⟨x, more_mem.mpr (.inl hx), e⟩
    rw [List.mem_cons]
    constructor
    · rintro ((h | ⟨h, rfl⟩) | ⟨h1, h2⟩)
      · exact .inl h
      · exact .inr ⟨h, .inl rfl⟩
      · exact .inr ⟨by rw [hh (hne h2)] at h1; exact h1, .inr h2⟩
    · rintro (h | ⟨h, rfl | h2⟩)
      · exact .inl (.inl h)
      · exact .inl (.inr ⟨h, rfl⟩)
      · exact .inr ⟨by rw [hh (hne h2)]; exact h, h2⟩
theorem mores_perm {us vs l : List Up} (hp : us.Perm vs) (hn : (us.map Up.id).Nodup) : ∀ v, v ∈ mores l us ↔ v ∈ mores l vs := fun v => by
  rw [mores_mem hn, mores_mem ((hp.map Up.id).nodup_iff.mp hn), hp.mem_iff]
theorem mores_check {us l : List Up} (h1 : ∀ u, u ∈ l → Wr.check u = 0) (h2 : ∀ u, u ∈ us → Wr.check u = 0) : ∀ u, u ∈ mores l us → Wr.check u = 0 := by
  induction us generalizing l with
  | nil => exact h1
  | cons x us ih =>
    refine ih (l := more l x) (fun u hu => ?_) (fun u hu => h2 u (List.mem_cons_of_mem _ hu))
    rcases more_mem.mp hu with h | ⟨_, rfl⟩
    · exact h1 u h
    · exact h2 u (by simp)
/-- What stands when the first of us have been added. -/
theorem Is.on {all h w : List Up} {u : Up} (hi : Is all h w) {h' w' : List Up} (hn : Is (more (h ++ w) u) h' w') : Is (more all u) h' w' :=
  hn.congr (more_congr (fun v => by rw [List.mem_append]; exact hi.parts.mem v) u)
theorem Is.len {all h w : List Up} (hi : Is all h w) (hn : (all.map Up.id).Nodup) (hA : ((h ++ w).map Up.id).Nodup) : h.length + w.length = all.length := by
  have hp : ((h ++ w).map Up.id).Perm (all.map Up.id) := (List.perm_ext_iff_of_nodup hA hn).mpr fun x => by
    simp only [List.mem_map]
    constructor
    · rintro ⟨u, hu, e⟩
      exact ⟨u, (hi.parts.mem u).mp (List.mem_append.mp hu), e⟩
    · rintro ⟨u, hu, e⟩
      exact ⟨u, List.mem_append.mpr ((hi.parts.mem u).mpr hu), e⟩
  have := hp.length_eq
  rw [List.length_map, List.length_map, List.length_append] at this
  exact this
theorem Is.nd {all h w : List Up} (hi : Is all h w) (hA : Apart all) : ((h ++ w).map Up.id).Nodup := by
  refine nodup_app hi.rh hi.rw_ fun u hu => ?_
  rcases hb : hasU h u.id with _ | _
  · rfl
  · obtain ⟨v, hv, e⟩ := hasU_iff.mp hb
    have h1 := (hi.parts.mem v).mp (.inl hv)
    have h2 := (hi.parts.mem u).mp (.inr hu)
    have e2 := hA v u h1 h2 e
    subst e2
    exact absurd ((hi.parts.1 v).mp hv).2 ((hi.parts.2 v).mp hu).2
theorem Is.okN {all h w : List Up} (hi : Is all h w) (hn : (all.map Up.id).Nodup) (he : ∀ u, u ∈ all → Wr.check u = 0) (hl : all.length ≤ 200) : Ok h w :=
  hi.ok (apart_of_nodup hn) he (by rw [hi.len hn (hi.nd (apart_of_nodup hn))]; exact hl)
theorem nodup_id {l : List Up} (h : (l.map Up.id).Nodup) : l.Nodup := by
  induction l with
  | nil => exact List.nodup_nil
  | cons a l ih =>
    rw [List.map_cons, List.nodup_cons] at h
    exact List.nodup_cons.mpr ⟨fun ha => h.1 (List.mem_map_of_mem ha), ih h.2⟩
theorem len_sub {α : Type} : ∀ {l m : List α}, l.Nodup → (∀ x, x ∈ l → x ∈ m) → l.length ≤ m.length
  | [], _, _, _ => Nat.zero_le _
  | a :: l, m, h, hs => by
    rw [List.nodup_cons] at h
    obtain ⟨p, q, rfl⟩ := List.append_of_mem (hs a (by simp))
    have := len_sub (l := l) (m := p ++ q) h.2 (fun x hx => by
      have h1 := hs x (List.mem_cons_of_mem _ hx)
      rcases List.mem_append.mp h1 with h2 | h2
      · exact List.mem_append.mpr (.inl h2)
      · rcases List.mem_cons.mp h2 with rfl | h3
        · exact absurd hx h.1
        · exact List.mem_append.mpr (.inr h3))
    rw [List.length_append] at this
    rw [List.length_append, List.length_cons, List.length_cons]
    omega
theorem perm_of {us vs : List Up} (hu : (us.map Up.id).Nodup) (hv : (vs.map Up.id).Nodup) (h1 : ∀ v, v ∈ vs → v ∈ us) (h2 : ∀ u, u ∈ us → hasU vs u.id = true) : us.Perm vs :=
  (List.perm_ext_iff_of_nodup (nodup_id hu) (nodup_id hv)).mpr fun u => ⟨fun h => by
    obtain ⟨v, hv, e⟩ := hasU_iff.mp (h2 u h)
    rw [← apart_of_nodup hu v u (h1 v hv) h e]
    exact hv, h1 u⟩
theorem nodup_snoc {l : List Up} {u : Up} (h : (l.map Up.id).Nodup) (hn : hasU l u.id = false) : ((l ++ [u]).map Up.id).Nodup := by
  have := more_nodup (u := u) h
  unfold more at this
  rw [if_neg (by rw [hn]; simp)] at this
  exact this
end Dg
end Go.Proofs.YtmfaodapofamfaaGreat

