/- Own texts, one behind the other (part 10). -/
import Derived.Test.YtmfaodapofamfaaGreatBundleI
import Derived.Test.YtmfaodapofamfaaGreatRows
/- The document's HeadsAre and FactsOf. -/
namespace Go.Proofs.YtmfaodapofamfaaGreat
open Go.RowKit

namespace Dg
open Wr
/-- Those among the first some that are not named. -/
def upto (f : Up → List Wr.Id) (h : List Up) (i : Nat) : List Up := (h.take i).filter fun u => !named f h u
theorem upto_len (f : Up → List Wr.Id) (h : List Up) (i : Nat) : (upto f h i).length ≤ i := by
  unfold upto
  refine Nat.le_trans (List.length_filter_le _ _) ?_
  rw [List.length_take]
  exact Nat.min_le_left _ _
theorem upto_step (f : Up → List Wr.Id) (q : List Uv) (i : Nat) (hi : i < q.length) : upto f (ups q) (i + 1) = upto f (ups q) i ++ if named f (ups q) (uvD q i).u then [] else [(uvD q i).u] := by
  unfold upto
  have e : (ups q).take (i + 1) = (ups q).take i ++ [(uvD q i).u] := by
    have := congrArg ups (uvD_take q i hi)
    rw [ups_append] at this
    simpa [ups, List.map_take] using this
  rw [e, List.filter_append]
  cases hn : named f (ups q) (uvD q i).u <;> simp [hn]
theorem upto_all (f : Up → List Wr.Id) (q : List Uv) : upto f (ups q) q.length = free f (ups q) := by
  unfold upto free
  rw [List.take_of_length_le (by rw [ups_length]; exact Nat.le_refl _)]
theorem upto_says (f : Up → List Wr.Id) (q : List Uv) (h : ∀ x, x ∈ q → x.u.says.length ≤ 6) : ∀ i, ((upto f (ups q) i).flatMap Up.says).length ≤ i * 6
  | 0 => by simp [upto]
  | i + 1 => by
    by_cases hi : i < q.length
    · rw [upto_step f q i hi, List.flatMap_append, List.length_append]
      have h1 := upto_says f q h i
      have h2 := h _ (uvD_mem q i hi)
      split
      · simp only [List.flatMap_nil, List.length_nil]
        omega
      · simp only [List.flatMap_cons, List.flatMap_nil, List.append_nil]
        omega
    · have e : upto f (ups q) (i + 1) = upto f (ups q) i := by
        unfold upto
        rw [List.take_of_length_le (by rw [ups_length]; omega), List.take_of_length_le (by rw [ups_length]; omega)]
      rw [e]
      have h1 := upto_says f q h i
      omega
end Dg
theorem any_take (p : Wr.Up → Bool) (q : List Uv) (k : Nat) (hk : k < q.length) : (ups (q.take (k + 1))).any p = ((ups (q.take k)).any p || p (uvD q k).u) := by
  rw [uvD_take q k hk, ups_append, List.any_append]
  simp [ups]
def hfHT (X b f n c k i ok oi : Nat) (ai : Option Addr) (ni ci : Nat) (ua un : Int) (hb9 nb9 : Bool) (tQ : Nat) (vQ : Value) (_ : World) : Prop :=
  match tQ with
  | 21 => vQ = .bool true
  | 22 => vQ = .bool true
  | 23 => vQ = .pointer (some ⟨X, 0, none⟩)
  | 24 => vQ = .slice (some ⟨b, f, none⟩) n c
  | 25 => vQ = .int .i64 k
  | 26 => vQ = .pointer (some ⟨b, ok, none⟩)
  | 27 => vQ = .pointer (some ⟨b, ok + 2, none⟩)
  | 28 => vQ = .slice ai ni ci
  | 29 => vQ = .pointer (some ⟨X, 0, none⟩)
  | 30 => vQ = .slice (some ⟨b, f, none⟩) n c
  | 31 => vQ = .int .i64 i
  | 32 => vQ = .pointer (some ⟨b, oi, none⟩)
  | 33 => vQ = .pointer (some ⟨b, oi, none⟩)
  | 34 => vQ = .agg #[.int .i64 ua, .int .i64 un]
  | 35 => vQ = .bool hb9
  | 36 => vQ = .bool nb9
  | 37 => vQ = .bool nb9
  | _ => True
theorem hfHT_mono (X b f n c k i ok oi : Nat) (ai : Option Addr) (ni ci : Nat) (ua un : Int) (hb9 nb9 : Bool) (tQ : Nat) (vQ : Value) (W W' : World) (_ : Below W.heap.size W W') (h : hfHT X b f n c k i ok oi ai ni ci ua un hb9 nb9 tQ vQ W) : hfHT X b f n c k i ok oi ai ni ci ua un hb9 nb9 tQ vQ W' := by
  revert h
  unfold hfHT
  split <;> (intro h; first | exact h)

set_option maxRecDepth 100000 in
set_option maxHeartbeats 4000000 in
theorem HeadsAre_any (hq wq : List Uv) (hv wv : Value) (w : World) (hV : UpsV w hv hq) (wV : UpsV w wv wq) (hl : hq.length ≤ 200) (hok : ∀ x, x ∈ hq → UvOk w x ∧ Wr.check x.u = 0) :
    Calls Tryz.prog 12 #[repVal hv wv] w fun e w' => ∃ v', e = .returned v' ∧ IdsV w' v' (Dg.heads (ups hq)) ∧ Below w.heap.size w w' := by
  have HO : Hid (∀ x, x ∈ hq → UvOk w x ∧ Wr.check x.u = 0) := hok
  have HHV : Hid (UpsV w hv hq) := hV
  obtain ⟨ah, ch, rfl, _, _⟩ := hV
  obtain ⟨aw, cw, rfl, _, _⟩ := wV
  clear hok
  have HB1 : Hid (Below w.heap.size w (w.alloc (.cells #[.slice ah hq.length ch, .slice aw wq.length cw] 24))) := (Below.refl _ _).alloc (Nat.le_refl _) _
  have HH1 : Hid ((w.alloc (.cells #[.slice ah hq.length ch, .slice aw wq.length cw] 24)).heap[w.heap.size]? = some (.cells #[.slice ah hq.length ch, .slice aw wq.length cw] 24)) := rl_new w _
  go_enter Tryz.func12, Tryz.ntmps12
  go_upto_region 1 with fail
  generalize w.alloc (.cells #[.slice ah hq.length ch, .slice aw wq.length cw] 24) = w1 at *
  have HF : Hid (∀ z, Below w1.heap.size w1 z → z.cell? ⟨w.heap.size, 0, none⟩ = some (.slice ah hq.length ch) ∧ z.cell? ⟨w.heap.size, 1, none⟩ = some (.slice aw wq.length cw)) := fun z hz => by
    have hh1 := (hz.block _ (Array.getElem?_eq_some_iff.1 HH1.out).1).trans HH1.out
    exact ⟨by rw [Lib.cell_of_heap hh1]; rfl, by rw [Lib.cell_of_heap hh1]; rfl⟩
  have HT : Hid (∀ z, Below w1.heap.size w1 z → Below w.heap.size w z) := fun z hz => HB1.out.trans (hz.mono HB1.out.size)
  have HA : Hid (∀ z, Below w1.heap.size w1 z → UpsAt z ah hq) := fun z hz => by
    obtain ⟨_, _, e1, _, k1⟩ := HHV.out.kc (Kc.below (HT.out z hz))
    cases e1
    exact k1
  have HUL : Hid (∀ i, (Dg.upto Wr.Up.ps (ups hq) i).length ≤ i) := Dg.upto_len _ _
  clear HH1 HHV
  go_wp2_with fail
  go_loopw [3, 4] (fun ov iv wr => ∃ i : Nat, i ≤ hq.length ∧ iv = .int .i64 i ∧ wr.ownsRow w1.heap.size 26 2 ov (Dg.upto Wr.Up.ps (ups hq) i).length (((Dg.upto Wr.Up.ps (ups hq) i).map Wr.Up.id).map idCells).flatten ∧ Hid (Below w1.heap.size w1 wr)) (fun _ iv _ => hq.length - (intOf iv).toNat)
  case atStart => exact ⟨0, Nat.zero_le _, rfl, World.ownsRow_nil _ _ _ _, Below.refl _ _⟩
  case round =>
    obtain ⟨i, hi, rfl, ho, HG⟩ := hrel
    obtain ⟨av, cv, rfl⟩ := own_slice ho
    generalize wr = wO at *
    obtain ⟨c0, c1⟩ := HF.out wO HG.out
    by_cases hlt : i < hq.length
    · have g1 : decide (i < hq.length) = true := decide_eq_true hlt
      obtain ⟨b, off, rfl, p0, p1, p2, p3, p4⟩ := ups_at (HA.out wO HG.out) i hlt
      have HXO : Hid (UvOk w (uvD hq i) ∧ Wr.check (uvD hq i).u = 0) := HO.out _ (uvD_mem hq i hlt)
      have hxo := HXO.out.1
      have HUP : Hid (∀ b, b = Dg.named Wr.Up.ps (ups hq) (uvD hq i).u → Dg.upto Wr.Up.ps (ups hq) (i + 1) = Dg.upto Wr.Up.ps (ups hq) i ++ if b then [] else [(uvD hq i).u]) := fun b h => by rw [h]; exact Dg.upto_step _ hq i hlt
      have HNA : Hid (Dg.named Wr.Up.ps (ups hq) (uvD hq i).u = (ups hq).any fun v => Wr.has v.ps (uvD hq i).u.id) := rfl
      obtain ⟨a1, n1, d1, a2, n2, d2, a3, n3, d3, e1, e2, e3⟩ := hxo.forms
      clear hxo
      generalize uvD hq i = x at *
      obtain ⟨⟨⟨ua, un⟩, ps, says, ts⟩, vp, vs, vt⟩ := x
      dsimp only at *
      subst e1 e2 e3
      have HXC : Hid (∀ z, Below wO.heap.size wO z → z.cell? ⟨b, off + i * 5, none⟩ = some (.int .i64 ua) ∧ z.cell? ⟨b, off + i * 5 + 1, none⟩ = some (.int .i64 un) ∧ z.cell? ⟨b, off + i * 5 + 2, none⟩ = some (.slice a1 n1 d1) ∧ z.cell? ⟨b, off + i * 5 + 3, none⟩ = some (.slice a2 n2 d2) ∧ z.cell? ⟨b, off + i * 5 + 4, none⟩ = some (.slice a3 n3 d3)) := fun z hz => ⟨cell_below hz p0, cell_below hz p1, cell_below hz p2, cell_below hz p3, cell_below hz p4⟩
      clear p0 p1 p2 p3 p4
      go_wp2_with fail
      clear c0 c1
      go_loopw [5, 6] (fun nv kv wr => ∃ (k : Nat) (bv : Bool), k ≤ hq.length ∧ kv = .int .i64 k ∧ nv = .bool bv ∧ Hid ((!bv) = (ups (hq.take k)).any fun v => Wr.has v.ps ⟨ua, un⟩) ∧ Hid (Below wO.heap.size wO wr)) (fun _ kv _ => hq.length - (intOf kv).toNat)
      case atStart => exact ⟨0, true, Nat.zero_le _, rfl, rfl, rfl, Below.refl _ _⟩
      case round =>
        obtain ⟨k, bv, hk, rfl, rfl, HN, HW⟩ := hrel
        have HG1 : Hid (Below w1.heap.size w1 wr) := HG.out.trans (HW.out.mono HG.out.size)
        have HC : Hid (∀ z, Below wr.heap.size wr z → z.cell? ⟨w.heap.size, 0, none⟩ = some (.slice (some ⟨b, off, none⟩) hq.length ch) ∧ z.cell? ⟨w.heap.size, 1, none⟩ = some (.slice aw wq.length cw)) := fun z hz => HF.out z (HG1.out.trans (hz.mono HG1.out.size))
        obtain ⟨c0, c1⟩ := HF.out wr HG1.out
        by_cases hkl : k < hq.length
        · have g2 : decide (k < hq.length) = true := decide_eq_true hkl
          have HSN : Hid (∀ b, b = Wr.has (uvD hq k).u.ps ⟨ua, un⟩ → ((!bv) || b) = (ups (hq.take (k + 1))).any fun v => Wr.has v.ps ⟨ua, un⟩) := fun b h => by rw [h, HN.out]; exact (any_take _ hq k hkl).symm
          cases bv
          rotate_left
          · obtain ⟨b', off', e9, s0, s1, s2, s3, s4⟩ := ups_at (HA.out wr HG1.out) k hkl
            cases e9
            have hyo := HO.out _ (uvD_mem hq k hkl)
            obtain ⟨ai, ci, eai, _, _⟩ := hyo.1.p
            have HIV : Hid (∀ z, Below wr.heap.size wr z → IdsV z (uvD hq k).p (uvD hq k).u.ps) := fun z hz => idsV_below hyo.1.p (HT.out z (HG1.out.trans (hz.mono HG1.out.size)))
            have hll : (uvD hq k).u.ps.length ≤ 6 := (idsOk_of hyo.2).lp
            have HU : Hid (∀ z, Below wr.heap.size wr z → z.cell? ⟨b, off + k * 5 + 2, none⟩ = some (uvD hq k).p ∧ z.cell? ⟨b, off + i * 5, none⟩ = some (.int .i64 ua) ∧ z.cell? ⟨b, off + i * 5 + 1, none⟩ = some (.int .i64 un)) := fun z hz => ⟨cell_below hz s2, (HXC.out z (HW.out.trans (hz.mono HW.out.size))).1, (HXC.out z (HW.out.trans (hz.mono HW.out.size))).2.1⟩
            clear s0 s1 s2 s3 s4 hyo
            rw [eai] at HIV HU
            clear eai
            generalize (uvD hq k).u.ps = l at *
            obtain ⟨hb9, HB9⟩ : ∃ b, Hid (b = Wr.has l ⟨ua, un⟩) := ⟨_, rfl⟩
            have HE : Hid (hb9 = (ups (hq.take (k + 1))).any fun v => Wr.has v.ps ⟨ua, un⟩) := HSN.out hb9 HB9.out
            clear HSN
            obtain ⟨nb9, HNB⟩ : ∃ b, Hid (b = !hb9) := ⟨_, rfl⟩
            go_upto_region 9 with fail
            refine wp_region_tail2 (hfHT w.heap.size b off hq.length ch k i (off + k * 5) (off + i * 5) ai l.length ci ua un hb9 nb9) 17 (by decide) (by kernel_rfl) (by kernel_rfl) (by kernel_rfl) (hfHT_mono _ _ _ _ _ _ _ _ _ _ _ _ _ _ _ _) ?hop9 ?hend9
            case hop9 =>
              refine AllOps.cons (fun a y h hpre => ?_) ?_
              · have e5 : a.eval (.tmp 5) = (.bool true : Value) := hpre 5 (by decide)
                refine opOk_val (v := .bool true) (w' := y) (wanted_none rfl) ?_ (fun t ht => by cases ht; exact rfl) (Below.refl _ _)
                have ec : ∀ v, a.eval (.const v) = v := fun _ => rfl
                generalize a.eval = ev at *
                clear h hpre
                go_simp
              refine AllOps.cons (fun a y h hpre => ?_) ?_
              · have e21 : a.eval (.tmp 21) = (.bool true : Value) := h.of 21 (by kernel_rfl)
                refine opOk_val (v := .bool true) (w' := y) (wanted_none rfl) ?_ (fun t ht => by cases ht; exact rfl) (Below.refl _ _)
                have ec : ∀ v, a.eval (.const v) = v := fun _ => rfl
                generalize a.eval = ev at *
                clear h hpre
                go_simp
              refine AllOps.cons (fun a y h hpre => ?_) ?_
              · have e1 : a.eval (.tmp 1) = (.pointer (some ⟨w.heap.size, 0, none⟩) : Value) := h.old 1 (by kernel_rfl)
                refine opOk_val (v := .pointer (some ⟨w.heap.size, 0, none⟩)) (w' := y) (wanted_some (j := 1) (t := 22) (b := true) rfl rfl rfl (h.of 22 (by kernel_rfl))) ?_ (fun t ht => by cases ht; exact rfl) (Below.refl _ _)
                have ec : ∀ v, a.eval (.const v) = v := fun _ => rfl
                generalize a.eval = ev at *
                clear h hpre
                go_simp
              refine AllOps.cons (fun a y h hpre => ?_) ?_
              · have e23 : a.eval (.tmp 23) = (.pointer (some ⟨w.heap.size, 0, none⟩) : Value) := h.of 23 (by kernel_rfl)
                obtain ⟨c0, c1⟩ := HC.out y h.below
                refine opOk_val (v := .slice (some ⟨b, off, none⟩) hq.length ch) (w' := y) (wanted_some (j := 1) (t := 22) (b := true) rfl rfl rfl (h.of 22 (by kernel_rfl))) ?_ (fun t ht => by cases ht; exact rfl) (Below.refl _ _)
                have ec : ∀ v, a.eval (.const v) = v := fun _ => rfl
                generalize a.eval = ev at *
                clear h hpre
                go_simp
              refine AllOps.cons (fun a y h hpre => ?_) ?_
              · have e6 : a.eval (.tmp 6) = (.int .i64 k : Value) := h.old 6 (by kernel_rfl)
                refine opOk_val (v := .int .i64 k) (w' := y) (wanted_some (j := 1) (t := 22) (b := true) rfl rfl rfl (h.of 22 (by kernel_rfl))) ?_ (fun t ht => by cases ht; exact rfl) (Below.refl _ _)
                have ec : ∀ v, a.eval (.const v) = v := fun _ => rfl
                generalize a.eval = ev at *
                clear h hpre
                go_simp
              refine AllOps.cons (fun a y h hpre => ?_) ?_
              · have e24 : a.eval (.tmp 24) = (.slice (some ⟨b, off, none⟩) hq.length ch : Value) := h.of 24 (by kernel_rfl)
                have e25 : a.eval (.tmp 25) = (.int .i64 k : Value) := h.of 25 (by kernel_rfl)
                refine opOk_val (v := .pointer (some ⟨b, off + k * 5, none⟩)) (w' := y) (wanted_some (j := 1) (t := 22) (b := true) rfl rfl rfl (h.of 22 (by kernel_rfl))) ?_ (fun t ht => by cases ht; exact rfl) (Below.refl _ _)
                have ec : ∀ v, a.eval (.const v) = v := fun _ => rfl
                generalize a.eval = ev at *
                clear h hpre
                go_simp
              refine AllOps.cons (fun a y h hpre => ?_) ?_
              · have e26 : a.eval (.tmp 26) = (.pointer (some ⟨b, off + k * 5, none⟩) : Value) := h.of 26 (by kernel_rfl)
                refine opOk_val (v := .pointer (some ⟨b, off + k * 5 + 2, none⟩)) (w' := y) (wanted_some (j := 1) (t := 22) (b := true) rfl rfl rfl (h.of 22 (by kernel_rfl))) ?_ (fun t ht => by cases ht; exact rfl) (Below.refl _ _)
                have ec : ∀ v, a.eval (.const v) = v := fun _ => rfl
                generalize a.eval = ev at *
                clear h hpre
                go_simp
              refine AllOps.cons (fun a y h hpre => ?_) ?_
              · have e27 : a.eval (.tmp 27) = (.pointer (some ⟨b, off + k * 5 + 2, none⟩) : Value) := h.of 27 (by kernel_rfl)
                obtain ⟨u0, _⟩ := HU.out y h.below
                refine opOk_val (v := .slice ai l.length ci) (w' := y) (wanted_some (j := 1) (t := 22) (b := true) rfl rfl rfl (h.of 22 (by kernel_rfl))) ?_ (fun t ht => by cases ht; exact rfl) (Below.refl _ _)
                have ec : ∀ v, a.eval (.const v) = v := fun _ => rfl
                generalize a.eval = ev at *
                clear h hpre
                go_simp
              refine AllOps.cons (fun a y h hpre => ?_) ?_
              · have e1 : a.eval (.tmp 1) = (.pointer (some ⟨w.heap.size, 0, none⟩) : Value) := h.old 1 (by kernel_rfl)
                refine opOk_val (v := .pointer (some ⟨w.heap.size, 0, none⟩)) (w' := y) (wanted_some (j := 1) (t := 22) (b := true) rfl rfl rfl (h.of 22 (by kernel_rfl))) ?_ (fun t ht => by cases ht; exact rfl) (Below.refl _ _)
                have ec : ∀ v, a.eval (.const v) = v := fun _ => rfl
                generalize a.eval = ev at *
                clear h hpre
                go_simp
              refine AllOps.cons (fun a y h hpre => ?_) ?_
              · have e29 : a.eval (.tmp 29) = (.pointer (some ⟨w.heap.size, 0, none⟩) : Value) := h.of 29 (by kernel_rfl)
                obtain ⟨c0, c1⟩ := HC.out y h.below
                refine opOk_val (v := .slice (some ⟨b, off, none⟩) hq.length ch) (w' := y) (wanted_some (j := 1) (t := 22) (b := true) rfl rfl rfl (h.of 22 (by kernel_rfl))) ?_ (fun t ht => by cases ht; exact rfl) (Below.refl _ _)
                have ec : ∀ v, a.eval (.const v) = v := fun _ => rfl
                generalize a.eval = ev at *
                clear h hpre
                go_simp
              refine AllOps.cons (fun a y h hpre => ?_) ?_
              · have e4 : a.eval (.tmp 4) = (.int .i64 i : Value) := h.old 4 (by kernel_rfl)
                refine opOk_val (v := .int .i64 i) (w' := y) (wanted_some (j := 1) (t := 22) (b := true) rfl rfl rfl (h.of 22 (by kernel_rfl))) ?_ (fun t ht => by cases ht; exact rfl) (Below.refl _ _)
                have ec : ∀ v, a.eval (.const v) = v := fun _ => rfl
                generalize a.eval = ev at *
                clear h hpre
                go_simp
              refine AllOps.cons (fun a y h hpre => ?_) ?_
              · have e30 : a.eval (.tmp 30) = (.slice (some ⟨b, off, none⟩) hq.length ch : Value) := h.of 30 (by kernel_rfl)
                have e31 : a.eval (.tmp 31) = (.int .i64 i : Value) := h.of 31 (by kernel_rfl)
                refine opOk_val (v := .pointer (some ⟨b, off + i * 5, none⟩)) (w' := y) (wanted_some (j := 1) (t := 22) (b := true) rfl rfl rfl (h.of 22 (by kernel_rfl))) ?_ (fun t ht => by cases ht; exact rfl) (Below.refl _ _)
                have ec : ∀ v, a.eval (.const v) = v := fun _ => rfl
                generalize a.eval = ev at *
                clear h hpre
                go_simp
              refine AllOps.cons (fun a y h hpre => ?_) ?_
              · have e32 : a.eval (.tmp 32) = (.pointer (some ⟨b, off + i * 5, none⟩) : Value) := h.of 32 (by kernel_rfl)
                refine opOk_val (v := .pointer (some ⟨b, off + i * 5, none⟩)) (w' := y) (wanted_some (j := 1) (t := 22) (b := true) rfl rfl rfl (h.of 22 (by kernel_rfl))) ?_ (fun t ht => by cases ht; exact rfl) (Below.refl _ _)
                have ec : ∀ v, a.eval (.const v) = v := fun _ => rfl
                generalize a.eval = ev at *
                clear h hpre
                go_simp
              refine AllOps.cons (fun a y h hpre => ?_) ?_
              · have e33 : a.eval (.tmp 33) = (.pointer (some ⟨b, off + i * 5, none⟩) : Value) := h.of 33 (by kernel_rfl)
                obtain ⟨_, u0, u1⟩ := HU.out y h.below
                refine opOk_val (v := .agg #[.int .i64 ua, .int .i64 un]) (w' := y) (wanted_some (j := 1) (t := 22) (b := true) rfl rfl rfl (h.of 22 (by kernel_rfl))) ?_ (fun t ht => by cases ht; exact rfl) (Below.refl _ _)
                have ec : ∀ v, a.eval (.const v) = v := fun _ => rfl
                generalize a.eval = ev at *
                clear h hpre
                go_simp
              refine AllOps.cons (fun a y h hpre => ?_) ?_
              · have e28 : a.eval (.tmp 28) = (.slice ai l.length ci : Value) := h.of 28 (by kernel_rfl)
                have e34 : a.eval (.tmp 34) = (.agg #[.int .i64 ua, .int .i64 un] : Value) := h.of 34 (by kernel_rfl)
                refine opOk_call (f := 46) (args := #[.slice ai l.length ci, .agg #[.int .i64 ua, .int .i64 un]]) (wanted_some (j := 1) (t := 22) (b := true) rfl rfl rfl (h.of 22 (by kernel_rfl))) ?_ ?_
                · have ec : ∀ v, a.eval (.const v) = v := fun _ => rfl
                  have ef : ∀ f, a.eval (.func f) = .func (.func f) #[] #[] := fun _ => rfl
                  generalize a.eval = ev at *
                  clear h hpre
                  go_simp
                · refine (HasId_any l ⟨ua, un⟩ _ y (HIV.out y h.below) (by omega)).mono ?_
                  rintro e w' ⟨rfl, hb⟩
                  exact ⟨_, rfl, fun t ht => by cases ht; show Value.bool _ = Value.bool hb9; rw [HB9.out], hb⟩
              refine AllOps.cons (fun a y h hpre => ?_) ?_
              · have e35 : a.eval (.tmp 35) = (.bool hb9 : Value) := h.of 35 (by kernel_rfl)
                refine opOk_val (v := .bool (!hb9)) (w' := y) (wanted_some (j := 1) (t := 22) (b := true) rfl rfl rfl (h.of 22 (by kernel_rfl))) ?_ (fun t ht => by cases ht; exact (by show Value.bool _ = Value.bool nb9; rw [HNB.out])) (Below.refl _ _)
                have ec : ∀ v, a.eval (.const v) = v := fun _ => rfl
                generalize a.eval = ev at *
                clear h hpre
                go_simp
              refine AllOps.cons (fun a y h hpre => ?_) ?_
              · have e22 : a.eval (.tmp 22) = (.bool true : Value) := h.of 22 (by kernel_rfl)
                have e36 : a.eval (.tmp 36) = (.bool nb9 : Value) := h.of 36 (by kernel_rfl)
                refine opOk_val (v := .bool nb9) (w' := y) (wanted_none rfl) ?_ (fun t ht => by cases ht; exact rfl) (Below.refl _ _)
                have ec : ∀ v, a.eval (.const v) = v := fun _ => rfl
                generalize a.eval = ev at *
                clear h hpre
                go_simp
              exact AllOps.nil
            rintro ⟨tm0, df⟩ wE hI _
            have eL : Act.eval ⟨tm0, df⟩ (.tmp 37) = (.bool nb9 : Value) := hI.all 16 _ 37 (by decide) rfl rfl
            have hsN : tm0.size = 49 := hI.size
            show wpOps Tryz.prog _ _ [17] _ _
            rw [wpOps_cons]
            refine wpOp_val (v := .bool nb9) (w' := wE) rfl (wanted_none rfl) ?_ ?_
            · show Sem.run Tryz.prog (execOp (Act.eval ⟨tm0, df⟩) _) wE = _
              generalize Act.eval ⟨tm0, df⟩ = ev at *
              clear hI
              go_simp
            have hstE : ∀ t, t ∉ [21, 22, 23, 24, 25, 26, 27, 28, 29, 30, 31, 32, 33, 34, 35, 36, 37, 5] → (tm0.setIfInBounds 5 (.bool nb9)).getD t undef = _ := fun t ht => by
              have hC : t ≠ 5 := fun e => ht (by rw [e]; decide)
              exact (put_get_ne (a := ⟨tm0, df⟩) hC).trans (hI.still t ht)
            have hszE : (tm0.setIfInBounds 5 (.bool nb9)).size = 49 := by simp [hsN]
            have k5 : (tm0.setIfInBounds 5 (.bool nb9)).getD 5 undef = .bool nb9 := put_get_self (a := ⟨tm0, df⟩) (by show 5 < tm0.size; omega)
            obtain rfl : df = [] := hI.defers
            have hbE := hI.below
            clear hI eL hsN
            refine wpOps_end (t := 5) ?_
            generalize tm0.setIfInBounds 5 (.bool nb9) = tm at *
            have hF8 := tmps_fold [21, 22, 23, 24, 25, 26, 27, 28, 29, 30, 31, 32, 33, 34, 35, 36, 37, 5] tm _ (hszE.trans (by rfl)) hstE
            clear hszE hstE
            simp only [List.foldl_cons, List.foldl_nil, k5] at hF8
            clear k5
            generalize tm.getD 21 undef = x21 at hF8
            generalize tm.getD 22 undef = x22 at hF8
            generalize tm.getD 23 undef = x23 at hF8
            generalize tm.getD 24 undef = x24 at hF8
            generalize tm.getD 25 undef = x25 at hF8
            generalize tm.getD 26 undef = x26 at hF8
            generalize tm.getD 27 undef = x27 at hF8
            generalize tm.getD 28 undef = x28 at hF8
            generalize tm.getD 29 undef = x29 at hF8
            generalize tm.getD 30 undef = x30 at hF8
            generalize tm.getD 31 undef = x31 at hF8
            generalize tm.getD 32 undef = x32 at hF8
            generalize tm.getD 33 undef = x33 at hF8
            generalize tm.getD 34 undef = x34 at hF8
            generalize tm.getD 35 undef = x35 at hF8
            generalize tm.getD 36 undef = x36 at hF8
            generalize tm.getD 37 undef = x37 at hF8
            simp only [List.setIfInBounds_toArray, List.set_cons_zero, List.set_cons_succ] at hF8
            subst hF8
            have HW2 : Hid (Below wO.heap.size wO wE) := HW.out.trans (hbE.mono HW.out.size)
            clear hbE HU HC HW HG1 c0 c1 HIV
            go_wp2_with fail
            go_roundw
            case rel => exact ⟨k + 1, nb9, hkl, by go_num, rfl, (by show (!nb9) = _; rw [HNB.out, Bool.not_not]; exact HE.out), HW2.out⟩
            case measure => simp [intOf]; omega
          · have HE : Hid (true = (ups (hq.take (k + 1))).any fun v => Wr.has v.ps ⟨ua, un⟩) := HSN.out _ rfl
            clear HSN HN
            go_upto_region 9 with fail
            go_quiet (fail)
            go_wp2_with fail
            go_roundw
            case rel => exact ⟨k + 1, false, hkl, by go_num, rfl, HE.out, HW.out.trans ((blw_drewN wr _).mono HW.out.size)⟩
            case measure => simp [intOf]; omega
        have g2 : decide (k < hq.length) = false := decide_eq_false hkl
        have HU2 : Hid (Dg.upto Wr.Up.ps (ups hq) (i + 1) = Dg.upto Wr.Up.ps (ups hq) i ++ if (!bv) then [] else [⟨⟨ua, un⟩, ps, says, ts⟩]) := by
          refine HUP.out (!bv) ?_
          rw [HNA.out, HN.out, List.take_of_length_le (by omega)]
        clear HUP HNA HN
        have RO := ownsRow_below ho HW.out
        cases bv
        rotate_left
        · have hul := HUL.out i
          obtain ⟨x0, x1, _⟩ := HXC.out wr HW.out
          have hsz := HG1.out.size
          have HRN : Hid (∃ v' y', (Builtin.append_ #[27, 27] 27 #[.slice av (Dg.upto Wr.Up.ps (ups hq) i).length cv, .slice (some ⟨wr.heap.size, 0, none⟩) 1 1]).run Tryz.prog (wr.alloc (.cells #[.int .i64 ua, .int .i64 un] 26)) = .ok v' y' ∧ y'.ownsRow w1.heap.size 26 2 v' (Dg.upto Wr.Up.ps (ups hq) (i + 1)).length (((Dg.upto Wr.Up.ps (ups hq) (i + 1)).map Wr.Up.id).map idCells).flatten ∧ Below w1.heap.size w1 y') := by
            have h1 := RO.alloc (.cells #[.int .i64 ua, .int .i64 un] 26)
            have hn := rl_new wr (.cells #[.int .i64 ua, .int .i64 un] 26)
            have hlm : ((Dg.upto Wr.Up.ps (ups hq) i).map Wr.Up.id).length = (Dg.upto Wr.Up.ps (ups hq) i).length := List.length_map _
            obtain ⟨v', y', r1, r2, r3⟩ := appIds_run (wr.alloc (.cells #[.int .i64 ua, .int .i64 un] 26)) w1.heap.size (by rw [World.size_alloc]; omega) (.slice av (Dg.upto Wr.Up.ps (ups hq) i).length cv) ((Dg.upto Wr.Up.ps (ups hq) i).map Wr.Up.id) (by rw [hlm]; exact h1) (some ⟨wr.heap.size, 0, none⟩) 1 [⟨ua, un⟩] (.inr ⟨_, _, rfl, fun j hj => by
              have e : j = 0 := by simpa using hj
              subst e
              exact ⟨by rw [Lib.cell_of_heap hn]; rfl, by rw [Lib.cell_of_heap hn]; rfl⟩⟩) (fun h => by cases h) (by rw [hlm, List.length_singleton]; omega) 27
            refine ⟨v', y', r1, ?_, (HG1.out.alloc hsz _).grown r3 (HG1.out.alloc hsz _).size (fun j e => (RO.lt j e).1)⟩
            have h3 : Dg.upto Wr.Up.ps (ups hq) (i + 1) = Dg.upto Wr.Up.ps (ups hq) i ++ [⟨⟨ua, un⟩, ps, says, ts⟩] := HU2.out
            rw [h3, List.map_append, List.length_append]
            rw [List.length_append, hlm] at r2
            exact r2
          obtain ⟨v8, y8, r8, o8, b8⟩ := HRN.out
          have HO8 : Hid (y8.ownsRow w1.heap.size 26 2 v8 (Dg.upto Wr.Up.ps (ups hq) (i + 1)).length (((Dg.upto Wr.Up.ps (ups hq) (i + 1)).map Wr.Up.id).map idCells).flatten) := o8
          have HB8 : Hid (Below w1.heap.size w1 y8) := b8
          clear HRN o8 b8 RO ho HU2
          go_wp2_with (at_builtin; refine Lib.wpList_append_run _ rfl _ _ 27 27 rfl _ _ rfl rfl _ _ r8 ?_)
          go_roundw
          case rel => exact ⟨i + 1, hlt, by go_num, HO8.out, HB8.out⟩
          case measure => simp [intOf]; omega
        · have HO8 : Hid (wr.ownsRow w1.heap.size 26 2 (.slice av (Dg.upto Wr.Up.ps (ups hq) i).length cv) (Dg.upto Wr.Up.ps (ups hq) (i + 1)).length (((Dg.upto Wr.Up.ps (ups hq) (i + 1)).map Wr.Up.id).map idCells).flatten) := by
            have h3 : Dg.upto Wr.Up.ps (ups hq) (i + 1) = Dg.upto Wr.Up.ps (ups hq) i ++ [] := HU2.out
            rw [List.append_nil] at h3
            rw [h3]
            exact RO
          clear RO ho HU2
          go_wp2_with fail
          go_roundw
          case rel => exact ⟨i + 1, hlt, by go_num, HO8.out, HG1.out⟩
          case measure => simp [intOf]; omega
    · have g1 : decide (i < hq.length) = false := decide_eq_false hlt
      obtain rfl : i = hq.length := by omega
      have hue : Dg.upto Wr.Up.ps (ups hq) hq.length = Dg.free Wr.Up.ps (ups hq) := Dg.upto_all _ hq
      have HE : Hid (IdsV wO (.slice av (Dg.upto Wr.Up.ps (ups hq) hq.length).length cv) (Dg.heads (ups hq))) := by
        have h1 : wO.ownsRow w1.heap.size 26 2 (.slice av (Dg.upto Wr.Up.ps (ups hq) hq.length).length cv) (Dg.heads (ups hq)).length ((Dg.heads (ups hq)).map idCells).flatten := by
          have h2 : (Dg.heads (ups hq)).length = (Dg.upto Wr.Up.ps (ups hq) hq.length).length := by unfold Dg.heads; rw [List.length_map, hue]
          rw [h2]
          unfold Dg.heads
          rw [← hue]
          exact ho
        exact own_ids h1
      have HB9 : Hid (Below w.heap.size w wO) := HT.out _ HG.out
      clear ho hue
      go_wp2_with fail
      go_ret
      exact ⟨_, rfl, HE.out, HB9.out⟩
end Go.Proofs.YtmfaodapofamfaaGreat

/- The document's FactsOf. -/
namespace Go.Proofs.YtmfaodapofamfaaGreat
open Go.RowKit

def hfFT (X b f n c k i ok oi : Nat) (ai : Option Addr) (ni ci : Nat) (ua un : Int) (hb9 : Bool) (tQ : Nat) (vQ : Value) (_ : World) : Prop :=
  match tQ with
  | 21 => vQ = .bool false
  | 22 => vQ = .bool false
  | 23 => vQ = .pointer (some ⟨X, 0, none⟩)
  | 24 => vQ = .slice (some ⟨b, f, none⟩) n c
  | 25 => vQ = .int .i64 k
  | 26 => vQ = .pointer (some ⟨b, ok, none⟩)
  | 27 => vQ = .pointer (some ⟨b, ok + 4, none⟩)
  | 28 => vQ = .slice ai ni ci
  | 29 => vQ = .pointer (some ⟨X, 0, none⟩)
  | 30 => vQ = .slice (some ⟨b, f, none⟩) n c
  | 31 => vQ = .int .i64 i
  | 32 => vQ = .pointer (some ⟨b, oi, none⟩)
  | 33 => vQ = .pointer (some ⟨b, oi, none⟩)
  | 34 => vQ = .agg #[.int .i64 ua, .int .i64 un]
  | 35 => vQ = .bool hb9
  | 36 => vQ = .bool hb9
  | _ => True
theorem hfFT_mono (X b f n c k i ok oi : Nat) (ai : Option Addr) (ni ci : Nat) (ua un : Int) (hb9 : Bool) (tQ : Nat) (vQ : Value) (W W' : World) (_ : Below W.heap.size W W') (h : hfFT X b f n c k i ok oi ai ni ci ua un hb9 tQ vQ W) : hfFT X b f n c k i ok oi ai ni ci ua un hb9 tQ vQ W' := by
  revert h
  unfold hfFT
  split <;> (intro h; first | exact h)

set_option maxRecDepth 100000 in
set_option maxHeartbeats 4000000 in
theorem FactsOf_any (hq wq : List Uv) (hv wv : Value) (w : World) (hV : UpsV w hv hq) (wV : UpsV w wv wq) (hl : hq.length ≤ 200) (hok : ∀ x, x ∈ hq → UvOk w x ∧ Wr.check x.u = 0) :
    Calls Tryz.prog 13 #[repVal hv wv] w fun e w' => ∃ v', e = .returned v' ∧ FactsV w' v' (Dg.facts (ups hq)) ∧ Below w.heap.size w w' := by
  have HO : Hid (∀ x, x ∈ hq → UvOk w x ∧ Wr.check x.u = 0) := hok
  have HHV : Hid (UpsV w hv hq) := hV
  obtain ⟨ah, ch, rfl, _, _⟩ := hV
  obtain ⟨aw, cw, rfl, _, _⟩ := wV
  clear hok
  have HB1 : Hid (Below w.heap.size w (w.alloc (.cells #[.slice ah hq.length ch, .slice aw wq.length cw] 24))) := (Below.refl _ _).alloc (Nat.le_refl _) _
  have HH1 : Hid ((w.alloc (.cells #[.slice ah hq.length ch, .slice aw wq.length cw] 24)).heap[w.heap.size]? = some (.cells #[.slice ah hq.length ch, .slice aw wq.length cw] 24)) := rl_new w _
  go_enter Tryz.func13, Tryz.ntmps13
  go_upto_region 1 with fail
  generalize w.alloc (.cells #[.slice ah hq.length ch, .slice aw wq.length cw] 24) = w1 at *
  have HF : Hid (∀ z, Below w1.heap.size w1 z → z.cell? ⟨w.heap.size, 0, none⟩ = some (.slice ah hq.length ch) ∧ z.cell? ⟨w.heap.size, 1, none⟩ = some (.slice aw wq.length cw)) := fun z hz => by
    have hh1 := (hz.block _ (Array.getElem?_eq_some_iff.1 HH1.out).1).trans HH1.out
    exact ⟨by rw [Lib.cell_of_heap hh1]; rfl, by rw [Lib.cell_of_heap hh1]; rfl⟩
  have HT : Hid (∀ z, Below w1.heap.size w1 z → Below w.heap.size w z) := fun z hz => HB1.out.trans (hz.mono HB1.out.size)
  have HA : Hid (∀ z, Below w1.heap.size w1 z → UpsAt z ah hq) := fun z hz => by
    obtain ⟨_, _, e1, _, k1⟩ := HHV.out.kc (Kc.below (HT.out z hz))
    cases e1
    exact k1
  have HSL : Hid (∀ i, ((Dg.upto Wr.Up.ts (ups hq) i).flatMap Wr.Up.says).length ≤ i * 6) := Dg.upto_says _ hq (fun x hx => (few_of (HO.out x hx).2).l.2.1)
  clear HH1 HHV
  go_wp2_with fail
  go_loopw [3, 4] (fun ov iv wr => ∃ (i : Nat) (r : List Fv), i ≤ hq.length ∧ iv = .int .i64 i ∧ wr.ownsRow w1.heap.size 84 2 ov r.length (r.map fcCells).flatten ∧ Hid (r.map (·.1) = (Dg.upto Wr.Up.ts (ups hq) i).flatMap Wr.Up.says) ∧ Hid (∀ p, p ∈ r → FvOk w1 p) ∧ Hid (Below w1.heap.size w1 wr)) (fun _ iv _ => hq.length - (intOf iv).toNat)
  case atStart => exact ⟨0, [], Nat.zero_le _, rfl, World.ownsRow_nil _ _ _ _, rfl, (fun p hp => absurd hp (by simp)), Below.refl _ _⟩
  case round =>
    obtain ⟨i, r, hi, rfl, ho, HRS, HRO, HG⟩ := hrel
    obtain ⟨av, cv, rfl⟩ := own_slice ho
    generalize wr = wO at *
    obtain ⟨c0, c1⟩ := HF.out wO HG.out
    by_cases hlt : i < hq.length
    · have g1 : decide (i < hq.length) = true := decide_eq_true hlt
      obtain ⟨b, off, rfl, p0, p1, p2, p3, p4⟩ := ups_at (HA.out wO HG.out) i hlt
      have HXO : Hid (UvOk w (uvD hq i) ∧ Wr.check (uvD hq i).u = 0) := HO.out _ (uvD_mem hq i hlt)
      have hxo := HXO.out.1
      have HUP : Hid (∀ b, b = Dg.named Wr.Up.ts (ups hq) (uvD hq i).u → Dg.upto Wr.Up.ts (ups hq) (i + 1) = Dg.upto Wr.Up.ts (ups hq) i ++ if b then [] else [(uvD hq i).u]) := fun b h => by rw [h]; exact Dg.upto_step _ hq i hlt
      have HNA : Hid (Dg.named Wr.Up.ts (ups hq) (uvD hq i).u = (ups hq).any fun v => Wr.has v.ts (uvD hq i).u.id) := rfl
      obtain ⟨a1, n1, d1, a2, n2, d2, a3, n3, d3, e1, e2, e3⟩ := hxo.forms
      clear hxo
      generalize uvD hq i = x at *
      obtain ⟨⟨⟨ua, un⟩, ps, says, ts⟩, vp, vs, vt⟩ := x
      dsimp only at *
      subst e1 e2 e3
      have HXC : Hid (∀ z, Below wO.heap.size wO z → z.cell? ⟨b, off + i * 5, none⟩ = some (.int .i64 ua) ∧ z.cell? ⟨b, off + i * 5 + 1, none⟩ = some (.int .i64 un) ∧ z.cell? ⟨b, off + i * 5 + 2, none⟩ = some (.slice a1 n1 d1) ∧ z.cell? ⟨b, off + i * 5 + 3, none⟩ = some (.slice a2 n2 d2) ∧ z.cell? ⟨b, off + i * 5 + 4, none⟩ = some (.slice a3 n3 d3)) := fun z hz => ⟨cell_below hz p0, cell_below hz p1, cell_below hz p2, cell_below hz p3, cell_below hz p4⟩
      clear p0 p1 p2 p3 p4
      go_wp2_with fail
      clear c0 c1
      go_loopw [5, 6] (fun nv kv wr => ∃ (k : Nat) (bv : Bool), k ≤ hq.length ∧ kv = .int .i64 k ∧ nv = .bool bv ∧ Hid (bv = (ups (hq.take k)).any fun v => Wr.has v.ts ⟨ua, un⟩) ∧ Hid (Below wO.heap.size wO wr)) (fun _ kv _ => hq.length - (intOf kv).toNat)
      case atStart => exact ⟨0, false, Nat.zero_le _, rfl, rfl, rfl, Below.refl _ _⟩
      case round =>
        obtain ⟨k, bv, hk, rfl, rfl, HN, HW⟩ := hrel
        have HG1 : Hid (Below w1.heap.size w1 wr) := HG.out.trans (HW.out.mono HG.out.size)
        have HC : Hid (∀ z, Below wr.heap.size wr z → z.cell? ⟨w.heap.size, 0, none⟩ = some (.slice (some ⟨b, off, none⟩) hq.length ch) ∧ z.cell? ⟨w.heap.size, 1, none⟩ = some (.slice aw wq.length cw)) := fun z hz => HF.out z (HG1.out.trans (hz.mono HG1.out.size))
        obtain ⟨c0, c1⟩ := HF.out wr HG1.out
        by_cases hkl : k < hq.length
        · have g2 : decide (k < hq.length) = true := decide_eq_true hkl
          have HSN : Hid (∀ b, b = Wr.has (uvD hq k).u.ts ⟨ua, un⟩ → (bv || b) = (ups (hq.take (k + 1))).any fun v => Wr.has v.ts ⟨ua, un⟩) := fun b h => by rw [h, HN.out]; exact (any_take _ hq k hkl).symm
          cases bv
          · obtain ⟨b', off', e9, s0, s1, s2, s3, s4⟩ := ups_at (HA.out wr HG1.out) k hkl
            cases e9
            have hyo := HO.out _ (uvD_mem hq k hkl)
            obtain ⟨ai, ci, eai, _, _⟩ := hyo.1.t
            have HIV : Hid (∀ z, Below wr.heap.size wr z → IdsV z (uvD hq k).t (uvD hq k).u.ts) := fun z hz => idsV_below hyo.1.t (HT.out z (HG1.out.trans (hz.mono HG1.out.size)))
            have hll : (uvD hq k).u.ts.length ≤ 6 := (idsOk_of hyo.2).lt
            have HU : Hid (∀ z, Below wr.heap.size wr z → z.cell? ⟨b, off + k * 5 + 4, none⟩ = some (uvD hq k).t ∧ z.cell? ⟨b, off + i * 5, none⟩ = some (.int .i64 ua) ∧ z.cell? ⟨b, off + i * 5 + 1, none⟩ = some (.int .i64 un)) := fun z hz => ⟨cell_below hz s4, (HXC.out z (HW.out.trans (hz.mono HW.out.size))).1, (HXC.out z (HW.out.trans (hz.mono HW.out.size))).2.1⟩
            clear s0 s1 s2 s3 s4 hyo
            rw [eai] at HIV HU
            clear eai
            generalize (uvD hq k).u.ts = l at *
            obtain ⟨hb9, HB9⟩ : ∃ b, Hid (b = Wr.has l ⟨ua, un⟩) := ⟨_, rfl⟩
            have HE : Hid (hb9 = (ups (hq.take (k + 1))).any fun v => Wr.has v.ts ⟨ua, un⟩) := HSN.out hb9 HB9.out
            clear HSN
            go_upto_region 9 with fail
            refine wp_region_tail2 (hfFT w.heap.size b off hq.length ch k i (off + k * 5) (off + i * 5) ai l.length ci ua un hb9) 16 (by decide) (by kernel_rfl) (by kernel_rfl) (by kernel_rfl) (hfFT_mono _ _ _ _ _ _ _ _ _ _ _ _ _ _ _) ?hop9 ?hend9
            case hop9 =>
              refine AllOps.cons (fun a y h hpre => ?_) ?_
              · have e5 : a.eval (.tmp 5) = (.bool false : Value) := hpre 5 (by decide)
                refine opOk_val (v := .bool false) (w' := y) (wanted_none rfl) ?_ (fun t ht => by cases ht; exact rfl) (Below.refl _ _)
                have ec : ∀ v, a.eval (.const v) = v := fun _ => rfl
                generalize a.eval = ev at *
                clear h hpre
                go_simp
              refine AllOps.cons (fun a y h hpre => ?_) ?_
              · have e21 : a.eval (.tmp 21) = (.bool false : Value) := h.of 21 (by kernel_rfl)
                refine opOk_val (v := .bool false) (w' := y) (wanted_none rfl) ?_ (fun t ht => by cases ht; exact rfl) (Below.refl _ _)
                have ec : ∀ v, a.eval (.const v) = v := fun _ => rfl
                generalize a.eval = ev at *
                clear h hpre
                go_simp
              refine AllOps.cons (fun a y h hpre => ?_) ?_
              · have e1 : a.eval (.tmp 1) = (.pointer (some ⟨w.heap.size, 0, none⟩) : Value) := h.old 1 (by kernel_rfl)
                refine opOk_val (v := .pointer (some ⟨w.heap.size, 0, none⟩)) (w' := y) (wanted_some (j := 1) (t := 22) (b := false) rfl rfl rfl (h.of 22 (by kernel_rfl))) ?_ (fun t ht => by cases ht; exact rfl) (Below.refl _ _)
                have ec : ∀ v, a.eval (.const v) = v := fun _ => rfl
                generalize a.eval = ev at *
                clear h hpre
                go_simp
              refine AllOps.cons (fun a y h hpre => ?_) ?_
              · have e23 : a.eval (.tmp 23) = (.pointer (some ⟨w.heap.size, 0, none⟩) : Value) := h.of 23 (by kernel_rfl)
                obtain ⟨c0, c1⟩ := HC.out y h.below
                refine opOk_val (v := .slice (some ⟨b, off, none⟩) hq.length ch) (w' := y) (wanted_some (j := 1) (t := 22) (b := false) rfl rfl rfl (h.of 22 (by kernel_rfl))) ?_ (fun t ht => by cases ht; exact rfl) (Below.refl _ _)
                have ec : ∀ v, a.eval (.const v) = v := fun _ => rfl
                generalize a.eval = ev at *
                clear h hpre
                go_simp
              refine AllOps.cons (fun a y h hpre => ?_) ?_
              · have e6 : a.eval (.tmp 6) = (.int .i64 k : Value) := h.old 6 (by kernel_rfl)
                refine opOk_val (v := .int .i64 k) (w' := y) (wanted_some (j := 1) (t := 22) (b := false) rfl rfl rfl (h.of 22 (by kernel_rfl))) ?_ (fun t ht => by cases ht; exact rfl) (Below.refl _ _)
                have ec : ∀ v, a.eval (.const v) = v := fun _ => rfl
                generalize a.eval = ev at *
                clear h hpre
                go_simp
              refine AllOps.cons (fun a y h hpre => ?_) ?_
              · have e24 : a.eval (.tmp 24) = (.slice (some ⟨b, off, none⟩) hq.length ch : Value) := h.of 24 (by kernel_rfl)
                have e25 : a.eval (.tmp 25) = (.int .i64 k : Value) := h.of 25 (by kernel_rfl)
                refine opOk_val (v := .pointer (some ⟨b, off + k * 5, none⟩)) (w' := y) (wanted_some (j := 1) (t := 22) (b := false) rfl rfl rfl (h.of 22 (by kernel_rfl))) ?_ (fun t ht => by cases ht; exact rfl) (Below.refl _ _)
                have ec : ∀ v, a.eval (.const v) = v := fun _ => rfl
                generalize a.eval = ev at *
                clear h hpre
                go_simp
              refine AllOps.cons (fun a y h hpre => ?_) ?_
              · have e26 : a.eval (.tmp 26) = (.pointer (some ⟨b, off + k * 5, none⟩) : Value) := h.of 26 (by kernel_rfl)
                refine opOk_val (v := .pointer (some ⟨b, off + k * 5 + 4, none⟩)) (w' := y) (wanted_some (j := 1) (t := 22) (b := false) rfl rfl rfl (h.of 22 (by kernel_rfl))) ?_ (fun t ht => by cases ht; exact rfl) (Below.refl _ _)
                have ec : ∀ v, a.eval (.const v) = v := fun _ => rfl
                generalize a.eval = ev at *
                clear h hpre
                go_simp
              refine AllOps.cons (fun a y h hpre => ?_) ?_
              · have e27 : a.eval (.tmp 27) = (.pointer (some ⟨b, off + k * 5 + 4, none⟩) : Value) := h.of 27 (by kernel_rfl)
                obtain ⟨u0, _⟩ := HU.out y h.below
                refine opOk_val (v := .slice ai l.length ci) (w' := y) (wanted_some (j := 1) (t := 22) (b := false) rfl rfl rfl (h.of 22 (by kernel_rfl))) ?_ (fun t ht => by cases ht; exact rfl) (Below.refl _ _)
                have ec : ∀ v, a.eval (.const v) = v := fun _ => rfl
                generalize a.eval = ev at *
                clear h hpre
                go_simp
              refine AllOps.cons (fun a y h hpre => ?_) ?_
              · have e1 : a.eval (.tmp 1) = (.pointer (some ⟨w.heap.size, 0, none⟩) : Value) := h.old 1 (by kernel_rfl)
                refine opOk_val (v := .pointer (some ⟨w.heap.size, 0, none⟩)) (w' := y) (wanted_some (j := 1) (t := 22) (b := false) rfl rfl rfl (h.of 22 (by kernel_rfl))) ?_ (fun t ht => by cases ht; exact rfl) (Below.refl _ _)
                have ec : ∀ v, a.eval (.const v) = v := fun _ => rfl
                generalize a.eval = ev at *
                clear h hpre
                go_simp
              refine AllOps.cons (fun a y h hpre => ?_) ?_
              · have e29 : a.eval (.tmp 29) = (.pointer (some ⟨w.heap.size, 0, none⟩) : Value) := h.of 29 (by kernel_rfl)
                obtain ⟨c0, c1⟩ := HC.out y h.below
                refine opOk_val (v := .slice (some ⟨b, off, none⟩) hq.length ch) (w' := y) (wanted_some (j := 1) (t := 22) (b := false) rfl rfl rfl (h.of 22 (by kernel_rfl))) ?_ (fun t ht => by cases ht; exact rfl) (Below.refl _ _)
                have ec : ∀ v, a.eval (.const v) = v := fun _ => rfl
                generalize a.eval = ev at *
                clear h hpre
                go_simp
              refine AllOps.cons (fun a y h hpre => ?_) ?_
              · have e4 : a.eval (.tmp 4) = (.int .i64 i : Value) := h.old 4 (by kernel_rfl)
                refine opOk_val (v := .int .i64 i) (w' := y) (wanted_some (j := 1) (t := 22) (b := false) rfl rfl rfl (h.of 22 (by kernel_rfl))) ?_ (fun t ht => by cases ht; exact rfl) (Below.refl _ _)
                have ec : ∀ v, a.eval (.const v) = v := fun _ => rfl
                generalize a.eval = ev at *
                clear h hpre
                go_simp
              refine AllOps.cons (fun a y h hpre => ?_) ?_
              · have e30 : a.eval (.tmp 30) = (.slice (some ⟨b, off, none⟩) hq.length ch : Value) := h.of 30 (by kernel_rfl)
                have e31 : a.eval (.tmp 31) = (.int .i64 i : Value) := h.of 31 (by kernel_rfl)
                refine opOk_val (v := .pointer (some ⟨b, off + i * 5, none⟩)) (w' := y) (wanted_some (j := 1) (t := 22) (b := false) rfl rfl rfl (h.of 22 (by kernel_rfl))) ?_ (fun t ht => by cases ht; exact rfl) (Below.refl _ _)
                have ec : ∀ v, a.eval (.const v) = v := fun _ => rfl
                generalize a.eval = ev at *
                clear h hpre
                go_simp
              refine AllOps.cons (fun a y h hpre => ?_) ?_
              · have e32 : a.eval (.tmp 32) = (.pointer (some ⟨b, off + i * 5, none⟩) : Value) := h.of 32 (by kernel_rfl)
                refine opOk_val (v := .pointer (some ⟨b, off + i * 5, none⟩)) (w' := y) (wanted_some (j := 1) (t := 22) (b := false) rfl rfl rfl (h.of 22 (by kernel_rfl))) ?_ (fun t ht => by cases ht; exact rfl) (Below.refl _ _)
                have ec : ∀ v, a.eval (.const v) = v := fun _ => rfl
                generalize a.eval = ev at *
                clear h hpre
                go_simp
              refine AllOps.cons (fun a y h hpre => ?_) ?_
              · have e33 : a.eval (.tmp 33) = (.pointer (some ⟨b, off + i * 5, none⟩) : Value) := h.of 33 (by kernel_rfl)
                obtain ⟨_, u0, u1⟩ := HU.out y h.below
                refine opOk_val (v := .agg #[.int .i64 ua, .int .i64 un]) (w' := y) (wanted_some (j := 1) (t := 22) (b := false) rfl rfl rfl (h.of 22 (by kernel_rfl))) ?_ (fun t ht => by cases ht; exact rfl) (Below.refl _ _)
                have ec : ∀ v, a.eval (.const v) = v := fun _ => rfl
                generalize a.eval = ev at *
                clear h hpre
                go_simp
              refine AllOps.cons (fun a y h hpre => ?_) ?_
              · have e28 : a.eval (.tmp 28) = (.slice ai l.length ci : Value) := h.of 28 (by kernel_rfl)
                have e34 : a.eval (.tmp 34) = (.agg #[.int .i64 ua, .int .i64 un] : Value) := h.of 34 (by kernel_rfl)
                refine opOk_call (f := 46) (args := #[.slice ai l.length ci, .agg #[.int .i64 ua, .int .i64 un]]) (wanted_some (j := 1) (t := 22) (b := false) rfl rfl rfl (h.of 22 (by kernel_rfl))) ?_ ?_
                · have ec : ∀ v, a.eval (.const v) = v := fun _ => rfl
                  have ef : ∀ f, a.eval (.func f) = .func (.func f) #[] #[] := fun _ => rfl
                  generalize a.eval = ev at *
                  clear h hpre
                  go_simp
                · refine (HasId_any l ⟨ua, un⟩ _ y (HIV.out y h.below) (by omega)).mono ?_
                  rintro e w' ⟨rfl, hb⟩
                  exact ⟨_, rfl, fun t ht => by cases ht; show Value.bool _ = Value.bool hb9; rw [HB9.out], hb⟩
              refine AllOps.cons (fun a y h hpre => ?_) ?_
              · have e22 : a.eval (.tmp 22) = (.bool false : Value) := h.of 22 (by kernel_rfl)
                have e35 : a.eval (.tmp 35) = (.bool hb9 : Value) := h.of 35 (by kernel_rfl)
                refine opOk_val (v := .bool hb9) (w' := y) (wanted_none rfl) ?_ (fun t ht => by cases ht; exact rfl) (Below.refl _ _)
                have ec : ∀ v, a.eval (.const v) = v := fun _ => rfl
                generalize a.eval = ev at *
                clear h hpre
                go_simp
              exact AllOps.nil
            rintro ⟨tm0, df⟩ wE hI _
            have eL : Act.eval ⟨tm0, df⟩ (.tmp 36) = (.bool hb9 : Value) := hI.all 15 _ 36 (by decide) rfl rfl
            have hsN : tm0.size = 49 := hI.size
            show wpOps Tryz.prog _ _ [16] _ _
            rw [wpOps_cons]
            refine wpOp_val (v := .bool hb9) (w' := wE) rfl (wanted_none rfl) ?_ ?_
            · show Sem.run Tryz.prog (execOp (Act.eval ⟨tm0, df⟩) _) wE = _
              generalize Act.eval ⟨tm0, df⟩ = ev at *
              clear hI
              go_simp
            have hstE : ∀ t, t ∉ [21, 22, 23, 24, 25, 26, 27, 28, 29, 30, 31, 32, 33, 34, 35, 36, 5] → (tm0.setIfInBounds 5 (.bool hb9)).getD t undef = _ := fun t ht => by
              have hC : t ≠ 5 := fun e => ht (by rw [e]; decide)
              exact (put_get_ne (a := ⟨tm0, df⟩) hC).trans (hI.still t ht)
            have hszE : (tm0.setIfInBounds 5 (.bool hb9)).size = 49 := by simp [hsN]
            have k5 : (tm0.setIfInBounds 5 (.bool hb9)).getD 5 undef = .bool hb9 := put_get_self (a := ⟨tm0, df⟩) (by show 5 < tm0.size; omega)
            obtain rfl : df = [] := hI.defers
            have hbE := hI.below
            clear hI eL hsN
            refine wpOps_end (t := 5) ?_
            generalize tm0.setIfInBounds 5 (.bool hb9) = tm at *
            have hF8 := tmps_fold [21, 22, 23, 24, 25, 26, 27, 28, 29, 30, 31, 32, 33, 34, 35, 36, 5] tm _ (hszE.trans (by rfl)) hstE
            clear hszE hstE
            simp only [List.foldl_cons, List.foldl_nil, k5] at hF8
            clear k5
            generalize tm.getD 21 undef = x21 at hF8
            generalize tm.getD 22 undef = x22 at hF8
            generalize tm.getD 23 undef = x23 at hF8
            generalize tm.getD 24 undef = x24 at hF8
            generalize tm.getD 25 undef = x25 at hF8
            generalize tm.getD 26 undef = x26 at hF8
            generalize tm.getD 27 undef = x27 at hF8
            generalize tm.getD 28 undef = x28 at hF8
            generalize tm.getD 29 undef = x29 at hF8
            generalize tm.getD 30 undef = x30 at hF8
            generalize tm.getD 31 undef = x31 at hF8
            generalize tm.getD 32 undef = x32 at hF8
            generalize tm.getD 33 undef = x33 at hF8
            generalize tm.getD 34 undef = x34 at hF8
            generalize tm.getD 35 undef = x35 at hF8
            generalize tm.getD 36 undef = x36 at hF8
            simp only [List.setIfInBounds_toArray, List.set_cons_zero, List.set_cons_succ] at hF8
            subst hF8
            have HW2 : Hid (Below wO.heap.size wO wE) := HW.out.trans (hbE.mono HW.out.size)
            clear hbE HU HC HW HG1 c0 c1 HIV
            go_wp2_with fail
            go_roundw
            case rel => exact ⟨k + 1, hb9, hkl, by go_num, rfl, HE.out, HW2.out⟩
            case measure => simp [intOf]; omega
          · have HE : Hid (true = (ups (hq.take (k + 1))).any fun v => Wr.has v.ts ⟨ua, un⟩) := HSN.out _ rfl
            clear HSN HN
            go_upto_region 9 with fail
            go_quiet (fail)
            go_wp2_with fail
            go_roundw
            case rel => exact ⟨k + 1, true, hkl, by go_num, rfl, HE.out, HW.out.trans ((blw_drewN wr _).mono HW.out.size)⟩
            case measure => simp [intOf]; omega
        have g2 : decide (k < hq.length) = false := decide_eq_false hkl
        have HU2 : Hid (Dg.upto Wr.Up.ts (ups hq) (i + 1) = Dg.upto Wr.Up.ts (ups hq) i ++ if bv then [] else [⟨⟨ua, un⟩, ps, says, ts⟩]) := by
          refine HUP.out bv ?_
          rw [HNA.out, HN.out, List.take_of_length_le (by omega)]
        clear HUP HNA HN
        have RO := ownsRow_below ho HW.out
        have hrl : r.length ≤ 1200 := by
          have h1 := congrArg List.length HRS.out
          rw [List.length_map] at h1
          have h2 := HSL.out i
          omega
        cases bv
        · obtain ⟨x0, x1, x2, x3, x4⟩ := HXC.out wr HW.out
          have hxs := HXO.out.1.s
          have hfw := (few_of HXO.out.2).l.2.1
          obtain ⟨sa, sc, hse, hsc, hsA⟩ := factsV_below hxs HB1.out
          injection hse with hse1 hse2 hse3
          dsimp only at hse2
          subst hse1 hse2 hse3
          have HSA : Hid (FactsAt w1 a2 says ∧ (a2 = none → d2 = 0) ∧ ∀ f, f ∈ says → FFit f) := ⟨hsA, hsc.2, HXO.out.1.f⟩
          dsimp only at hfw
          clear hsA hsc hxs
          have H2' : Hid (Dg.upto Wr.Up.ts (ups hq) (i + 1) = Dg.upto Wr.Up.ts (ups hq) i ++ [⟨⟨ua, un⟩, ps, says, ts⟩]) := HU2.out
          clear HU2
          go_wp2_with (at_builtin; refine wp_append_facts rfl (.tmp 39) (.tmp 45) rfl HG1.out _ r.length r rfl rfl RO a2 d2 says rfl HSA.out.2.1 HSA.out.1 HSA.out.2.2 (by omega) ?_; intro v6 w6 r2 H2)
          obtain ⟨h1, h2, h3, h4⟩ := H2
          obtain ⟨a6, c6, rfl⟩ := own_slice h3
          have HO6 : Hid (w6.ownsRow w1.heap.size 84 2 (.slice a6 (r ++ r2).length c6) (r ++ r2).length ((r ++ r2).map fcCells).flatten) := h3
          have HB6 : Hid (Below w1.heap.size w1 w6) := h4
          have HM6 : Hid ((r ++ r2).map (·.1) = (Dg.upto Wr.Up.ts (ups hq) (i + 1)).flatMap Wr.Up.says) := by
            show _ = _
            rw [List.map_append, HRS.out, h1, H2'.out, List.flatMap_append]
            simp
          have HP6 : Hid (∀ p, p ∈ r ++ r2 → FvOk w1 p) := fun p hp => by
            rcases List.mem_append.mp hp with hp | hp
            · exact HRO.out p hp
            · exact h2 p hp
          clear h1 h2 h3 h4 RO ho HRS HRO
          go_wp2_with fail
          go_roundw
          case rel => exact ⟨i + 1, r ++ r2, hlt, by go_num, HO6.out, HM6.out, HP6.out, HB6.out⟩
          case measure => simp [intOf]; omega
        · have HM6 : Hid (r.map (·.1) = (Dg.upto Wr.Up.ts (ups hq) (i + 1)).flatMap Wr.Up.says) := by
            have h3 : Dg.upto Wr.Up.ts (ups hq) (i + 1) = Dg.upto Wr.Up.ts (ups hq) i ++ [] := HU2.out
            rw [List.append_nil] at h3
            rw [h3]
            exact HRS.out
          have HO6 : Hid (wr.ownsRow w1.heap.size 84 2 (.slice av r.length cv) r.length (r.map fcCells).flatten) := RO
          clear RO ho HU2 HRS
          go_wp2_with fail
          go_roundw
          case rel => exact ⟨i + 1, r, hlt, by go_num, HO6.out, HM6.out, HRO.out, HG1.out⟩
          case measure => simp [intOf]; omega
    · have g1 : decide (i < hq.length) = false := decide_eq_false hlt
      obtain rfl : i = hq.length := by omega
      have HSD : Hid (r.map (·.1) = Dg.said (ups hq)) := by
        show _ = _
        rw [HRS.out, Dg.upto_all]
        rfl
      have hFV : FactsV wO (.slice av r.length cv) (Dg.said (ups hq)) := by
        have h9 := own_factsV ho HRO.out HG.out
        rw [HSD.out] at h9
        exact h9
      have hrl : r.length ≤ 1200 := by
        have h1 := congrArg List.length HRS.out
        rw [List.length_map] at h1
        have h2 := HSL.out hq.length
        omega
      have HLS : Hid ((Dg.said (ups hq)).length = r.length) := by show _ = _; rw [← HSD.out, List.length_map]
      have HAS : Hid (∀ f, f ∈ Dg.said (ups hq) → FFit f) := fun f hf => by
        unfold Dg.said at hf
        obtain ⟨u, hu, hfu⟩ := List.mem_flatMap.mp hf
        obtain ⟨x, hx, rfl⟩ := List.mem_map.mp (List.mem_filter.mp hu).1
        exact (HO.out x hx).1.f f hfu
      have HST : Hid (Calls Tryz.prog 51 #[.slice av r.length cv] wO fun e w' => ∃ v', e = .returned v' ∧ FactsS wO w' v' (Dg.facts (ups hq)) ∧ Below wO.heap.size wO w') := SetOf_any (Dg.said (ups hq)) _ wO hFV (by have := HLS.out; omega) HAS.out
      have HBE : Hid (Below w.heap.size w wO) := HT.out _ HG.out
      clear ho hFV HRS HRO HSD
      go_wp2_with (go_at_call 51; refine Calls.mono HST.out ?_; rintro e w9 ⟨v9, rfl, hfp, hb9⟩)
      have HE : Hid (FactsV w9 v9 (Dg.facts (ups hq))) := (by obtain ⟨q9, h1, h2, h3⟩ := hfp; have h4 := own_factsV h2 h3 hb9; rw [h1] at h4; exact h4)
      have HB9 : Hid (Below w.heap.size w w9) := HBE.out.trans (hb9.mono HBE.out.size)
      clear hfp hb9 HST
      go_ret
      exact ⟨_, rfl, HE.out, HB9.out⟩
end Go.Proofs.YtmfaodapofamfaaGreat

/- The law DagTells: Check, Add, Heads and Facts answer just what the document says. -/
namespace Go.Proofs.YtmfaodapofamfaaGreat
open Go.RowKit

def IdS (l : List Wr.Id) (w : World) (v : Value) : Prop := ∃ a n c, v = .slice a n c ∧ IdsV w (.slice a n c) l
theorem IdS.below {l : List Wr.Id} {w w' : World} {v : Value} (h : IdS l w v) (hb : Below w.heap.size w w') : IdS l w' v := by
  obtain ⟨a, n, c, e, h⟩ := h
  exact ⟨a, n, c, e, idsV_below h hb⟩
theorem ids_of {l : List Wr.Id} {w : World} {v : Value} (h : IdsV w v l) : IdS l w v := by
  obtain ⟨a, c, rfl, _⟩ := id h
  exact ⟨a, _, c, rfl, h⟩
def FcS (l : List Rl.Fc) (w : World) (v : Value) : Prop := ∃ a n c, v = .slice a n c ∧ FactsV w (.slice a n c) l
theorem FcS.below {l : List Rl.Fc} {w w' : World} {v : Value} (h : FcS l w v) (hb : Below w.heap.size w w') : FcS l w' v := by
  obtain ⟨a, n, c, e, h⟩ := h
  exact ⟨a, n, c, e, factsV_below h hb⟩
theorem fcs_of {l : List Rl.Fc} {w : World} {v : Value} (h : FactsV w v l) : FcS l w v := by
  obtain ⟨a, c, rfl, _⟩ := id h
  exact ⟨a, _, c, rfl, h⟩
def dlT17 (ah : Option Addr) (nh ch : Nat) (aw : Option Addr) (nw cw : Nat) (HL : List Wr.Id) (FL : List Rl.Fc) (tQ : Nat) (vQ : Value) (WQ : World) : Prop :=
  match tQ with
  | 54 => vQ = .agg #[.slice ah nh ch, .slice aw nw cw]
  | 55 => IdS HL WQ vQ
  | 56 => vQ = .agg #[.slice ah nh ch, .slice aw nw cw]
  | 57 => FcS FL WQ vQ
  | 16 => IdS HL WQ vQ
  | 17 => FcS FL WQ vQ
  | _ => True
theorem dlT17_mono (ah : Option Addr) (nh ch : Nat) (aw : Option Addr) (nw cw : Nat) (HL : List Wr.Id) (FL : List Rl.Fc) (tQ : Nat) (vQ : Value) (W W' : World) (hb : Below W.heap.size W W') (h : dlT17 ah nh ch aw nw cw HL FL tQ vQ W) : dlT17 ah nh ch aw nw cw HL FL tQ vQ W' := by
  revert h
  unfold dlT17
  split <;> (intro h; first | exact h | exact IdS.below h hb | exact FcS.below h hb)
theorem rl_ins_le (f : Rl.Fc) : ∀ l : List Rl.Fc, (Rl.ins f l).length ≤ l.length + 1
  | [] => Nat.le_refl _
  | a :: r => by
    simp only [Rl.ins]
    split
    · exact Nat.le_refl _
    · split
      · exact Nat.le_succ _
      · have := rl_ins_le f r
        rw [List.length_cons, List.length_cons]
        omega
theorem rl_set_le : ∀ l : List Rl.Fc, (Rl.set l).length ≤ l.length
  | [] => Nat.le_refl _
  | a :: r => by
    have h1 := rl_ins_le a (Rl.set r)
    have h2 := rl_set_le r
    show (Rl.ins a (Rl.set r)).length ≤ r.length + 1
    omega
theorem facts_fit {hq : List Uv} {w : World} {c : Int} (hc : c = 0 → (∀ u, u ∈ ups hq → Wr.check u = 0) ∧ hq.length ≤ 200) (hok : ∀ x, x ∈ hq → UvOk w x) : (Dg.ifOk c (Dg.facts (ups hq))).length ≤ 9223372036854775807 ∧ ∀ f, f ∈ Dg.ifOk c (Dg.facts (ups hq)) → FFit f := by
  unfold Dg.ifOk
  split
  · rename_i h0
    obtain ⟨h1, h2⟩ := hc h0
    have h3 := Dg.upto_says Wr.Up.ts hq (fun x hx => (Wr.right_of (h1 x.u (List.mem_map_of_mem hx))).says) hq.length
    rw [Dg.upto_all] at h3
    have h4 := rl_set_le (Dg.said (ups hq))
    refine ⟨?_, fun f hf => ?_⟩
    · unfold Dg.facts
      unfold Dg.said at h4 ⊢
      omega
    · unfold Dg.facts at hf
      have hf := Rl.mem_set.mp hf
      unfold Dg.said at hf
      obtain ⟨u, hu, hfu⟩ := List.mem_flatMap.mp hf
      obtain ⟨x, hx, rfl⟩ := List.mem_map.mp (List.mem_filter.mp hu).1
      exact (hok x hx).f f hfu
  · exact ⟨Nat.zero_le _, fun f hf => by cases hf⟩
theorem heads_le (hq : List Uv) : (Dg.heads (ups hq)).length ≤ hq.length := by
  unfold Dg.heads Dg.free
  rw [List.length_map]
  have := List.length_filter_le (fun u => !Dg.named Wr.Up.ps (ups hq) u) (ups hq)
  rw [ups_length] at this
  exact this
theorem is_len {hq wq : List Uv} {u : Wr.Up} {R1 R2 : List Uv} (o : Dg.Ok (ups hq) (ups wq)) (h : Dg.Is (Dg.more (ups hq ++ ups wq) u) (ups R1) (ups R2)) : R1.length ≤ 1000 ∧ R2.length ≤ 1000 := by
  have hn := Dg.more_nodup (u := u) o.nd
  have h1 := h.len hn (h.nd (Dg.apart_of_nodup hn))
  have h2 := Dg.more_len (ups hq ++ ups wq) u
  have h3 := o.few
  rw [List.length_append] at h2
  rw [ups_length, ups_length] at h1
  omega

set_option maxRecDepth 100000 in
set_option maxHeartbeats 8000000 in
theorem dagTells_any (hq wq : List Uv) (hv wv : Value) (x : Uv) (w : World) (hV : UpsV w hv hq) (wV : UpsV w wv wq) (hl : hq.length ≤ 4611686018427387903 ∧ wq.length ≤ 4611686018427387903) (hok : ∀ y, y ∈ hq ++ wq → UvOk w y) (hx : UvOk w x) :
    Calls Tryz.prog 3 #[repVal hv wv, uvVal x] w fun e w' => e = .returned (.bool true) ∧ Below w.heap.size w w' := by
  obtain ⟨ah, ch, rfl, hch, hAt⟩ := id hV
  obtain ⟨aw, cw, rfl, hcw, wAt⟩ := id wV
  clear hch hAt hcw wAt
  obtain ⟨c, hc⟩ : ∃ c, c = Dg.check (ups hq) (ups wq) := ⟨_, rfl⟩
  obtain ⟨u0, hu0⟩ : ∃ c, c = Wr.check x.u := ⟨_, rfl⟩
  obtain ⟨E, hE⟩ : ∃ c, c = Dg.addErr (ups hq) (ups wq) x.u := ⟨_, rfl⟩
  have hHO : c = 0 → Dg.Ok (ups hq) (ups wq) := fun h => Dg.check_ok.mp (hc ▸ h)
  have hHC : c = 0 → ∀ u, u ∈ ups hq ++ ups wq → Wr.check u = 0 := fun h => (hHO h).each
  have HV : Hid (∀ z, Below w.heap.size w z → UpsV z (.slice ah hq.length ch) hq ∧ UpsV z (.slice aw wq.length cw) wq ∧ (∀ y, y ∈ hq ++ wq → UvOk z y) ∧ UvOk z x) := fun z hz => ⟨hV.kc (Kc.below hz), wV.kc (Kc.below hz), fun y hy => (hok y hy).below hz, hx.below hz⟩
  have H6 : Hid (∀ z, Below w.heap.size w z → Calls Tryz.prog 6 #[.agg #[.slice ah hq.length ch, .slice aw wq.length cw], uvVal x] z fun e w' => ∃ (v1 v2 : Value) (R1 R2 : List Uv), e = .returned (.tuple #[.agg #[v1, v2], .int .i64 E]) ∧ UpsV w' v1 R1 ∧ UpsV w' v2 R2 ∧ (∀ x, x ∈ R1 ++ R2 → UvOk w' x) ∧ (E = 0 → Dg.Is (Dg.more (ups hq ++ ups wq) x.u) (ups R1) (ups R2)) ∧ (E ≠ 0 → R1 = [] ∧ R2 = []) ∧ Below z.heap.size z w') := fun z hz => by
    obtain ⟨k1, k2, k3, k4⟩ := HV.out z hz
    rw [hE]
    exact Add_any hq wq _ _ x z k1 k2 hl k3 k4
  have H7 : Hid (∀ z, Below w.heap.size w z → Calls Tryz.prog 7 #[.agg #[.slice ah hq.length ch, .slice aw wq.length cw]] z fun e w' => ∃ v', e = .returned (.tuple #[v', .int .i64 c]) ∧ IdsV w' v' (Dg.ifOk c (Dg.heads (ups hq))) ∧ Below z.heap.size z w') := fun z hz => by
    obtain ⟨k1, k2, k3, k4⟩ := HV.out z hz
    rw [hc]
    exact Heads_any hq wq _ _ z k1 k2 hl k3
  have H8 : Hid (∀ z, Below w.heap.size w z → Calls Tryz.prog 8 #[.agg #[.slice ah hq.length ch, .slice aw wq.length cw]] z fun e w' => ∃ v', e = .returned (.tuple #[v', .int .i64 c]) ∧ FactsV w' v' (Dg.ifOk c (Dg.facts (ups hq))) ∧ Below z.heap.size z w') := fun z hz => by
    obtain ⟨k1, k2, k3, k4⟩ := HV.out z hz
    rw [hc]
    exact Facts_any hq wq _ _ z k1 k2 hl k3
  have H9 : Hid (∀ z, Below w.heap.size w z → Calls Tryz.prog 9 #[.agg #[.slice ah hq.length ch, .slice aw wq.length cw]] z fun e w' => e = .returned (.int .i64 c) ∧ Below z.heap.size z w') := fun z hz => by
    obtain ⟨k1, k2, k3, k4⟩ := HV.out z hz
    rw [hc]
    exact CheckReplica_any hq wq _ _ z k1 k2 hl k3
  have H10 : Hid (∀ z, Below w.heap.size w z → Calls Tryz.prog 10 #[uvVal x] z fun e w' => e = .returned (.int .i64 u0) ∧ Below z.heap.size z w') := fun z hz => by
    obtain ⟨k1, k2, k3, k4⟩ := HV.out z hz
    rw [hu0]
    exact CheckUpdate_any x.u _ _ _ z k4.p k4.s k4.t k4.f k4.l
  have H11 : Hid (c = 0 → u0 = 0 → ∀ z, Below w.heap.size w z → Calls Tryz.prog 11 #[.agg #[.slice ah hq.length ch, .slice aw wq.length cw], uvVal x] z fun e w' => ∃ (v1 v2 : Value) (c l : List Uv) (b : Bool), e = .returned (.tuple #[.agg #[v1, v2], .bool b]) ∧ UpsV w' v1 c ∧ UpsV w' v2 l ∧ (∀ y, y ∈ c ++ l → UvOk w' y) ∧ AddR hq wq x c l b ∧ Below z.heap.size z w') := fun h0 h1 z hz => by
    obtain ⟨k1, k2, k3, k4⟩ := HV.out z hz
    have hi : ∀ y : Uv, Wr.check y.u = 0 → y.u.ps.length ≤ 6 ∧ y.u.ts.length ≤ 6 := fun y hy => ⟨(Wr.right_of hy).ps, (Wr.right_of hy).ts⟩
    have hf := (hHO h0).few
    rw [ups_length, ups_length] at hf
    exact AddOf_any hq wq _ _ x z k1 k2 hf (fun y hy => ⟨k3 y hy, hi y (hHC h0 y.u (by rw [← ups_append]; exact List.mem_map_of_mem hy))⟩) ⟨k4, hi x (by rw [← hu0]; exact h1)⟩ (by rw [ups_append]; exact (hHO h0).nd)
  have H12 : Hid (c = 0 → ∀ z, Below w.heap.size w z → Calls Tryz.prog 12 #[.agg #[.slice ah hq.length ch, .slice aw wq.length cw]] z fun e w' => ∃ v', e = .returned v' ∧ IdsV w' v' (Dg.heads (ups hq)) ∧ Below z.heap.size z w') := fun h0 z hz => by
    obtain ⟨k1, k2, k3, k4⟩ := HV.out z hz
    have hf := (hHO h0).few
    rw [ups_length, ups_length] at hf
    exact HeadsAre_any hq wq _ _ z k1 k2 (by omega) (fun y hy => ⟨k3 y (List.mem_append_left _ hy), hHC h0 y.u (List.mem_append_left _ (List.mem_map_of_mem hy))⟩)
  have H13 : Hid (c = 0 → ∀ z, Below w.heap.size w z → Calls Tryz.prog 13 #[.agg #[.slice ah hq.length ch, .slice aw wq.length cw]] z fun e w' => ∃ v', e = .returned v' ∧ FactsV w' v' (Dg.facts (ups hq)) ∧ Below z.heap.size z w') := fun h0 z hz => by
    obtain ⟨k1, k2, k3, k4⟩ := HV.out z hz
    have hf := (hHO h0).few
    rw [ups_length, ups_length] at hf
    exact FactsOf_any hq wq _ _ z k1 k2 (by omega) (fun y hy => ⟨k3 y (List.mem_append_left _ hy), hHC h0 y.u (List.mem_append_left _ (List.mem_map_of_mem hy))⟩)
  have H15 : Hid (∀ z, Below w.heap.size w z → Calls Tryz.prog 15 #[.agg #[.slice ah hq.length ch, .slice aw wq.length cw]] z fun e w' => e = .returned (.int .i64 c) ∧ Below z.heap.size z w') := fun z hz => by
    obtain ⟨k1, k2, k3, k4⟩ := HV.out z hz
    rw [hc]
    exact DCheck_any hq wq _ _ z k1 k2 hl k3
  have HFF : Hid _ := facts_fit (c := c) (w := w) (hq := hq) (fun h => ⟨fun u hu => hHC h u (List.mem_append_left _ hu), by have hf := (hHO h).few; rw [ups_length, ups_length] at hf; omega⟩) (fun x hx => hok x (List.mem_append_left _ hx))
  have HOK : Hid (c = 0 → Dg.Ok (ups hq) (ups wq)) := hHO
  have HEE : Hid (E = Dg.addErr (ups hq) (ups wq) x.u) := hE
  have HCC : Hid (c = Dg.check (ups hq) (ups wq)) := hc
  have HUU : Hid (u0 = Wr.check x.u) := hu0
  have HHL : Hid (hq.length ≤ 4611686018427387903) := hl.1
  clear HV hV wV hl hok hHO hHC hE hc hu0
  obtain ⟨p1, n1, d1, p2, n2, d2, p3, n3, d3, e1, e2, e3⟩ := hx.forms
  obtain ⟨u, vp, vs, vt⟩ := x
  obtain ⟨⟨ua, un⟩, ps, says, ts⟩ := u
  dsimp only at e1 e2 e3
  subst e1 e2 e3
  clear hx
  have b0 := heap_alloc_new w (.cells #[.slice ah hq.length ch, .slice aw wq.length cw] 24)
  have g0 := new_below w (.cells #[.slice ah hq.length ch, .slice aw wq.length cw] 24)
  have b1 := heap_alloc_new (w.alloc (.cells #[.slice ah hq.length ch, .slice aw wq.length cw] 24)) (.cells #[.int .i64 ua, .int .i64 un, .slice p1 n1 d1, .slice p2 n2 d2, .slice p3 n3 d3] 30)
  have g1 := new_below (w.alloc (.cells #[.slice ah hq.length ch, .slice aw wq.length cw] 24)) (.cells #[.int .i64 ua, .int .i64 un, .slice p1 n1 d1, .slice p2 n2 d2, .slice p3 n3 d3] 30)
  have hsz : (w.alloc (.cells #[.slice ah hq.length ch, .slice aw wq.length cw] 24)).heap.size = w.heap.size + 1 := by simp
  rw [hsz] at b1
  go_enter Tryz.func3, Tryz.ntmps3
  go_upto_region 1 with fail
  have b0' := (g1.block _ (by rw [hsz]; exact Nat.lt_succ_self _)).trans b0
  have g2 := g0.trans (g1.mono g0.size)
  clear b0 g0 g1 hsz
  generalize (w.alloc (.cells #[.slice ah hq.length ch, .slice aw wq.length cw] 24)).alloc (.cells #[.int .i64 ua, .int .i64 un, .slice p1 n1 d1, .slice p2 n2 d2, .slice p3 n3 d3] 30) = w1 at *
  have HX1 : Hid (∀ z, Below w1.heap.size w1 z → z.cell? ⟨w.heap.size, 0, none⟩ = some (.slice ah hq.length ch) ∧ z.cell? ⟨w.heap.size, 1, none⟩ = some (.slice aw wq.length cw) ∧ z.cell? ⟨w.heap.size + 1, 0, none⟩ = some (.int .i64 ua) ∧ z.cell? ⟨w.heap.size + 1, 1, none⟩ = some (.int .i64 un) ∧ z.cell? ⟨w.heap.size + 1, 2, none⟩ = some (.slice p1 n1 d1) ∧ z.cell? ⟨w.heap.size + 1, 3, none⟩ = some (.slice p2 n2 d2) ∧ z.cell? ⟨w.heap.size + 1, 4, none⟩ = some (.slice p3 n3 d3)) := fun z hz =>
    ⟨cell_below hz (by rw [Lib.cell_of_heap b0']; rfl), cell_below hz (by rw [Lib.cell_of_heap b0']; rfl), cell_below hz (by rw [Lib.cell_of_heap b1]; rfl), cell_below hz (by rw [Lib.cell_of_heap b1]; rfl), cell_below hz (by rw [Lib.cell_of_heap b1]; rfl), cell_below hz (by rw [Lib.cell_of_heap b1]; rfl), cell_below hz (by rw [Lib.cell_of_heap b1]; rfl)⟩
  have HG1 : Hid (Below w.heap.size w w1) := g2
  clear b0' b1 g2
  obtain ⟨x0, x1, x2, x3, x4, x5, x6⟩ := HX1.out w1 (Below.refl _ _)
  go_upto_region 2 with (go_at_call 6; refine Calls.mono (H6.out w1 HG1.out) ?_; rintro e y6 ⟨v1, v2, R1, R2, rfl, k1, k2, k3, k4, k5, k6⟩; obtain ⟨q1, f1, rfl, hj⟩ := id k1; clear hj; obtain ⟨q2, f2, rfl, hj⟩ := id k2; clear hj)
  have b5 := heap_alloc_new y6 (.cells #[.slice q1 R1.length f1, .slice q2 R2.length f2] 24)
  have g5 := new_below y6 (.cells #[.slice q1 R1.length f1, .slice q2 R2.length f2] 24)
  generalize y6.alloc (.cells #[.slice q1 R1.length f1, .slice q2 R2.length f2] 24) = w2 at *
  have g52 := k6.trans (g5.mono k6.size)
  have HG2 : Hid (Below w.heap.size w w2) := HG1.out.trans (g52.mono HG1.out.size)
  have HX2 : Hid (∀ z, Below w2.heap.size w2 z → z.cell? ⟨w.heap.size, 0, none⟩ = some (.slice ah hq.length ch) ∧ z.cell? ⟨w.heap.size, 1, none⟩ = some (.slice aw wq.length cw) ∧ z.cell? ⟨w.heap.size + 1, 0, none⟩ = some (.int .i64 ua) ∧ z.cell? ⟨w.heap.size + 1, 1, none⟩ = some (.int .i64 un) ∧ z.cell? ⟨w.heap.size + 1, 2, none⟩ = some (.slice p1 n1 d1) ∧ z.cell? ⟨w.heap.size + 1, 3, none⟩ = some (.slice p2 n2 d2) ∧ z.cell? ⟨w.heap.size + 1, 4, none⟩ = some (.slice p3 n3 d3)) := fun z hz => HX1.out z (g52.trans (hz.mono g52.size))
  have HY2 : Hid (∀ z, Below w2.heap.size w2 z → z.cell? ⟨y6.heap.size, 0, none⟩ = some (.slice q1 R1.length f1) ∧ z.cell? ⟨y6.heap.size, 1, none⟩ = some (.slice q2 R2.length f2)) := fun z hz => ⟨cell_below hz (by rw [Lib.cell_of_heap b5]; rfl), cell_below hz (by rw [Lib.cell_of_heap b5]; rfl)⟩
  have HR2 : Hid (∀ z, Kn w2 z → UpsV z (.slice q1 R1.length f1) R1 ∧ UpsV z (.slice q2 R2.length f2) R2 ∧ ∀ x, x ∈ R1 ++ R2 → UvOk z x) := fun z hz => ⟨(k1.kc (Kc.below g5)).kn hz, (k2.kc (Kc.below g5)).kn hz, fun x hx => ((k3 x hx).below g5).kn hz⟩
  have HIS : Hid (E = 0 → Dg.Is _ (ups R1) (ups R2)) := k4
  have HNO : Hid (E ≠ 0 → R1 = [] ∧ R2 = []) := k5
  clear x0 x1 x2 x3 x4 x5 x6 k1 k2 k3 k4 k5 k6 b5 g5 g52 HX1 HG1 H6
  generalize y6.heap.size = Y at *
  try clear y6 w1
  obtain ⟨x0, x1, x2, x3, x4, x5, x6⟩ := HX2.out w2 (Below.refl _ _)
  go_upto_region 3 with (go_at_call 7; refine Calls.mono (H7.out w2 HG2.out) ?_; rintro e w3 ⟨v, rfl, hI, hb3⟩; obtain ⟨i1, i2, i3, rfl, hI⟩ := ids_of hI)
  have HI3 : Hid (IdsV w3 (.slice i1 i2 i3) (Dg.ifOk c (Dg.heads (ups hq)))) := hI
  have HB3 : Hid (Below w2.heap.size w2 w3) := hb3
  clear x0 x1 x2 x3 x4 x5 x6 hI hb3 H7
  obtain ⟨x0, x1, x2, x3, x4, x5, x6⟩ := HX2.out w3 HB3.out
  go_upto_region 4 with (go_at_call 8; refine Calls.mono (H8.out w3 (HG2.out.trans (HB3.out.mono HG2.out.size))) ?_; rintro e w4 ⟨v, rfl, hI, hb4⟩; obtain ⟨j1, j2, j3, rfl, hI⟩ := fcs_of hI)
  have HF4 : Hid (FactsV w4 (.slice j1 j2 j3) (Dg.ifOk c (Dg.facts (ups hq)))) := hI
  have HI4 : Hid (IdsV w4 (.slice i1 i2 i3) (Dg.ifOk c (Dg.heads (ups hq)))) := idsV_below HI3.out hb4
  have HB4 : Hid (Below w2.heap.size w2 w4) := HB3.out.trans (hb4.mono HB3.out.size)
  clear x0 x1 x2 x3 x4 x5 x6 hI hb4 HB3 HI3 H8
  try clear w3
  obtain ⟨x0, x1, x2, x3, x4, x5, x6⟩ := HX2.out w4 HB4.out
  go_upto_region 5 with (go_at_call 9; refine Calls.mono (H9.out w4 (HG2.out.trans (HB4.out.mono HG2.out.size))) ?_; rintro e w5 ⟨rfl, hb5⟩)
  have HF5 : Hid (FactsV w5 (.slice j1 j2 j3) (Dg.ifOk c (Dg.facts (ups hq)))) := factsV_below HF4.out hb5
  have HI5 : Hid (IdsV w5 (.slice i1 i2 i3) (Dg.ifOk c (Dg.heads (ups hq)))) := idsV_below HI4.out hb5
  have HB5 : Hid (Below w2.heap.size w2 w5) := HB4.out.trans (hb5.mono HB4.out.size)
  clear x0 x1 x2 x3 x4 x5 x6 hb5 HB4 HI4 HF4 H9
  try clear w4
  by_cases h0 : c = 0
  · subst h0
    have hOK := HOK.out rfl
    replace H11 : Hid (u0 = 0 → ∀ z, Below w.heap.size w z → _) := H11.out rfl
    replace H12 : Hid (∀ z, Below w.heap.size w z → _) := H12.out rfl
    replace H13 : Hid (∀ z, Below w.heap.size w z → _) := H13.out rfl
    have eI : Dg.ifOk 0 (Dg.heads (ups hq)) = Dg.heads (ups hq) := rfl
    have eF : Dg.ifOk 0 (Dg.facts (ups hq)) = Dg.facts (ups hq) := rfl
    rw [eI] at HI5
    rw [eF] at HF5 HFF
    have HO : Hid (Dg.Ok (ups hq) (ups wq)) := hOK
    clear hOK eI eF HOK
    obtain ⟨x0, x1, x2, x3, x4, x5, x6⟩ := HX2.out w5 HB5.out
    go_upto_region 8 with (go_at_call 10; refine Calls.mono (H10.out w5 (HG2.out.trans (HB5.out.mono HG2.out.size))) ?_; rintro e w6 ⟨rfl, hb6⟩)
    have HF6 : Hid (FactsV w6 (.slice j1 j2 j3) (Dg.facts (ups hq))) := factsV_below HF5.out hb6
    have HI6 : Hid (IdsV w6 (.slice i1 i2 i3) (Dg.heads (ups hq))) := idsV_below HI5.out hb6
    have HB6 : Hid (Below w2.heap.size w2 w6) := HB5.out.trans (hb6.mono HB5.out.size)
    clear x0 x1 x2 x3 x4 x5 x6 hb6 HB5 HI5 HF5 H10
    try clear w5
    by_cases h1 : u0 = 0
    · subst h1
      replace H11 : Hid (∀ z, Below w.heap.size w z → _) := H11.out rfl
      go_upto_region 10 with fail
      have b7 := heap_alloc_new w6 (.cells #[.slice none 0 0, .slice none 0 0] 24)
      have g7 := new_below w6 (.cells #[.slice none 0 0, .slice none 0 0] 24)
      generalize w6.alloc (.cells #[.slice none 0 0, .slice none 0 0] 24) = w7 at *
      have HB7 : Hid (Below w2.heap.size w2 w7) := HB6.out.trans (g7.mono HB6.out.size)
      have HF7 : Hid (FactsV w7 (.slice j1 j2 j3) (Dg.facts (ups hq))) := factsV_below HF6.out g7
      have HI7 : Hid (IdsV w7 (.slice i1 i2 i3) (Dg.heads (ups hq))) := idsV_below HI6.out g7
      have HBB : Hid (w7.heap[w6.heap.size]? = some (.cells #[.slice none 0 0, .slice none 0 0] 24) ∧ w2.heap.size ≤ w6.heap.size) := ⟨b7, HB6.out.size⟩
      clear b7 g7 HB6 HF6 HI6
      generalize w6.heap.size = F at *
      try clear w6
      obtain ⟨x0, x1, x2, x3, x4, x5, x6⟩ := HX2.out w7 HB7.out
      go_upto_region 11 with (go_at_call 11; refine Calls.mono (H11.out w7 (HG2.out.trans (HB7.out.mono HG2.out.size))) ?_; rintro e y8 ⟨v1, v2, C1, C2, b, rfl, k1, k2, k3, k4, k5⟩; obtain ⟨q3, f3, rfl, hj⟩ := id k1; clear hj; obtain ⟨q4, f4, rfl, hj⟩ := id k2; clear hj)
      clear x0 x1 x2 x3 x4 x5 x6
      have b8 := heap_alloc_new y8 (.cells #[.slice q3 C1.length f3, .slice q4 C2.length f4] 24)
      have g8 := new_below y8 (.cells #[.slice q3 C1.length f3, .slice q4 C2.length f4] 24)
      generalize y8.alloc (.cells #[.slice q3 C1.length f3, .slice q4 C2.length f4] 24) = w8 at *
      have g78 := k5.trans (g8.mono k5.size)
      have c0 : w8.cell? ⟨y8.heap.size, 0, none⟩ = some (.slice q3 C1.length f3) := by rw [Lib.cell_of_heap b8]; rfl
      have c1 : w8.cell? ⟨y8.heap.size, 1, none⟩ = some (.slice q4 C2.length f4) := by rw [Lib.cell_of_heap b8]; rfl
      have hF : w8.heap[F]? = some (.cells #[.slice none 0 0, .slice none 0 0] 24) := (g78.block _ (Array.getElem?_eq_some_iff.1 HBB.out.1).1).trans HBB.out.1
      have z0 : w8.cell? ⟨F, 0, none⟩ = some (.slice none 0 0) := by rw [Lib.cell_of_heap hF]; rfl
      have y0 := Lib.frozen_of_heap hF 0
      have t1 : (w8.setCell ⟨F, 0, none⟩ (.slice q3 C1.length f3)).heap[F]? = some (.cells #[.slice q3 C1.length f3, .slice none 0 0] 24) := by rw [Lib.heap_setCell_same hF]; rfl
      have z1 : (w8.setCell ⟨F, 0, none⟩ (.slice q3 C1.length f3)).cell? ⟨F, 1, none⟩ = some (.slice none 0 0) := by rw [Lib.cell_of_heap t1]; rfl
      have y1 := Lib.frozen_of_heap t1 1
      have hkn := two_kn (u := .slice q3 C1.length f3) (v := .slice q4 C2.length f4) hF
      have HB9 : Hid (w2.heap.size ≤ F ∧ (two w8 F (.slice q3 C1.length f3) (.slice q4 C2.length f4)).heap[F]? = some (.cells #[.slice q3 C1.length f3, .slice q4 C2.length f4] 24)) := ⟨HBB.out.2, two_heap hF⟩
      have HBX : Hid (Below w2.heap.size w2 (two w8 F (.slice q3 C1.length f3) (.slice q4 C2.length f4))) := two_below (HB7.out.trans (g78.mono HB7.out.size)) HBB.out.2 _ _
      have HK1 : Hid (UpsV (two w8 F (.slice q3 C1.length f3) (.slice q4 C2.length f4)) (.slice q3 C1.length f3) C1) := (k1.kc (Kc.below g8)).kn hkn
      have HK2 : Hid (UpsV (two w8 F (.slice q3 C1.length f3) (.slice q4 C2.length f4)) (.slice q4 C2.length f4) C2) := (k2.kc (Kc.below g8)).kn hkn
      have HK3 : Hid (∀ y, y ∈ C1 ++ C2 → UvOk (two w8 F (.slice q3 C1.length f3) (.slice q4 C2.length f4)) y) := fun y hy => ((k3 y hy).below g8).kn hkn
      have HF8 : Hid (FactsV (two w8 F (.slice q3 C1.length f3) (.slice q4 C2.length f4)) (.slice j1 j2 j3) (Dg.facts (ups hq))) := hkn.facts (factsV_below HF7.out g78)
      have HI8 : Hid (IdsV (two w8 F (.slice q3 C1.length f3) (.slice q4 C2.length f4)) (.slice i1 i2 i3) (Dg.heads (ups hq))) := hkn.ids (idsV_below HI7.out g78)
      have HKN : Hid (Kn w2 (two w8 F (.slice q3 C1.length f3) (.slice q4 C2.length f4))) := (Kn.below (HB7.out.trans (g78.mono HB7.out.size))).trans hkn
      have hAT := add_tells (x := ⟨⟨⟨ua, un⟩, ps, says, ts⟩, .slice p1 n1 d1, .slice p2 n2 d2, .slice p3 n3 d3⟩) HO.out HUU.out.symm k4 (fun h => HIS.out (HEE.out.trans h))
      have HAT : Hid (E = (if b then 0 else 2) ∧ (b = true → ups R1 = ups C1 ∧ ups R2 = ups C2)) := ⟨HEE.out.trans hAT.1, hAT.2⟩
      clear k1 k2 k3 k4 k5 b8 g8 g78 hF t1 hkn hAT HB7 HF7 HI7 HBB H11 HEE
      generalize y8.heap.size = D at *
      try clear y8 w7
      go_upto_region 12 with fail
      change Code.wp _ _ _ _ (two _ _ _ _)
      clear z0 y0 z1 y1 c0 c1
      generalize two w8 F (.slice q3 C1.length f3) (.slice q4 C2.length f4) = w9 at *
      try clear w8
      have hB : w9.heap[F]? = some (.cells #[.slice q3 C1.length f3, .slice q4 C2.length f4] 24) := HB9.out.2
      cases b with
        | true =>
          obtain rfl : E = 0 := HAT.out.1
          go_upto_region 17 with fail
          have HX : Hid (∀ z, Below w9.heap.size w9 z → z.cell? ⟨w.heap.size, 0, none⟩ = some (.slice ah hq.length ch) ∧ z.cell? ⟨w.heap.size, 1, none⟩ = some (.slice aw wq.length cw)) := fun z hz => ⟨(HX2.out z (HBX.out.trans (hz.mono HBX.out.size))).1, (HX2.out z (HBX.out.trans (hz.mono HBX.out.size))).2.1⟩
          replace H12 : Hid (∀ z, Below w9.heap.size w9 z → _) := fun z hz => H12.out z (HG2.out.trans ((HBX.out.trans (hz.mono HBX.out.size)).mono HG2.out.size))
          replace H13 : Hid (∀ z, Below w9.heap.size w9 z → _) := fun z hz => H13.out z (HG2.out.trans ((HBX.out.trans (hz.mono HBX.out.size)).mono HG2.out.size))
          refine wp_region_tabA (dlT17 ah hq.length ch aw wq.length cw (Dg.heads (ups hq)) (Dg.facts (ups hq))) (by kernel_rfl) (by kernel_rfl) (dlT17_mono _ _ _ _ _ _ _ _) ?hop1 ?hend1
          case hop1 =>
            refine AllOps.cons (fun a y h => ?_) ?_
            · have e2 : a.eval (.tmp 2) = (.pointer (some ⟨w.heap.size, 0, none⟩) : Value) := h.old 2 (by kernel_rfl)
              obtain ⟨x0, x1⟩ := HX.out y h.below
              refine opOk_val (v := .agg #[.slice ah hq.length ch, .slice aw wq.length cw]) (w' := y) (wanted_none rfl) ?_ (fun t ht => by cases ht; exact rfl) (Below.refl _ _)
              have ec : ∀ v, a.eval (.const v) = v := fun _ => rfl
              generalize a.eval = ev at *
              clear h
              go_simp
            refine AllOps.cons (fun a y h => ?_) ?_
            · have e54 : a.eval (.tmp 54) = (.agg #[.slice ah hq.length ch, .slice aw wq.length cw] : Value) := h.of 54 (by kernel_rfl)
              refine opOk_call (f := 12) (args := #[.agg #[.slice ah hq.length ch, .slice aw wq.length cw]]) (wanted_none rfl) ?_ ?_
              · have ec : ∀ v, a.eval (.const v) = v := fun _ => rfl
                have ef : ∀ f, a.eval (.func f) = .func (.func f) #[] #[] := fun _ => rfl
                generalize a.eval = ev at *
                clear h
                go_simp
              · refine Calls.mono (H12.out y h.below) ?_
                rintro _ y2 ⟨v, rfl, hv, hb2⟩
                exact ⟨_, rfl, fun t ht => by cases ht; exact ids_of hv, hb2⟩
            refine AllOps.cons (fun a y h => ?_) ?_
            · have e2 : a.eval (.tmp 2) = (.pointer (some ⟨w.heap.size, 0, none⟩) : Value) := h.old 2 (by kernel_rfl)
              obtain ⟨x0, x1⟩ := HX.out y h.below
              refine opOk_val (v := .agg #[.slice ah hq.length ch, .slice aw wq.length cw]) (w' := y) (wanted_none rfl) ?_ (fun t ht => by cases ht; exact rfl) (Below.refl _ _)
              have ec : ∀ v, a.eval (.const v) = v := fun _ => rfl
              generalize a.eval = ev at *
              clear h
              go_simp
            refine AllOps.cons (fun a y h => ?_) ?_
            · have e56 : a.eval (.tmp 56) = (.agg #[.slice ah hq.length ch, .slice aw wq.length cw] : Value) := h.of 56 (by kernel_rfl)
              refine opOk_call (f := 13) (args := #[.agg #[.slice ah hq.length ch, .slice aw wq.length cw]]) (wanted_none rfl) ?_ ?_
              · have ec : ∀ v, a.eval (.const v) = v := fun _ => rfl
                have ef : ∀ f, a.eval (.func f) = .func (.func f) #[] #[] := fun _ => rfl
                generalize a.eval = ev at *
                clear h
                go_simp
              · refine Calls.mono (H13.out y h.below) ?_
                rintro _ y2 ⟨v, rfl, hv, hb2⟩
                exact ⟨_, rfl, fun t ht => by cases ht; exact fcs_of hv, hb2⟩
            refine AllOps.cons (fun a y h => ?_) ?_
            · have t55 : IdS (Dg.heads (ups hq)) y (a.eval (.tmp 55)) := h.of 55 (by kernel_rfl)
              obtain ⟨i1, i2, i3, e55, hi⟩ := t55
              refine opOk_val (v := .slice i1 i2 i3) (w' := y) (wanted_none rfl) ?_ (fun t ht => by cases ht; exact ⟨_, _, _, rfl, hi⟩) (Below.refl _ _)
              have ec : ∀ v, a.eval (.const v) = v := fun _ => rfl
              generalize a.eval = ev at *
              clear h
              go_simp
            refine AllOps.cons (fun a y h => ?_) ?_
            · have t57 : FcS (Dg.facts (ups hq)) y (a.eval (.tmp 57)) := h.of 57 (by kernel_rfl)
              obtain ⟨i1, i2, i3, e57, hi⟩ := t57
              refine opOk_val (v := .slice i1 i2 i3) (w' := y) (wanted_none rfl) ?_ (fun t ht => by cases ht; exact ⟨_, _, _, rfl, hi⟩) (Below.refl _ _)
              have ec : ∀ v, a.eval (.const v) = v := fun _ => rfl
              generalize a.eval = ev at *
              clear h
              go_simp
            exact AllOps.nil
          rintro ⟨tm, df⟩ wE hbE hdE hszE hstE hTE
          obtain ⟨k1, k2, k3, k16, hi⟩ : IdS (Dg.heads (ups hq)) wE (tm.getD 16 undef) := ends_at (T := dlT17 ah hq.length ch aw wq.length cw (Dg.heads (ups hq)) (Dg.facts (ups hq))) (w := wE) (a := ⟨tm, df⟩) (t := 16) hTE (by kernel_rfl)
          obtain ⟨l1, l2, l3, k17, hj⟩ : FcS (Dg.facts (ups hq)) wE (tm.getD 17 undef) := ends_at (T := dlT17 ah hq.length ch aw wq.length cw (Dg.heads (ups hq)) (Dg.facts (ups hq))) (w := wE) (a := ⟨tm, df⟩) (t := 17) hTE (by kernel_rfl)
          obtain rfl : df = [] := hdE
          clear hTE
          have hF8 := tmps_fold [54, 55, 56, 57, 16, 17] tm _ hszE hstE
          clear hszE hstE
          simp only [List.foldl_cons, List.foldl_nil, k16, k17] at hF8
          clear k16 k17
          generalize tm.getD 54 undef = x54 at hF8
          generalize tm.getD 55 undef = x55 at hF8
          generalize tm.getD 56 undef = x56 at hF8
          generalize tm.getD 57 undef = x57 at hF8
          simp only [List.setIfInBounds_toArray, List.set_cons_zero, List.set_cons_succ] at hF8
          subst hF8
          replace HBX : Hid (Below w2.heap.size w2 wE) := HBX.out.trans (hbE.mono HBX.out.size)
          replace hB : wE.heap[F]? = some (.cells #[.slice q3 C1.length f3, .slice q4 C2.length f4] 24) := (hbE.block _ (Array.getElem?_eq_some_iff.1 hB).1).trans hB
          have HBW : Hid (Below w.heap.size w wE) := HG2.out.trans (HBX.out.mono HG2.out.size)
          have HC : Hid (∀ z, Below wE.heap.size wE z → z.cell? ⟨w.heap.size, 0, none⟩ = some (.slice ah hq.length ch) ∧ z.cell? ⟨w.heap.size, 1, none⟩ = some (.slice aw wq.length cw) ∧ z.cell? ⟨Y, 0, none⟩ = some (.slice q1 R1.length f1) ∧ z.cell? ⟨Y, 1, none⟩ = some (.slice q2 R2.length f2) ∧ z.cell? ⟨F, 0, none⟩ = some (.slice q3 C1.length f3) ∧ z.cell? ⟨F, 1, none⟩ = some (.slice q4 C2.length f4)) := fun z hz => by
            have hz2 := HBX.out.trans (hz.mono HBX.out.size)
            exact ⟨(HX2.out z hz2).1, (HX2.out z hz2).2.1, (HY2.out z hz2).1, (HY2.out z hz2).2, cell_below hz (by rw [Lib.cell_of_heap hB]; rfl), cell_below hz (by rw [Lib.cell_of_heap hB]; rfl)⟩
          replace H15 : Hid (∀ z, Below wE.heap.size wE z → _) := fun z hz => H15.out z (HBW.out.trans (hz.mono HBW.out.size))
          have H16 : Hid (∀ z, Below wE.heap.size wE z → Calls Tryz.prog 16 #[.agg #[.slice q1 R1.length f1, .slice q2 R2.length f2], .int .i64 0, .int .i64 0, .agg #[.slice q3 C1.length f3, .slice q4 C2.length f4]] z fun e w' => e = .returned (.bool true) ∧ Below z.heap.size z w') := fun z hz => by
            obtain ⟨r1, r2, r3⟩ := HR2.out z ((HKN.out.trans (Kn.below hbE)).trans (Kn.below hz))
            have hz9 := hbE.trans (hz.mono hbE.size)
            exact replicaIs_same R1 R2 C1 C2 _ _ _ _ 0 z r1 r2 (HK1.out.kc (Kc.below hz9)) (HK2.out.kc (Kc.below hz9)) (fun _ => HAT.out.2 rfl) (fun h => absurd rfl h) (is_len HO.out (HIS.out rfl)) r3 (fun y hy => (HK3.out y hy).below hz9)
          have H17 : Hid (∀ z, Below wE.heap.size wE z → Calls Tryz.prog 17 #[.slice i1 i2 i3, .slice k1 k2 k3] z fun e w' => e = .returned (.bool true) ∧ Below z.heap.size z w') := fun z hz => SameIds_same (Dg.heads (ups hq)) _ _ z (idsV_below HI8.out (hbE.trans (hz.mono hbE.size))) (idsV_below hi hz) (by have := heads_le hq; have := HHL.out; omega)
          have H18 : Hid (∀ z, Below wE.heap.size wE z → Calls Tryz.prog 18 #[.slice j1 j2 j3, .int .i64 0, .int .i64 0, .slice l1 l2 l3] z fun e w' => e = .returned (.bool true) ∧ Below z.heap.size z w') := fun z hz => factsAre_same (Dg.facts (ups hq)) (Dg.facts (ups hq)) _ _ 0 z (factsV_below HF8.out (hbE.trans (hz.mono hbE.size))) (factsV_below hj hz) (fun _ => rfl) (fun h => absurd rfl h) HFF.out.1 HFF.out.2
          obtain ⟨x0, x1, x2, x3, x4, x5⟩ := HC.out wE (Below.refl _ _)
          go_wp2_with (first
            | (go_at_call 14; refine Calls.mono (dagBegun_any _) ?_; rintro _ z1 ⟨rfl, hz1⟩; clear x0 x1 x2 x3 x4 x5; obtain ⟨x0, x1, x2, x3, x4, x5⟩ := HC.out z1 hz1)
            | (go_at_call 15; refine Calls.mono (H15.out _ hz1) ?_; rintro _ z2 ⟨rfl, hz2'⟩; have hz2 := hz1.trans (hz2'.mono hz1.size); clear hz2' x0 x1 x2 x3 x4 x5; obtain ⟨x0, x1, x2, x3, x4, x5⟩ := HC.out z2 hz2)
            | (go_at_call 16; refine Calls.mono (H16.out _ hz2) ?_; rintro _ z3 ⟨rfl, hz3'⟩; have hz3 := hz2.trans (hz3'.mono hz2.size); clear hz3' x0 x1 x2 x3 x4 x5)
            | (go_at_call 17; refine Calls.mono (H17.out _ hz3) ?_; rintro _ z4 ⟨rfl, hz4'⟩; have hz4 := hz3.trans (hz4'.mono hz3.size); clear hz4')
            | (go_at_call 18; refine Calls.mono (H18.out _ hz4) ?_; rintro _ z5 ⟨rfl, hz5'⟩; have hz5 := hz4.trans (hz5'.mono hz4.size); clear hz5'))
          go_ret
          exact ⟨rfl, HBW.out.trans (hz5.mono HBW.out.size)⟩
        | false =>
          obtain rfl : E = 2 := HAT.out.1
          go_upto_region 17 with fail
          have HX : Hid (∀ z, Below w9.heap.size w9 z → z.cell? ⟨w.heap.size, 0, none⟩ = some (.slice ah hq.length ch) ∧ z.cell? ⟨w.heap.size, 1, none⟩ = some (.slice aw wq.length cw)) := fun z hz => ⟨(HX2.out z (HBX.out.trans (hz.mono HBX.out.size))).1, (HX2.out z (HBX.out.trans (hz.mono HBX.out.size))).2.1⟩
          replace H12 : Hid (∀ z, Below w9.heap.size w9 z → _) := fun z hz => H12.out z (HG2.out.trans ((HBX.out.trans (hz.mono HBX.out.size)).mono HG2.out.size))
          replace H13 : Hid (∀ z, Below w9.heap.size w9 z → _) := fun z hz => H13.out z (HG2.out.trans ((HBX.out.trans (hz.mono HBX.out.size)).mono HG2.out.size))
          refine wp_region_tabA (dlT17 ah hq.length ch aw wq.length cw (Dg.heads (ups hq)) (Dg.facts (ups hq))) (by kernel_rfl) (by kernel_rfl) (dlT17_mono _ _ _ _ _ _ _ _) ?hop2 ?hend2
          case hop2 =>
            refine AllOps.cons (fun a y h => ?_) ?_
            · have e2 : a.eval (.tmp 2) = (.pointer (some ⟨w.heap.size, 0, none⟩) : Value) := h.old 2 (by kernel_rfl)
              obtain ⟨x0, x1⟩ := HX.out y h.below
              refine opOk_val (v := .agg #[.slice ah hq.length ch, .slice aw wq.length cw]) (w' := y) (wanted_none rfl) ?_ (fun t ht => by cases ht; exact rfl) (Below.refl _ _)
              have ec : ∀ v, a.eval (.const v) = v := fun _ => rfl
              generalize a.eval = ev at *
              clear h
              go_simp
            refine AllOps.cons (fun a y h => ?_) ?_
            · have e54 : a.eval (.tmp 54) = (.agg #[.slice ah hq.length ch, .slice aw wq.length cw] : Value) := h.of 54 (by kernel_rfl)
              refine opOk_call (f := 12) (args := #[.agg #[.slice ah hq.length ch, .slice aw wq.length cw]]) (wanted_none rfl) ?_ ?_
              · have ec : ∀ v, a.eval (.const v) = v := fun _ => rfl
                have ef : ∀ f, a.eval (.func f) = .func (.func f) #[] #[] := fun _ => rfl
                generalize a.eval = ev at *
                clear h
                go_simp
              · refine Calls.mono (H12.out y h.below) ?_
                rintro _ y2 ⟨v, rfl, hv, hb2⟩
                exact ⟨_, rfl, fun t ht => by cases ht; exact ids_of hv, hb2⟩
            refine AllOps.cons (fun a y h => ?_) ?_
            · have e2 : a.eval (.tmp 2) = (.pointer (some ⟨w.heap.size, 0, none⟩) : Value) := h.old 2 (by kernel_rfl)
              obtain ⟨x0, x1⟩ := HX.out y h.below
              refine opOk_val (v := .agg #[.slice ah hq.length ch, .slice aw wq.length cw]) (w' := y) (wanted_none rfl) ?_ (fun t ht => by cases ht; exact rfl) (Below.refl _ _)
              have ec : ∀ v, a.eval (.const v) = v := fun _ => rfl
              generalize a.eval = ev at *
              clear h
              go_simp
            refine AllOps.cons (fun a y h => ?_) ?_
            · have e56 : a.eval (.tmp 56) = (.agg #[.slice ah hq.length ch, .slice aw wq.length cw] : Value) := h.of 56 (by kernel_rfl)
              refine opOk_call (f := 13) (args := #[.agg #[.slice ah hq.length ch, .slice aw wq.length cw]]) (wanted_none rfl) ?_ ?_
              · have ec : ∀ v, a.eval (.const v) = v := fun _ => rfl
                have ef : ∀ f, a.eval (.func f) = .func (.func f) #[] #[] := fun _ => rfl
                generalize a.eval = ev at *
                clear h
                go_simp
              · refine Calls.mono (H13.out y h.below) ?_
                rintro _ y2 ⟨v, rfl, hv, hb2⟩
                exact ⟨_, rfl, fun t ht => by cases ht; exact fcs_of hv, hb2⟩
            refine AllOps.cons (fun a y h => ?_) ?_
            · have t55 : IdS (Dg.heads (ups hq)) y (a.eval (.tmp 55)) := h.of 55 (by kernel_rfl)
              obtain ⟨i1, i2, i3, e55, hi⟩ := t55
              refine opOk_val (v := .slice i1 i2 i3) (w' := y) (wanted_none rfl) ?_ (fun t ht => by cases ht; exact ⟨_, _, _, rfl, hi⟩) (Below.refl _ _)
              have ec : ∀ v, a.eval (.const v) = v := fun _ => rfl
              generalize a.eval = ev at *
              clear h
              go_simp
            refine AllOps.cons (fun a y h => ?_) ?_
            · have t57 : FcS (Dg.facts (ups hq)) y (a.eval (.tmp 57)) := h.of 57 (by kernel_rfl)
              obtain ⟨i1, i2, i3, e57, hi⟩ := t57
              refine opOk_val (v := .slice i1 i2 i3) (w' := y) (wanted_none rfl) ?_ (fun t ht => by cases ht; exact ⟨_, _, _, rfl, hi⟩) (Below.refl _ _)
              have ec : ∀ v, a.eval (.const v) = v := fun _ => rfl
              generalize a.eval = ev at *
              clear h
              go_simp
            exact AllOps.nil
          rintro ⟨tm, df⟩ wE hbE hdE hszE hstE hTE
          obtain ⟨k1, k2, k3, k16, hi⟩ : IdS (Dg.heads (ups hq)) wE (tm.getD 16 undef) := ends_at (T := dlT17 ah hq.length ch aw wq.length cw (Dg.heads (ups hq)) (Dg.facts (ups hq))) (w := wE) (a := ⟨tm, df⟩) (t := 16) hTE (by kernel_rfl)
          obtain ⟨l1, l2, l3, k17, hj⟩ : FcS (Dg.facts (ups hq)) wE (tm.getD 17 undef) := ends_at (T := dlT17 ah hq.length ch aw wq.length cw (Dg.heads (ups hq)) (Dg.facts (ups hq))) (w := wE) (a := ⟨tm, df⟩) (t := 17) hTE (by kernel_rfl)
          obtain rfl : df = [] := hdE
          clear hTE
          have hF8 := tmps_fold [54, 55, 56, 57, 16, 17] tm _ hszE hstE
          clear hszE hstE
          simp only [List.foldl_cons, List.foldl_nil, k16, k17] at hF8
          clear k16 k17
          generalize tm.getD 54 undef = x54 at hF8
          generalize tm.getD 55 undef = x55 at hF8
          generalize tm.getD 56 undef = x56 at hF8
          generalize tm.getD 57 undef = x57 at hF8
          simp only [List.setIfInBounds_toArray, List.set_cons_zero, List.set_cons_succ] at hF8
          subst hF8
          replace HBX : Hid (Below w2.heap.size w2 wE) := HBX.out.trans (hbE.mono HBX.out.size)
          replace hB : wE.heap[F]? = some (.cells #[.slice q3 C1.length f3, .slice q4 C2.length f4] 24) := (hbE.block _ (Array.getElem?_eq_some_iff.1 hB).1).trans hB
          have HBW : Hid (Below w.heap.size w wE) := HG2.out.trans (HBX.out.mono HG2.out.size)
          have HC : Hid (∀ z, Below wE.heap.size wE z → z.cell? ⟨w.heap.size, 0, none⟩ = some (.slice ah hq.length ch) ∧ z.cell? ⟨w.heap.size, 1, none⟩ = some (.slice aw wq.length cw) ∧ z.cell? ⟨Y, 0, none⟩ = some (.slice q1 R1.length f1) ∧ z.cell? ⟨Y, 1, none⟩ = some (.slice q2 R2.length f2) ∧ z.cell? ⟨F, 0, none⟩ = some (.slice q3 C1.length f3) ∧ z.cell? ⟨F, 1, none⟩ = some (.slice q4 C2.length f4)) := fun z hz => by
            have hz2 := HBX.out.trans (hz.mono HBX.out.size)
            exact ⟨(HX2.out z hz2).1, (HX2.out z hz2).2.1, (HY2.out z hz2).1, (HY2.out z hz2).2, cell_below hz (by rw [Lib.cell_of_heap hB]; rfl), cell_below hz (by rw [Lib.cell_of_heap hB]; rfl)⟩
          replace H15 : Hid (∀ z, Below wE.heap.size wE z → _) := fun z hz => H15.out z (HBW.out.trans (hz.mono HBW.out.size))
          have H16 : Hid (∀ z, Below wE.heap.size wE z → Calls Tryz.prog 16 #[.agg #[.slice q1 R1.length f1, .slice q2 R2.length f2], .int .i64 2, .int .i64 2, .agg #[.slice q3 C1.length f3, .slice q4 C2.length f4]] z fun e w' => e = .returned (.bool true) ∧ Below z.heap.size z w') := fun z hz => by
            obtain ⟨r1, r2, r3⟩ := HR2.out z ((HKN.out.trans (Kn.below hbE)).trans (Kn.below hz))
            have hz9 := hbE.trans (hz.mono hbE.size)
            exact replicaIs_same R1 R2 C1 C2 _ _ _ _ 2 z r1 r2 (HK1.out.kc (Kc.below hz9)) (HK2.out.kc (Kc.below hz9)) (fun h => absurd h (by decide)) (fun _ => HNO.out (by decide)) (by obtain ⟨n1, n2⟩ := HNO.out (by decide); rw [n1, n2]; exact ⟨by decide, by decide⟩) r3 (fun y hy => (HK3.out y hy).below hz9)
          have H17 : Hid (∀ z, Below wE.heap.size wE z → Calls Tryz.prog 17 #[.slice i1 i2 i3, .slice k1 k2 k3] z fun e w' => e = .returned (.bool true) ∧ Below z.heap.size z w') := fun z hz => SameIds_same (Dg.heads (ups hq)) _ _ z (idsV_below HI8.out (hbE.trans (hz.mono hbE.size))) (idsV_below hi hz) (by have := heads_le hq; have := HHL.out; omega)
          have H18 : Hid (∀ z, Below wE.heap.size wE z → Calls Tryz.prog 18 #[.slice j1 j2 j3, .int .i64 0, .int .i64 0, .slice l1 l2 l3] z fun e w' => e = .returned (.bool true) ∧ Below z.heap.size z w') := fun z hz => factsAre_same (Dg.facts (ups hq)) (Dg.facts (ups hq)) _ _ 0 z (factsV_below HF8.out (hbE.trans (hz.mono hbE.size))) (factsV_below hj hz) (fun _ => rfl) (fun h => absurd rfl h) HFF.out.1 HFF.out.2
          obtain ⟨x0, x1, x2, x3, x4, x5⟩ := HC.out wE (Below.refl _ _)
          go_wp2_with (first
            | (go_at_call 14; refine Calls.mono (dagBegun_any _) ?_; rintro _ z1 ⟨rfl, hz1⟩; clear x0 x1 x2 x3 x4 x5; obtain ⟨x0, x1, x2, x3, x4, x5⟩ := HC.out z1 hz1)
            | (go_at_call 15; refine Calls.mono (H15.out _ hz1) ?_; rintro _ z2 ⟨rfl, hz2'⟩; have hz2 := hz1.trans (hz2'.mono hz1.size); clear hz2' x0 x1 x2 x3 x4 x5; obtain ⟨x0, x1, x2, x3, x4, x5⟩ := HC.out z2 hz2)
            | (go_at_call 16; refine Calls.mono (H16.out _ hz2) ?_; rintro _ z3 ⟨rfl, hz3'⟩; have hz3 := hz2.trans (hz3'.mono hz2.size); clear hz3' x0 x1 x2 x3 x4 x5)
            | (go_at_call 17; refine Calls.mono (H17.out _ hz3) ?_; rintro _ z4 ⟨rfl, hz4'⟩; have hz4 := hz3.trans (hz4'.mono hz3.size); clear hz4')
            | (go_at_call 18; refine Calls.mono (H18.out _ hz4) ?_; rintro _ z5 ⟨rfl, hz5'⟩; have hz5 := hz4.trans (hz5'.mono hz4.size); clear hz5'))
          go_ret
          exact ⟨rfl, HBW.out.trans (hz5.mono HBW.out.size)⟩
    · have d1 : decide (u0 = 0) = false := decide_eq_false h1
      have hEu : E = u0 := by
        rw [HEE.out]
        unfold Dg.addErr
        rw [if_neg (fun h => h HCC.out.symm), if_pos (by rw [← HUU.out]; exact h1), HUU.out]
      subst hEu
      go_upto_region 17 with fail
      have b7 := heap_alloc_new w6 (.cells #[.slice none 0 0, .slice none 0 0] 24)
      have g7 := new_below w6 (.cells #[.slice none 0 0, .slice none 0 0] 24)
      generalize w6.alloc (.cells #[.slice none 0 0, .slice none 0 0] 24) = w9 at *
      have HBX : Hid (Below w2.heap.size w2 w9) := HB6.out.trans (g7.mono HB6.out.size)
      have HF8 : Hid (FactsV w9 (.slice j1 j2 j3) (Dg.facts (ups hq))) := factsV_below HF6.out g7
      have HI8 : Hid (IdsV w9 (.slice i1 i2 i3) (Dg.heads (ups hq))) := idsV_below HI6.out g7
      have hB := b7
      clear b7 g7 HB6 HF6 HI6 d1
      generalize w6.heap.size = F at *
      try clear w6
      have HX : Hid (∀ z, Below w9.heap.size w9 z → z.cell? ⟨w.heap.size, 0, none⟩ = some (.slice ah hq.length ch) ∧ z.cell? ⟨w.heap.size, 1, none⟩ = some (.slice aw wq.length cw)) := fun z hz => ⟨(HX2.out z (HBX.out.trans (hz.mono HBX.out.size))).1, (HX2.out z (HBX.out.trans (hz.mono HBX.out.size))).2.1⟩
      replace H12 : Hid (∀ z, Below w9.heap.size w9 z → _) := fun z hz => H12.out z (HG2.out.trans ((HBX.out.trans (hz.mono HBX.out.size)).mono HG2.out.size))
      replace H13 : Hid (∀ z, Below w9.heap.size w9 z → _) := fun z hz => H13.out z (HG2.out.trans ((HBX.out.trans (hz.mono HBX.out.size)).mono HG2.out.size))
      refine wp_region_tabA (dlT17 ah hq.length ch aw wq.length cw (Dg.heads (ups hq)) (Dg.facts (ups hq))) (by kernel_rfl) (by kernel_rfl) (dlT17_mono _ _ _ _ _ _ _ _) ?hop3 ?hend3
      case hop3 =>
        refine AllOps.cons (fun a y h => ?_) ?_
        · have e2 : a.eval (.tmp 2) = (.pointer (some ⟨w.heap.size, 0, none⟩) : Value) := h.old 2 (by kernel_rfl)
          obtain ⟨x0, x1⟩ := HX.out y h.below
          refine opOk_val (v := .agg #[.slice ah hq.length ch, .slice aw wq.length cw]) (w' := y) (wanted_none rfl) ?_ (fun t ht => by cases ht; exact rfl) (Below.refl _ _)
          have ec : ∀ v, a.eval (.const v) = v := fun _ => rfl
          generalize a.eval = ev at *
          clear h
          go_simp
        refine AllOps.cons (fun a y h => ?_) ?_
        · have e54 : a.eval (.tmp 54) = (.agg #[.slice ah hq.length ch, .slice aw wq.length cw] : Value) := h.of 54 (by kernel_rfl)
          refine opOk_call (f := 12) (args := #[.agg #[.slice ah hq.length ch, .slice aw wq.length cw]]) (wanted_none rfl) ?_ ?_
          · have ec : ∀ v, a.eval (.const v) = v := fun _ => rfl
            have ef : ∀ f, a.eval (.func f) = .func (.func f) #[] #[] := fun _ => rfl
            generalize a.eval = ev at *
            clear h
            go_simp
          · refine Calls.mono (H12.out y h.below) ?_
            rintro _ y2 ⟨v, rfl, hv, hb2⟩
            exact ⟨_, rfl, fun t ht => by cases ht; exact ids_of hv, hb2⟩
        refine AllOps.cons (fun a y h => ?_) ?_
        · have e2 : a.eval (.tmp 2) = (.pointer (some ⟨w.heap.size, 0, none⟩) : Value) := h.old 2 (by kernel_rfl)
          obtain ⟨x0, x1⟩ := HX.out y h.below
          refine opOk_val (v := .agg #[.slice ah hq.length ch, .slice aw wq.length cw]) (w' := y) (wanted_none rfl) ?_ (fun t ht => by cases ht; exact rfl) (Below.refl _ _)
          have ec : ∀ v, a.eval (.const v) = v := fun _ => rfl
          generalize a.eval = ev at *
          clear h
          go_simp
        refine AllOps.cons (fun a y h => ?_) ?_
        · have e56 : a.eval (.tmp 56) = (.agg #[.slice ah hq.length ch, .slice aw wq.length cw] : Value) := h.of 56 (by kernel_rfl)
          refine opOk_call (f := 13) (args := #[.agg #[.slice ah hq.length ch, .slice aw wq.length cw]]) (wanted_none rfl) ?_ ?_
          · have ec : ∀ v, a.eval (.const v) = v := fun _ => rfl
            have ef : ∀ f, a.eval (.func f) = .func (.func f) #[] #[] := fun _ => rfl
            generalize a.eval = ev at *
            clear h
            go_simp
          · refine Calls.mono (H13.out y h.below) ?_
            rintro _ y2 ⟨v, rfl, hv, hb2⟩
            exact ⟨_, rfl, fun t ht => by cases ht; exact fcs_of hv, hb2⟩
        refine AllOps.cons (fun a y h => ?_) ?_
        · have t55 : IdS (Dg.heads (ups hq)) y (a.eval (.tmp 55)) := h.of 55 (by kernel_rfl)
          obtain ⟨i1, i2, i3, e55, hi⟩ := t55
          refine opOk_val (v := .slice i1 i2 i3) (w' := y) (wanted_none rfl) ?_ (fun t ht => by cases ht; exact ⟨_, _, _, rfl, hi⟩) (Below.refl _ _)
          have ec : ∀ v, a.eval (.const v) = v := fun _ => rfl
          generalize a.eval = ev at *
          clear h
          go_simp
        refine AllOps.cons (fun a y h => ?_) ?_
        · have t57 : FcS (Dg.facts (ups hq)) y (a.eval (.tmp 57)) := h.of 57 (by kernel_rfl)
          obtain ⟨i1, i2, i3, e57, hi⟩ := t57
          refine opOk_val (v := .slice i1 i2 i3) (w' := y) (wanted_none rfl) ?_ (fun t ht => by cases ht; exact ⟨_, _, _, rfl, hi⟩) (Below.refl _ _)
          have ec : ∀ v, a.eval (.const v) = v := fun _ => rfl
          generalize a.eval = ev at *
          clear h
          go_simp
        exact AllOps.nil
      rintro ⟨tm, df⟩ wE hbE hdE hszE hstE hTE
      obtain ⟨k1, k2, k3, k16, hi⟩ : IdS (Dg.heads (ups hq)) wE (tm.getD 16 undef) := ends_at (T := dlT17 ah hq.length ch aw wq.length cw (Dg.heads (ups hq)) (Dg.facts (ups hq))) (w := wE) (a := ⟨tm, df⟩) (t := 16) hTE (by kernel_rfl)
      obtain ⟨l1, l2, l3, k17, hj⟩ : FcS (Dg.facts (ups hq)) wE (tm.getD 17 undef) := ends_at (T := dlT17 ah hq.length ch aw wq.length cw (Dg.heads (ups hq)) (Dg.facts (ups hq))) (w := wE) (a := ⟨tm, df⟩) (t := 17) hTE (by kernel_rfl)
      obtain rfl : df = [] := hdE
      clear hTE
      have hF8 := tmps_fold [54, 55, 56, 57, 16, 17] tm _ hszE hstE
      clear hszE hstE
      simp only [List.foldl_cons, List.foldl_nil, k16, k17] at hF8
      clear k16 k17
      generalize tm.getD 54 undef = x54 at hF8
      generalize tm.getD 55 undef = x55 at hF8
      generalize tm.getD 56 undef = x56 at hF8
      generalize tm.getD 57 undef = x57 at hF8
      simp only [List.setIfInBounds_toArray, List.set_cons_zero, List.set_cons_succ] at hF8
      subst hF8
      replace HBX : Hid (Below w2.heap.size w2 wE) := HBX.out.trans (hbE.mono HBX.out.size)
      replace hB : wE.heap[F]? = some (.cells #[.slice none 0 0, .slice none 0 0] 24) := (hbE.block _ (Array.getElem?_eq_some_iff.1 hB).1).trans hB
      have HBW : Hid (Below w.heap.size w wE) := HG2.out.trans (HBX.out.mono HG2.out.size)
      have HC : Hid (∀ z, Below wE.heap.size wE z → z.cell? ⟨w.heap.size, 0, none⟩ = some (.slice ah hq.length ch) ∧ z.cell? ⟨w.heap.size, 1, none⟩ = some (.slice aw wq.length cw) ∧ z.cell? ⟨Y, 0, none⟩ = some (.slice q1 R1.length f1) ∧ z.cell? ⟨Y, 1, none⟩ = some (.slice q2 R2.length f2) ∧ z.cell? ⟨F, 0, none⟩ = some (.slice none 0 0) ∧ z.cell? ⟨F, 1, none⟩ = some (.slice none 0 0)) := fun z hz => by
        have hz2 := HBX.out.trans (hz.mono HBX.out.size)
        exact ⟨(HX2.out z hz2).1, (HX2.out z hz2).2.1, (HY2.out z hz2).1, (HY2.out z hz2).2, cell_below hz (by rw [Lib.cell_of_heap hB]; rfl), cell_below hz (by rw [Lib.cell_of_heap hB]; rfl)⟩
      replace H15 : Hid (∀ z, Below wE.heap.size wE z → _) := fun z hz => H15.out z (HBW.out.trans (hz.mono HBW.out.size))
      have H16 : Hid (∀ z, Below wE.heap.size wE z → Calls Tryz.prog 16 #[.agg #[.slice q1 R1.length f1, .slice q2 R2.length f2], .int .i64 E, .int .i64 E, .agg #[.slice none 0 0, .slice none 0 0]] z fun e w' => e = .returned (.bool true) ∧ Below z.heap.size z w') := fun z hz => by
        obtain ⟨r1, r2, r3⟩ := HR2.out z (Kn.below (HBX.out.trans (hz.mono HBX.out.size)))
        exact replicaIs_same R1 R2 [] [] _ _ _ _ E z r1 r2 (ups_nil z) (ups_nil z) (fun h => absurd h h1) HNO.out (by obtain ⟨n1, n2⟩ := HNO.out h1; rw [n1, n2]; exact ⟨by decide, by decide⟩) r3 (fun y hy => by cases hy)
      have H17 : Hid (∀ z, Below wE.heap.size wE z → Calls Tryz.prog 17 #[.slice i1 i2 i3, .slice k1 k2 k3] z fun e w' => e = .returned (.bool true) ∧ Below z.heap.size z w') := fun z hz => SameIds_same (Dg.heads (ups hq)) _ _ z (idsV_below HI8.out (hbE.trans (hz.mono hbE.size))) (idsV_below hi hz) (by have := heads_le hq; have := HHL.out; omega)
      have H18 : Hid (∀ z, Below wE.heap.size wE z → Calls Tryz.prog 18 #[.slice j1 j2 j3, .int .i64 0, .int .i64 0, .slice l1 l2 l3] z fun e w' => e = .returned (.bool true) ∧ Below z.heap.size z w') := fun z hz => factsAre_same (Dg.facts (ups hq)) (Dg.facts (ups hq)) _ _ 0 z (factsV_below HF8.out (hbE.trans (hz.mono hbE.size))) (factsV_below hj hz) (fun _ => rfl) (fun h => absurd rfl h) HFF.out.1 HFF.out.2
      obtain ⟨x0, x1, x2, x3, x4, x5⟩ := HC.out wE (Below.refl _ _)
      go_wp2_with (first
        | (go_at_call 14; refine Calls.mono (dagBegun_any _) ?_; rintro _ z1 ⟨rfl, hz1⟩; clear x0 x1 x2 x3 x4 x5; obtain ⟨x0, x1, x2, x3, x4, x5⟩ := HC.out z1 hz1)
        | (go_at_call 15; refine Calls.mono (H15.out _ hz1) ?_; rintro _ z2 ⟨rfl, hz2'⟩; have hz2 := hz1.trans (hz2'.mono hz1.size); clear hz2' x0 x1 x2 x3 x4 x5; obtain ⟨x0, x1, x2, x3, x4, x5⟩ := HC.out z2 hz2)
        | (go_at_call 16; refine Calls.mono (H16.out _ hz2) ?_; rintro _ z3 ⟨rfl, hz3'⟩; have hz3 := hz2.trans (hz3'.mono hz2.size); clear hz3' x0 x1 x2 x3 x4 x5)
        | (go_at_call 17; refine Calls.mono (H17.out _ hz3) ?_; rintro _ z4 ⟨rfl, hz4'⟩; have hz4 := hz3.trans (hz4'.mono hz3.size); clear hz4')
        | (go_at_call 18; refine Calls.mono (H18.out _ hz4) ?_; rintro _ z5 ⟨rfl, hz5'⟩; have hz5 := hz4.trans (hz5'.mono hz4.size); clear hz5'))
      go_ret
      exact ⟨rfl, HBW.out.trans (hz5.mono HBW.out.size)⟩
  · have d0 : decide (c = 0) = false := decide_eq_false h0
    have hEc : E = c := by
      rw [HEE.out]
      unfold Dg.addErr
      rw [if_pos (by rw [← HCC.out]; exact h0), HCC.out]
    subst hEc
    have eI : Dg.ifOk E (Dg.heads (ups hq)) = [] := if_neg h0
    have eF : Dg.ifOk E (Dg.facts (ups hq)) = [] := if_neg h0
    rw [eI] at HI5
    rw [eF] at HF5
    go_upto_region 18 with fail
    have b7 := heap_alloc_new w5 (.cells #[.slice none 0 0, .slice none 0 0] 24)
    have g7 := new_below w5 (.cells #[.slice none 0 0, .slice none 0 0] 24)
    generalize w5.alloc (.cells #[.slice none 0 0, .slice none 0 0] 24) = wE at *
    have HBX : Hid (Below w2.heap.size w2 wE) := HB5.out.trans (g7.mono HB5.out.size)
    have HF8 : Hid (FactsV wE (.slice j1 j2 j3) []) := factsV_below HF5.out g7
    have HI8 : Hid (IdsV wE (.slice i1 i2 i3) []) := idsV_below HI5.out g7
    have hB := b7
    clear b7 g7 HB5 HF5 HI5 d0 eI eF
    generalize w5.heap.size = F at *
    clear w5
    have HBW : Hid (Below w.heap.size w wE) := HG2.out.trans (HBX.out.mono HG2.out.size)
    have HC : Hid (∀ z, Below wE.heap.size wE z → z.cell? ⟨w.heap.size, 0, none⟩ = some (.slice ah hq.length ch) ∧ z.cell? ⟨w.heap.size, 1, none⟩ = some (.slice aw wq.length cw) ∧ z.cell? ⟨Y, 0, none⟩ = some (.slice q1 R1.length f1) ∧ z.cell? ⟨Y, 1, none⟩ = some (.slice q2 R2.length f2) ∧ z.cell? ⟨F, 0, none⟩ = some (.slice none 0 0) ∧ z.cell? ⟨F, 1, none⟩ = some (.slice none 0 0)) := fun z hz => by
      have hz2 := HBX.out.trans (hz.mono HBX.out.size)
      exact ⟨(HX2.out z hz2).1, (HX2.out z hz2).2.1, (HY2.out z hz2).1, (HY2.out z hz2).2, cell_below hz (by rw [Lib.cell_of_heap hB]; rfl), cell_below hz (by rw [Lib.cell_of_heap hB]; rfl)⟩
    replace H15 : Hid (∀ z, Below wE.heap.size wE z → _) := fun z hz => H15.out z (HBW.out.trans (hz.mono HBW.out.size))
    have H16 : Hid (∀ z, Below wE.heap.size wE z → Calls Tryz.prog 16 #[.agg #[.slice q1 R1.length f1, .slice q2 R2.length f2], .int .i64 E, .int .i64 E, .agg #[.slice none 0 0, .slice none 0 0]] z fun e w' => e = .returned (.bool true) ∧ Below z.heap.size z w') := fun z hz => by
      obtain ⟨r1, r2, r3⟩ := HR2.out z (Kn.below (HBX.out.trans (hz.mono HBX.out.size)))
      exact replicaIs_same R1 R2 [] [] _ _ _ _ E z r1 r2 (ups_nil z) (ups_nil z) (fun h => absurd h h0) HNO.out (by obtain ⟨n1, n2⟩ := HNO.out h0; rw [n1, n2]; exact ⟨by decide, by decide⟩) r3 (fun y hy => by cases hy)
    have H17 : Hid (∀ z, Below wE.heap.size wE z → Calls Tryz.prog 17 #[.slice i1 i2 i3, .slice none 0 0] z fun e w' => e = .returned (.bool true) ∧ Below z.heap.size z w') := fun z hz => SameIds_same [] _ _ z (idsV_below HI8.out hz) ⟨none, 0, rfl, ⟨Nat.le_refl _, fun _ => rfl⟩, .inl rfl⟩ (by decide)
    have H18 : Hid (∀ z, Below wE.heap.size wE z → Calls Tryz.prog 18 #[.slice j1 j2 j3, .int .i64 E, .int .i64 E, .slice none 0 0] z fun e w' => e = .returned (.bool true) ∧ Below z.heap.size z w') := fun z hz => factsAre_same [] [] _ _ E z (factsV_below HF8.out hz) ⟨none, 0, rfl, ⟨Nat.le_refl _, fun _ => rfl⟩, .inl rfl⟩ (fun _ => rfl) (fun _ => rfl) (by decide) (fun f hf => by cases hf)
    obtain ⟨x0, x1, x2, x3, x4, x5⟩ := HC.out wE (Below.refl _ _)
    go_wp2_with (first
      | (go_at_call 14; refine Calls.mono (dagBegun_any _) ?_; rintro _ z1 ⟨rfl, hz1⟩; clear x0 x1 x2 x3 x4 x5; obtain ⟨x0, x1, x2, x3, x4, x5⟩ := HC.out z1 hz1)
      | (go_at_call 15; refine Calls.mono (H15.out _ hz1) ?_; rintro _ z2 ⟨rfl, hz2'⟩; have hz2 := hz1.trans (hz2'.mono hz1.size); clear hz2' x0 x1 x2 x3 x4 x5; obtain ⟨x0, x1, x2, x3, x4, x5⟩ := HC.out z2 hz2)
      | (go_at_call 16; refine Calls.mono (H16.out _ hz2) ?_; rintro _ z3 ⟨rfl, hz3'⟩; have hz3 := hz2.trans (hz3'.mono hz2.size); clear hz3' x0 x1 x2 x3 x4 x5)
      | (go_at_call 17; refine Calls.mono (H17.out _ hz3) ?_; rintro _ z4 ⟨rfl, hz4'⟩; have hz4 := hz3.trans (hz4'.mono hz3.size); clear hz4')
      | (go_at_call 18; refine Calls.mono (H18.out _ hz4) ?_; rintro _ z5 ⟨rfl, hz5'⟩; have hz5 := hz4.trans (hz5'.mono hz4.size); clear hz5'))
    go_ret
    exact ⟨rfl, HBW.out.trans (hz5.mono HBW.out.size)⟩
end Go.Proofs.YtmfaodapofamfaaGreat

/- A replica in memory that is what some updates come to. -/
namespace Go.Proofs.YtmfaodapofamfaaGreat
open Go.RowKit

/-- What may be added to: each id once, all right. -/
structure Fair (all : List Wr.Up) : Prop where
  nd : (all.map Wr.Up.id).Nodup
  ok : ∀ u, u ∈ all → Wr.check u = 0
  len : all.length ≤ 200
def RepI (all : List Wr.Up) (w : World) (v1 v2 : Value) : Prop := ∃ hq wq, UpsV w v1 hq ∧ UpsV w v2 wq ∧ (∀ y, y ∈ hq ++ wq → UvOk w y) ∧ Dg.Is all (ups hq) (ups wq)
theorem RepI.kn {all : List Wr.Up} {w w' : World} {v1 v2 : Value} (h : RepI all w v1 v2) (k : Kn w w') : RepI all w' v1 v2 := by
  obtain ⟨hq, wq, h1, h2, h3, h4⟩ := h
  exact ⟨hq, wq, h1.kn k, h2.kn k, fun y hy => (h3 y hy).kn k, h4⟩
theorem RepI.congr {all m : List Wr.Up} {w : World} {v1 v2 : Value} (h : RepI all w v1 v2) (he : ∀ u, u ∈ all ↔ u ∈ m) : RepI m w v1 v2 := by
  obtain ⟨hq, wq, h1, h2, h3, h4⟩ := h
  exact ⟨hq, wq, h1, h2, h3, h4.congr he⟩
def AdN (all : List Wr.Up) (w : World) (v : Value) : Prop := ∃ a1 n1 c1 a2 n2 c2, v = .tuple #[.agg #[.slice a1 n1 c1, .slice a2 n2 c2], .int .i64 0] ∧ RepI all w (.slice a1 n1 c1) (.slice a2 n2 c2)
theorem AdN.kn {all : List Wr.Up} {w w' : World} {v : Value} (h : AdN all w v) (k : Kn w w') : AdN all w' v := by
  obtain ⟨a1, n1, c1, a2, n2, c2, e, h⟩ := h
  exact ⟨a1, n1, c1, a2, n2, c2, e, h.kn k⟩
def ReN (all : List Wr.Up) (w : World) (v : Value) : Prop := ∃ a1 n1 c1 a2 n2 c2, v = .agg #[.slice a1 n1 c1, .slice a2 n2 c2] ∧ RepI all w (.slice a1 n1 c1) (.slice a2 n2 c2)
theorem ReN.kn {all : List Wr.Up} {w w' : World} {v : Value} (h : ReN all w v) (k : Kn w w') : ReN all w' v := by
  obtain ⟨a1, n1, c1, a2, n2, c2, e, h⟩ := h
  exact ⟨a1, n1, c1, a2, n2, c2, e, h.kn k⟩
def BoxI (all : List Wr.Up) (w : World) (F : Nat) : Prop := ∃ a1 n1 c1 a2 n2 c2, w.heap[F]? = some (.cells #[.slice a1 n1 c1, .slice a2 n2 c2] 24) ∧ RepI all w (.slice a1 n1 c1) (.slice a2 n2 c2)
theorem BoxI.lt {all : List Wr.Up} {w : World} {F : Nat} (h : BoxI all w F) : F < w.heap.size := by
  obtain ⟨a1, n1, c1, a2, n2, c2, h, _⟩ := h
  exact (Array.getElem?_eq_some_iff.1 h).1
theorem BoxI.bx {all : List Wr.Up} {w : World} {F : Nat} (h : BoxI all w F) : Bx w F := by
  obtain ⟨a1, n1, c1, a2, n2, c2, h, _⟩ := h
  exact ⟨a1, n1, c1, a2, n2, c2, h⟩
theorem BoxI.rb {all : List Wr.Up} {w w' : World} {F B : Nat} (h : BoxI all w F) (k : Rb B w w') (hF : F < B) : BoxI all w' F := by
  obtain ⟨a1, n1, c1, a2, n2, c2, h, r⟩ := h
  exact ⟨a1, n1, c1, a2, n2, c2, (k.1.block F hF).trans h, r.kn k.2.1⟩
theorem BoxI.below {all : List Wr.Up} {w w' : World} {F : Nat} (h : BoxI all w F) (k : Below w.heap.size w w') : BoxI all w' F := h.rb (Rb.of k (Nat.le_refl _)) h.lt
theorem BoxI.drew {all : List Wr.Up} {w : World} {F : Nat} (h : BoxI all w F) : BoxI all w.drew F := h.below (Below.refl _ _).drew
theorem BoxI.congr {all m : List Wr.Up} {w : World} {F : Nat} (h : BoxI all w F) (he : ∀ u, u ∈ all ↔ u ∈ m) : BoxI m w F := by
  obtain ⟨a1, n1, c1, a2, n2, c2, h, r⟩ := h
  exact ⟨a1, n1, c1, a2, n2, c2, h, r.congr he⟩
theorem RepI.ok {all : List Wr.Up} {w : World} {v1 v2 : Value} (hf : Fair all) (h : RepI all w v1 v2) : ∃ hq wq, UpsV w v1 hq ∧ UpsV w v2 wq ∧ (∀ y, y ∈ hq ++ wq → UvOk w y) ∧ Dg.Is all (ups hq) (ups wq) ∧ Dg.Ok (ups hq) (ups wq) ∧ hq.length + wq.length = all.length := by
  obtain ⟨hq, wq, h1, h2, h3, h4⟩ := h
  have hl := h4.len hf.nd (h4.nd (Dg.apart_of_nodup hf.nd))
  rw [ups_length, ups_length] at hl
  exact ⟨hq, wq, h1, h2, h3, h4, h4.okN hf.nd hf.ok hf.len, hl⟩
theorem add_more {all : List Wr.Up} (hf : Fair all) (hl : all.length < 200) (v1 v2 : Value) (x : Uv) (w : World) (h : RepI all w v1 v2) (hx : UvOk w x) (hc : Wr.check x.u = 0) :
    Calls Tryz.prog 6 #[.agg #[v1, v2], uvVal x] w fun e w' => ∃ v, e = .returned v ∧ AdN (Dg.more all x.u) w' v ∧ Below w.heap.size w w' := by
  obtain ⟨hq, wq, h1, h2, h3, h4, o, hn⟩ := h.ok hf
  refine (Add_any hq wq v1 v2 x w h1 h2 (by omega) h3 hx).mono ?_
  rintro e w' ⟨u1, u2, R1, R2, rfl, k1, k2, k3, k4, _, k6⟩
  have hz : Dg.addErr (ups hq) (ups wq) x.u = 0 := by
    unfold Dg.addErr
    have hc0 : Dg.check (ups hq) (ups wq) = 0 := Dg.check_ok.mpr o
    have hm := Dg.more_len (ups hq ++ ups wq) x.u
    rw [List.length_append, ups_length, ups_length] at hm
    rw [if_neg (fun h => h hc0), if_neg (fun h => h hc), if_neg (by omega)]
  have h7 := h4.on (k4 hz)
  rw [hz]
  obtain ⟨a1, c1, rfl, hj1⟩ := id k1
  obtain ⟨a2, c2, rfl, hj2⟩ := id k2
  exact ⟨_, rfl, ⟨a1, _, c1, a2, _, c2, rfl, R1, R2, k1, k2, k3, h7⟩, k6⟩
/-- .. one that is there already: also where there is no more room. -/
theorem add_same {all : List Wr.Up} (hf : Fair all) (v1 v2 : Value) (x : Uv) (w : World) (h : RepI all w v1 v2) (hx : UvOk w x) (hc : Wr.check x.u = 0) (hh : Dg.hasU all x.u.id = true) :
    Calls Tryz.prog 6 #[.agg #[v1, v2], uvVal x] w fun e w' => ∃ v, e = .returned v ∧ AdN all w' v ∧ Below w.heap.size w w' := by
  obtain ⟨hq, wq, h1, h2, h3, h4, o, hn⟩ := h.ok hf
  refine (Add_any hq wq v1 v2 x w h1 h2 (by have := hf.len; omega) h3 hx).mono ?_
  rintro e w' ⟨u1, u2, R1, R2, rfl, k1, k2, k3, k4, _, k6⟩
  have hm : Dg.more (ups hq ++ ups wq) x.u = ups hq ++ ups wq := by
    unfold Dg.more
    rw [Dg.hasU_congr (m := all) (fun v => by rw [List.mem_append]; exact h4.parts.mem v), hh]
    rfl
  have hz : Dg.addErr (ups hq) (ups wq) x.u = 0 := by
    unfold Dg.addErr
    have hc0 : Dg.check (ups hq) (ups wq) = 0 := Dg.check_ok.mpr o
    have hl := hf.len
    rw [if_neg (fun h => h hc0), if_neg (fun h => h hc), hm, List.length_append, ups_length, ups_length, if_neg (by omega)]
  have h7 := k4 hz
  rw [hm] at h7
  have h8 := h7.congr (all' := all) (fun v => by rw [List.mem_append]; exact h4.parts.mem v)
  rw [hz]
  obtain ⟨a1, c1, rfl, hj1⟩ := id k1
  obtain ⟨a2, c2, rfl, hj2⟩ := id k2
  exact ⟨_, rfl, ⟨a1, _, c1, a2, _, c2, rfl, R1, R2, k1, k2, k3, h8⟩, k6⟩
theorem check_rep {all : List Wr.Up} (hf : Fair all) (v1 v2 : Value) (w : World) (h : RepI all w v1 v2) :
    Calls Tryz.prog 15 #[.agg #[v1, v2]] w fun e w' => e = .returned (.int .i64 0) ∧ Below w.heap.size w w' := by
  obtain ⟨hq, wq, h1, h2, h3, h4, o, hn⟩ := h.ok hf
  refine (DCheck_any hq wq v1 v2 w h1 h2 (by have := hf.len; omega) h3).mono ?_
  rintro e w' ⟨rfl, hb⟩
  rw [Dg.check_ok.mpr o]
  exact ⟨rfl, hb⟩
theorem same_rep {all : List Wr.Up} (hf : Fair all) (v1 v2 u1 u2 : Value) (w : World) (h : RepI all w v1 v2) (k : RepI all w u1 u2) :
    Calls Tryz.prog 20 #[.agg #[v1, v2], .agg #[u1, u2]] w fun e w' => e = .returned (.bool true) ∧ Below w.heap.size w w' := by
  obtain ⟨hq, wq, h1, h2, h3, h4, _, hn⟩ := h.ok hf
  obtain ⟨hr, wr, k1, k2, k3, k4, _, kn⟩ := k.ok hf
  obtain ⟨e1, e2⟩ := h4.one k4
  have hl := hf.len
  exact SameReplica_same hq wq hr wr v1 v2 u1 u2 w h1 h2 k1 k2 e1 e2 (by omega) h3 k3
theorem Fair.mores {r us : List Wr.Up} (o : (r.map Wr.Up.id).Nodup) (h1 : ∀ u, u ∈ r → Wr.check u = 0) (h2 : ∀ u, u ∈ us → Wr.check u = 0) (hl : r.length + us.length ≤ 200) : Fair (Dg.mores r us) :=
  ⟨Dg.mores_nodup o, Dg.mores_check h1 h2, Nat.le_trans (Dg.mores_len us r) hl⟩
theorem mores_has {r us : List Wr.Up} (hn : (us.map Wr.Up.id).Nodup) {u : Wr.Up} (hu : u ∈ us) : Dg.hasU (Dg.mores r us) u.id = true := by
  cases hb : Dg.hasU r u.id with
  | false => exact Dg.hasU_iff.mpr ⟨u, (Dg.mores_mem hn u).mpr (.inr ⟨hb, hu⟩), rfl⟩
  | true =>
    obtain ⟨v, hv, e⟩ := Dg.hasU_iff.mp hb
    exact Dg.hasU_iff.mpr ⟨v, (Dg.mores_mem hn v).mpr (.inl hv), e⟩
end Go.Proofs.YtmfaodapofamfaaGreat

