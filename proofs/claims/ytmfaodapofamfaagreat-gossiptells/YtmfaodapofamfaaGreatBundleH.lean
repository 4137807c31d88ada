/- Own texts, one behind the other (part 8). -/
import Derived.Test.YtmfaodapofamfaaGreatBundleG
import Derived.Test.YtmfaodapofamfaaGreatRows
import Derived.Laws.BitsAllLaws
import Derived.Laws.EntriesVeiled
/- The document's HeadsAre and FactsOf. -/
namespace Go.Proofs.YtmfaodapofamfaaGreat
open Go.RowKit

namespace Dg
open Wr
/-- Those among the first some that are not named. -/
def upto (f : Up → List Wr.Id) (h : List Up) (i : Nat) : List Up := (h.take i).filter fun u => !named f h u
theorem upto_len (f : Up → List Wr.Id) (h : List Up) (i : Nat) : (upto f h i).length ≤ i := by
  unfold upto
  refine Nat.le_trans (List.length_filter_le _ _) ?_
  rw [List.length_take]
  exact Nat.min_le_left _ _
theorem upto_step (f : Up → List Wr.Id) (q : List Uv) (i : Nat) (hi : i < q.length) : upto f (ups q) (i + 1) = upto f (ups q) i ++ if named f (ups q) (uvD q i).u then [] else [(uvD q i).u] := by
  unfold upto
  have e : (ups q).take (i + 1) = (ups q).take i ++ [(uvD q i).u] := by
    have := congrArg ups (uvD_take q i hi)
    rw [ups_append] at this
    simpa [ups, List.map_take] using this
  rw [e, List.filter_append]
  cases hn : named f (ups q) (uvD q i).u <;> simp [hn]
theorem upto_all (f : Up → List Wr.Id) (q : List Uv) : upto f (ups q) q.length = free f (ups q) := by
  unfold upto free
  rw [List.take_of_length_le (by rw [ups_length]; exact Nat.le_refl _)]
end Dg
theorem any_take (p : Wr.Up → Bool) (q : List Uv) (k : Nat) (hk : k < q.length) : (ups (q.take (k + 1))).any p = ((ups (q.take k)).any p || p (uvD q k).u) := by
  rw [uvD_take q k hk, ups_append, List.any_append]
  simp [ups]
def hfHT (X b f n c k i ok oi : Nat) (ai : Option Addr) (ni ci : Nat) (ua un : Int) (hb9 nb9 : Bool) (tQ : Nat) (vQ : Value) (_ : World) : Prop :=
  match tQ with
  | 21 => vQ = .bool true
  | 22 => vQ = .bool true
  | 23 => vQ = .pointer (some ⟨X, 0, none⟩)
  | 24 => vQ = .slice (some ⟨b, f, none⟩) n c
  | 25 => vQ = .int .i64 k
  | 26 => vQ = .pointer (some ⟨b, ok, none⟩)
  | 27 => vQ = .pointer (some ⟨b, ok + 2, none⟩)
  | 28 => vQ = .slice ai ni ci
  | 29 => vQ = .pointer (some ⟨X, 0, none⟩)
  | 30 => vQ = .slice (some ⟨b, f, none⟩) n c
  | 31 => vQ = .int .i64 i
  | 32 => vQ = .pointer (some ⟨b, oi, none⟩)
  | 33 => vQ = .pointer (some ⟨b, oi, none⟩)
  | 34 => vQ = .agg #[.int .i64 ua, .int .i64 un]
  | 35 => vQ = .bool hb9
  | 36 => vQ = .bool nb9
  | 37 => vQ = .bool nb9
  | _ => True
theorem hfHT_mono (X b f n c k i ok oi : Nat) (ai : Option Addr) (ni ci : Nat) (ua un : Int) (hb9 nb9 : Bool) (tQ : Nat) (vQ : Value) (W W' : World) (_ : Below W.heap.size W W') (h : hfHT X b f n c k i ok oi ai ni ci ua un hb9 nb9 tQ vQ W) : hfHT X b f n c k i ok oi ai ni ci ua un hb9 nb9 tQ vQ W' := by
  revert h
  unfold hfHT
  split <;> (intro h; first | exact h)

set_option maxRecDepth 100000 in
set_option maxHeartbeats 4000000 in
theorem HeadsAre_any (hq wq : List Uv) (hv wv : Value) (w : World) (hV : UpsV w hv hq) (wV : UpsV w wv wq) (hl : hq.length ≤ 200) (hok : ∀ x, x ∈ hq → UvOk w x ∧ Wr.check x.u = 0) :
    Calls Tryz.prog 12 #[repVal hv wv] w fun e w' => ∃ v', e = .returned v' ∧ IdsV w' v' (Dg.heads (ups hq)) ∧ Below w.heap.size w w' := by
  have HO : Hid (∀ x, x ∈ hq → UvOk w x ∧ Wr.check x.u = 0) := hok
  have HHV : Hid (UpsV w hv hq) := hV
  obtain ⟨ah, ch, rfl, _, _⟩ := hV
  obtain ⟨aw, cw, rfl, _, _⟩ := wV
  clear hok
  have HB1 : Hid (Below w.heap.size w (w.alloc (.cells #[.slice ah hq.length ch, .slice aw wq.length cw] 24))) := (Below.refl _ _).alloc (Nat.le_refl _) _
  have HH1 : Hid ((w.alloc (.cells #[.slice ah hq.length ch, .slice aw wq.length cw] 24)).heap[w.heap.size]? = some (.cells #[.slice ah hq.length ch, .slice aw wq.length cw] 24)) := rl_new w _
  go_enter Tryz.func12, Tryz.ntmps12
  go_upto_region 1 with fail
  generalize w.alloc (.cells #[.slice ah hq.length ch, .slice aw wq.length cw] 24) = w1 at *
  have HF : Hid (∀ z, Below w1.heap.size w1 z → z.cell? ⟨w.heap.size, 0, none⟩ = some (.slice ah hq.length ch) ∧ z.cell? ⟨w.heap.size, 1, none⟩ = some (.slice aw wq.length cw)) := fun z hz => by
    have hh1 := (hz.block _ (Array.getElem?_eq_some_iff.1 HH1.out).1).trans HH1.out
    exact ⟨by rw [Lib.cell_of_heap hh1]; rfl, by rw [Lib.cell_of_heap hh1]; rfl⟩
  have HT : Hid (∀ z, Below w1.heap.size w1 z → Below w.heap.size w z) := fun z hz => HB1.out.trans (hz.mono HB1.out.size)
  have HA : Hid (∀ z, Below w1.heap.size w1 z → UpsAt z ah hq) := fun z hz => by
    obtain ⟨_, _, e1, _, k1⟩ := HHV.out.kc (Kc.below (HT.out z hz))
    cases e1
    exact k1
  have HUL : Hid (∀ i, (Dg.upto Wr.Up.ps (ups hq) i).length ≤ i) := Dg.upto_len _ _
  clear HH1 HHV
  go_wp2_with fail
  go_loopw [3, 4] (fun ov iv wr => ∃ i : Nat, i ≤ hq.length ∧ iv = .int .i64 i ∧ wr.ownsRow w1.heap.size 26 2 ov (Dg.upto Wr.Up.ps (ups hq) i).length (((Dg.upto Wr.Up.ps (ups hq) i).map Wr.Up.id).map idCells).flatten ∧ Hid (Below w1.heap.size w1 wr)) (fun _ iv _ => hq.length - (intOf iv).toNat)
  case atStart => exact ⟨0, Nat.zero_le _, rfl, World.ownsRow_nil _ _ _ _, Below.refl _ _⟩
  case round =>
    obtain ⟨i, hi, rfl, ho, HG⟩ := hrel
    obtain ⟨av, cv, rfl⟩ := own_slice ho
    generalize wr = wO at *
    obtain ⟨c0, c1⟩ := HF.out wO HG.out
    by_cases hlt : i < hq.length
    · have g1 : decide (i < hq.length) = true := decide_eq_true hlt
      obtain ⟨b, off, rfl, p0, p1, p2, p3, p4⟩ := ups_at (HA.out wO HG.out) i hlt
      have HXO : Hid (UvOk w (uvD hq i) ∧ Wr.check (uvD hq i).u = 0) := HO.out _ (uvD_mem hq i hlt)
      have hxo := HXO.out.1
      have HUP : Hid (∀ b, b = Dg.named Wr.Up.ps (ups hq) (uvD hq i).u → Dg.upto Wr.Up.ps (ups hq) (i + 1) = Dg.upto Wr.Up.ps (ups hq) i ++ if b then [] else [(uvD hq i).u]) := fun b h => by rw [h]; exact Dg.upto_step _ hq i hlt
      have HNA : Hid (Dg.named Wr.Up.ps (ups hq) (uvD hq i).u = (ups hq).any fun v => Wr.has v.ps (uvD hq i).u.id) := rfl
      obtain ⟨a1, n1, d1, a2, n2, d2, a3, n3, d3, e1, e2, e3⟩ := hxo.forms
      clear hxo
      generalize uvD hq i = x at *
      obtain ⟨⟨⟨ua, un⟩, ps, says, ts⟩, vp, vs, vt⟩ := x
      dsimp only at *
      subst e1 e2 e3
      have HXC : Hid (∀ z, Below wO.heap.size wO z → z.cell? ⟨b, off + i * 5, none⟩ = some (.int .i64 ua) ∧ z.cell? ⟨b, off + i * 5 + 1, none⟩ = some (.int .i64 un) ∧ z.cell? ⟨b, off + i * 5 + 2, none⟩ = some (.slice a1 n1 d1) ∧ z.cell? ⟨b, off + i * 5 + 3, none⟩ = some (.slice a2 n2 d2) ∧ z.cell? ⟨b, off + i * 5 + 4, none⟩ = some (.slice a3 n3 d3)) := fun z hz => ⟨cell_below hz p0, cell_below hz p1, cell_below hz p2, cell_below hz p3, cell_below hz p4⟩
      clear p0 p1 p2 p3 p4
      go_wp2_with fail
      clear c0 c1
      go_loopw [5, 6] (fun nv kv wr => ∃ (k : Nat) (bv : Bool), k ≤ hq.length ∧ kv = .int .i64 k ∧ nv = .bool bv ∧ Hid ((!bv) = (ups (hq.take k)).any fun v => Wr.has v.ps ⟨ua, un⟩) ∧ Hid (Below wO.heap.size wO wr)) (fun _ kv _ => hq.length - (intOf kv).toNat)
      case atStart => exact ⟨0, true, Nat.zero_le _, rfl, rfl, rfl, Below.refl _ _⟩
      case round =>
        obtain ⟨k, bv, hk, rfl, rfl, HN, HW⟩ := hrel
        have HG1 : Hid (Below w1.heap.size w1 wr) := HG.out.trans (HW.out.mono HG.out.size)
        have HC : Hid (∀ z, Below wr.heap.size wr z → z.cell? ⟨w.heap.size, 0, none⟩ = some (.slice (some ⟨b, off, none⟩) hq.length ch) ∧ z.cell? ⟨w.heap.size, 1, none⟩ = some (.slice aw wq.length cw)) := fun z hz => HF.out z (HG1.out.trans (hz.mono HG1.out.size))
        obtain ⟨c0, c1⟩ := HF.out wr HG1.out
        by_cases hkl : k < hq.length
        · have g2 : decide (k < hq.length) = true := decide_eq_true hkl
          have HSN : Hid (∀ b, b = Wr.has (uvD hq k).u.ps ⟨ua, un⟩ → ((!bv) || b) = (ups (hq.take (k + 1))).any fun v => Wr.has v.ps ⟨ua, un⟩) := fun b h => by rw [h, HN.out]; exact (any_take _ hq k hkl).symm
          cases bv
          rotate_left
          · obtain ⟨b', off', e9, s0, s1, s2, s3, s4⟩ := ups_at (HA.out wr HG1.out) k hkl
            cases e9
            have hyo := HO.out _ (uvD_mem hq k hkl)
            obtain ⟨ai, ci, eai, _, _⟩ := hyo.1.p
            have HIV : Hid (∀ z, Below wr.heap.size wr z → IdsV z (uvD hq k).p (uvD hq k).u.ps) := fun z hz => idsV_below hyo.1.p (HT.out z (HG1.out.trans (hz.mono HG1.out.size)))
            have hll : (uvD hq k).u.ps.length ≤ 6 := (idsOk_of hyo.2).lp
            have HU : Hid (∀ z, Below wr.heap.size wr z → z.cell? ⟨b, off + k * 5 + 2, none⟩ = some (uvD hq k).p ∧ z.cell? ⟨b, off + i * 5, none⟩ = some (.int .i64 ua) ∧ z.cell? ⟨b, off + i * 5 + 1, none⟩ = some (.int .i64 un)) := fun z hz => ⟨cell_below hz s2, (HXC.out z (HW.out.trans (hz.mono HW.out.size))).1, (HXC.out z (HW.out.trans (hz.mono HW.out.size))).2.1⟩
            clear s0 s1 s2 s3 s4 hyo
            rw [eai] at HIV HU
            clear eai
            generalize (uvD hq k).u.ps = l at *
            obtain ⟨hb9, HB9⟩ : ∃ b, Hid (b = Wr.has l ⟨ua, un⟩) := ⟨_, rfl⟩
            have HE : Hid (hb9 = (ups (hq.take (k + 1))).any fun v => Wr.has v.ps ⟨ua, un⟩) := HSN.out hb9 HB9.out
            clear HSN
            obtain ⟨nb9, HNB⟩ : ∃ b, Hid (b = !hb9) := ⟨_, rfl⟩
            go_upto_region 9 with fail
            refine wp_region_tail2 (hfHT w.heap.size b off hq.length ch k i (off + k * 5) (off + i * 5) ai l.length ci ua un hb9 nb9) 17 (by decide) (by kernel_rfl) (by kernel_rfl) (by kernel_rfl) (hfHT_mono _ _ _ _ _ _ _ _ _ _ _ _ _ _ _ _) ?hop9 ?hend9
            case hop9 =>
              refine AllOps.cons (fun a y h hpre => ?_) ?_
              · have e5 : a.eval (.tmp 5) = (.bool true : Value) := hpre 5 (by decide)
                refine opOk_val (v := .bool true) (w' := y) (wanted_none rfl) ?_ (fun t ht => by cases ht; exact rfl) (Below.refl _ _)
                have ec : ∀ v, a.eval (.const v) = v := fun _ => rfl
                generalize a.eval = ev at *
                clear h hpre
                go_simp
              refine AllOps.cons (fun a y h hpre => ?_) ?_
              · have e21 : a.eval (.tmp 21) = (.bool true : Value) := h.of 21 (by kernel_rfl)
                refine opOk_val (v := .bool true) (w' := y) (wanted_none rfl) ?_ (fun t ht => by cases ht; exact rfl) (Below.refl _ _)
                have ec : ∀ v, a.eval (.const v) = v := fun _ => rfl
                generalize a.eval = ev at *
                clear h hpre
                go_simp
              refine AllOps.cons (fun a y h hpre => ?_) ?_
              · have e1 : a.eval (.tmp 1) = (.pointer (some ⟨w.heap.size, 0, none⟩) : Value) := h.old 1 (by kernel_rfl)
                refine opOk_val (v := .pointer (some ⟨w.heap.size, 0, none⟩)) (w' := y) (wanted_some (j := 1) (t := 22) (b := true) rfl rfl rfl (h.of 22 (by kernel_rfl))) ?_ (fun t ht => by cases ht; exact rfl) (Below.refl _ _)
                have ec : ∀ v, a.eval (.const v) = v := fun _ => rfl
                generalize a.eval = ev at *
                clear h hpre
                go_simp
              refine AllOps.cons (fun a y h hpre => ?_) ?_
              · have e23 : a.eval (.tmp 23) = (.pointer (some ⟨w.heap.size, 0, none⟩) : Value) := h.of 23 (by kernel_rfl)
                obtain ⟨c0, c1⟩ := HC.out y h.below
                refine opOk_val (v := .slice (some ⟨b, off, none⟩) hq.length ch) (w' := y) (wanted_some (j := 1) (t := 22) (b := true) rfl rfl rfl (h.of 22 (by kernel_rfl))) ?_ (fun t ht => by cases ht; exact rfl) (Below.refl _ _)
                have ec : ∀ v, a.eval (.const v) = v := fun _ => rfl
                generalize a.eval = ev at *
                clear h hpre
                go_simp
              refine AllOps.cons (fun a y h hpre => ?_) ?_
              · have e6 : a.eval (.tmp 6) = (.int .i64 k : Value) := h.old 6 (by kernel_rfl)
                refine opOk_val (v := .int .i64 k) (w' := y) (wanted_some (j := 1) (t := 22) (b := true) rfl rfl rfl (h.of 22 (by kernel_rfl))) ?_ (fun t ht => by cases ht; exact rfl) (Below.refl _ _)
                have ec : ∀ v, a.eval (.const v) = v := fun _ => rfl
                generalize a.eval = ev at *
                clear h hpre
                go_simp
              refine AllOps.cons (fun a y h hpre => ?_) ?_
              · have e24 : a.eval (.tmp 24) = (.slice (some ⟨b, off, none⟩) hq.length ch : Value) := h.of 24 (by kernel_rfl)
                have e25 : a.eval (.tmp 25) = (.int .i64 k : Value) := h.of 25 (by kernel_rfl)
                refine opOk_val (v := .pointer (some ⟨b, off + k * 5, none⟩)) (w' := y) (wanted_some (j := 1) (t := 22) (b := true) rfl rfl rfl (h.of 22 (by kernel_rfl))) ?_ (fun t ht => by cases ht; exact rfl) (Below.refl _ _)
                have ec : ∀ v, a.eval (.const v) = v := fun _ => rfl
                generalize a.eval = ev at *
                clear h hpre
                go_simp
              refine AllOps.cons (fun a y h hpre => ?_) ?_
              · have e26 : a.eval (.tmp 26) = (.pointer (some ⟨b, off + k * 5, none⟩) : Value) := h.of 26 (by kernel_rfl)
                refine opOk_val (v := .pointer (some ⟨b, off + k * 5 + 2, none⟩)) (w' := y) (wanted_some (j := 1) (t := 22) (b := true) rfl rfl rfl (h.of 22 (by kernel_rfl))) ?_ (fun t ht => by cases ht; exact rfl) (Below.refl _ _)
                have ec : ∀ v, a.eval (.const v) = v := fun _ => rfl
                generalize a.eval = ev at *
                clear h hpre
                go_simp
              refine AllOps.cons (fun a y h hpre => ?_) ?_
              · have e27 : a.eval (.tmp 27) = (.pointer (some ⟨b, off + k * 5 + 2, none⟩) : Value) := h.of 27 (by kernel_rfl)
                obtain ⟨u0, _⟩ := HU.out y h.below
                refine opOk_val (v := .slice ai l.length ci) (w' := y) (wanted_some (j := 1) (t := 22) (b := true) rfl rfl rfl (h.of 22 (by kernel_rfl))) ?_ (fun t ht => by cases ht; exact rfl) (Below.refl _ _)
                have ec : ∀ v, a.eval (.const v) = v := fun _ => rfl
                generalize a.eval = ev at *
                clear h hpre
                go_simp
              refine AllOps.cons (fun a y h hpre => ?_) ?_
              · have e1 : a.eval (.tmp 1) = (.pointer (some ⟨w.heap.size, 0, none⟩) : Value) := h.old 1 (by kernel_rfl)
                refine opOk_val (v := .pointer (some ⟨w.heap.size, 0, none⟩)) (w' := y) (wanted_some (j := 1) (t := 22) (b := true) rfl rfl rfl (h.of 22 (by kernel_rfl))) ?_ (fun t ht => by cases ht; exact rfl) (Below.refl _ _)
                have ec : ∀ v, a.eval (.const v) = v := fun _ => rfl
                generalize a.eval = ev at *
                clear h hpre
                go_simp
              refine AllOps.cons (fun a y h hpre => ?_) ?_
              · have e29 : a.eval (.tmp 29) = (.pointer (some ⟨w.heap.size, 0, none⟩) : Value) := h.of 29 (by kernel_rfl)
                obtain ⟨c0, c1⟩ := HC.out y h.below
                refine opOk_val (v := .slice (some ⟨b, off, none⟩) hq.length ch) (w' := y) (wanted_some (j := 1) (t := 22) (b := true) rfl rfl rfl (h.of 22 (by kernel_rfl))) ?_ (fun t ht => by cases ht; exact rfl) (Below.refl _ _)
                have ec : ∀ v, a.eval (.const v) = v := fun _ => rfl
                generalize a.eval = ev at *
                clear h hpre
                go_simp
              refine AllOps.cons (fun a y h hpre => ?_) ?_
              · have e4 : a.eval (.tmp 4) = (.int .i64 i : Value) := h.old 4 (by kernel_rfl)
                refine opOk_val (v := .int .i64 i) (w' := y) (wanted_some (j := 1) (t := 22) (b := true) rfl rfl rfl (h.of 22 (by kernel_rfl))) ?_ (fun t ht => by cases ht; exact rfl) (Below.refl _ _)
                have ec : ∀ v, a.eval (.const v) = v := fun _ => rfl
                generalize a.eval = ev at *
                clear h hpre
                go_simp
              refine AllOps.cons (fun a y h hpre => ?_) ?_
              · have e30 : a.eval (.tmp 30) = (.slice (some ⟨b, off, none⟩) hq.length ch : Value) := h.of 30 (by kernel_rfl)
                have e31 : a.eval (.tmp 31) = (.int .i64 i : Value) := h.of 31 (by kernel_rfl)
                refine opOk_val (v := .pointer (some ⟨b, off + i * 5, none⟩)) (w' := y) (wanted_some (j := 1) (t := 22) (b := true) rfl rfl rfl (h.of 22 (by kernel_rfl))) ?_ (fun t ht => by cases ht; exact rfl) (Below.refl _ _)
                have ec : ∀ v, a.eval (.const v) = v := fun _ => rfl
                generalize a.eval = ev at *
                clear h hpre
                go_simp
              refine AllOps.cons (fun a y h hpre => ?_) ?_
              · have e32 : a.eval (.tmp 32) = (.pointer (some ⟨b, off + i * 5, none⟩) : Value) := h.of 32 (by kernel_rfl)
                refine opOk_val (v := .pointer (some ⟨b, off + i * 5, none⟩)) (w' := y) (wanted_some (j := 1) (t := 22) (b := true) rfl rfl rfl (h.of 22 (by kernel_rfl))) ?_ (fun t ht => by cases ht; exact rfl) (Below.refl _ _)
                have ec : ∀ v, a.eval (.const v) = v := fun _ => rfl
                generalize a.eval = ev at *
                clear h hpre
                go_simp
              refine AllOps.cons (fun a y h hpre => ?_) ?_
              · have e33 : a.eval (.tmp 33) = (.pointer (some ⟨b, off + i * 5, none⟩) : Value) := h.of 33 (by kernel_rfl)
                obtain ⟨_, u0, u1⟩ := HU.out y h.below
                refine opOk_val (v := .agg #[.int .i64 ua, .int .i64 un]) (w' := y) (wanted_some (j := 1) (t := 22) (b := true) rfl rfl rfl (h.of 22 (by kernel_rfl))) ?_ (fun t ht => by cases ht; exact rfl) (Below.refl _ _)
                have ec : ∀ v, a.eval (.const v) = v := fun _ => rfl
                generalize a.eval = ev at *
                clear h hpre
                go_simp
              refine AllOps.cons (fun a y h hpre => ?_) ?_
              · have e28 : a.eval (.tmp 28) = (.slice ai l.length ci : Value) := h.of 28 (by kernel_rfl)
                have e34 : a.eval (.tmp 34) = (.agg #[.int .i64 ua, .int .i64 un] : Value) := h.of 34 (by kernel_rfl)
                refine opOk_call (f := 46) (args := #[.slice ai l.length ci, .agg #[.int .i64 ua, .int .i64 un]]) (wanted_some (j := 1) (t := 22) (b := true) rfl rfl rfl (h.of 22 (by kernel_rfl))) ?_ ?_
                · have ec : ∀ v, a.eval (.const v) = v := fun _ => rfl
                  have ef : ∀ f, a.eval (.func f) = .func (.func f) #[] #[] := fun _ => rfl
                  generalize a.eval = ev at *
                  clear h hpre
                  go_simp
                · refine (HasId_any l ⟨ua, un⟩ _ y (HIV.out y h.below) (by omega)).mono ?_
                  rintro e w' ⟨rfl, hb⟩
                  exact ⟨_, rfl, fun t ht => by cases ht; show Value.bool _ = Value.bool hb9; rw [HB9.out], hb⟩
              refine AllOps.cons (fun a y h hpre => ?_) ?_
              · have e35 : a.eval (.tmp 35) = (.bool hb9 : Value) := h.of 35 (by kernel_rfl)
                refine opOk_val (v := .bool (!hb9)) (w' := y) (wanted_some (j := 1) (t := 22) (b := true) rfl rfl rfl (h.of 22 (by kernel_rfl))) ?_ (fun t ht => by cases ht; exact (by show Value.bool _ = Value.bool nb9; rw [HNB.out])) (Below.refl _ _)
                have ec : ∀ v, a.eval (.const v) = v := fun _ => rfl
                generalize a.eval = ev at *
                clear h hpre
                go_simp
              refine AllOps.cons (fun a y h hpre => ?_) ?_
              · have e22 : a.eval (.tmp 22) = (.bool true : Value) := h.of 22 (by kernel_rfl)
                have e36 : a.eval (.tmp 36) = (.bool nb9 : Value) := h.of 36 (by kernel_rfl)
                refine opOk_val (v := .bool nb9) (w' := y) (wanted_none rfl) ?_ (fun t ht => by cases ht; exact rfl) (Below.refl _ _)
                have ec : ∀ v, a.eval (.const v) = v := fun _ => rfl
                generalize a.eval = ev at *
                clear h hpre
                go_simp
              exact AllOps.nil
            rintro ⟨tm0, df⟩ wE hI _
            have eL : Act.eval ⟨tm0, df⟩ (.tmp 37) = (.bool nb9 : Value) := hI.all 16 _ 37 (by decide) rfl rfl
            have hsN : tm0.size = 49 := hI.size
            show wpOps Tryz.prog _ _ [17] _ _
            rw [wpOps_cons]
            refine wpOp_val (v := .bool nb9) (w' := wE) rfl (wanted_none rfl) ?_ ?_
            · show Sem.run Tryz.prog (execOp (Act.eval ⟨tm0, df⟩) _) wE = _
              generalize Act.eval ⟨tm0, df⟩ = ev at *
              clear hI
              go_simp
            have hstE : ∀ t, t ∉ [21, 22, 23, 24, 25, 26, 27, 28, 29, 30, 31, 32, 33, 34, 35, 36, 37, 5] → (tm0.setIfInBounds 5 (.bool nb9)).getD t undef = _ := fun t ht => by
              have hC : t ≠ 5 := fun e => ht (by rw [e]; decide)
              exact (put_get_ne (a := ⟨tm0, df⟩) hC).trans (hI.still t ht)
            have hszE : (tm0.setIfInBounds 5 (.bool nb9)).size = 49 := by simp [hsN]
            have k5 : (tm0.setIfInBounds 5 (.bool nb9)).getD 5 undef = .bool nb9 := put_get_self (a := ⟨tm0, df⟩) (by show 5 < tm0.size; omega)
            obtain rfl : df = [] := hI.defers
            have hbE := hI.below
            clear hI eL hsN
            refine wpOps_end (t := 5) ?_
            generalize tm0.setIfInBounds 5 (.bool nb9) = tm at *
            have hF8 := tmps_fold [21, 22, 23, 24, 25, 26, 27, 28, 29, 30, 31, 32, 33, 34, 35, 36, 37, 5] tm _ (hszE.trans (by rfl)) hstE
            clear hszE hstE
            simp only [List.foldl_cons, List.foldl_nil, k5] at hF8
            clear k5
            generalize tm.getD 21 undef = x21 at hF8
            generalize tm.getD 22 undef = x22 at hF8
            generalize tm.getD 23 undef = x23 at hF8
            generalize tm.getD 24 undef = x24 at hF8
            generalize tm.getD 25 undef = x25 at hF8
            generalize tm.getD 26 undef = x26 at hF8
            generalize tm.getD 27 undef = x27 at hF8
            generalize tm.getD 28 undef = x28 at hF8
            generalize tm.getD 29 undef = x29 at hF8
            generalize tm.getD 30 undef = x30 at hF8
            generalize tm.getD 31 undef = x31 at hF8
            generalize tm.getD 32 undef = x32 at hF8
            generalize tm.getD 33 undef = x33 at hF8
            generalize tm.getD 34 undef = x34 at hF8
            generalize tm.getD 35 undef = x35 at hF8
            generalize tm.getD 36 undef = x36 at hF8
            generalize tm.getD 37 undef = x37 at hF8
            simp only [List.setIfInBounds_toArray, List.set_cons_zero, List.set_cons_succ] at hF8
            subst hF8
            have HW2 : Hid (Below wO.heap.size wO wE) := HW.out.trans (hbE.mono HW.out.size)
            clear hbE HU HC HW HG1 c0 c1 HIV
            go_wp2_with fail
            go_roundw
            case rel => exact ⟨k + 1, nb9, hkl, by go_num, rfl, (by show (!nb9) = _; rw [HNB.out, Bool.not_not]; exact HE.out), HW2.out⟩
            case measure => simp [intOf]; omega
          · have HE : Hid (true = (ups (hq.take (k + 1))).any fun v => Wr.has v.ps ⟨ua, un⟩) := HSN.out _ rfl
            clear HSN HN
            go_upto_region 9 with fail
            go_quiet (fail)
            go_wp2_with fail
            go_roundw
            case rel => exact ⟨k + 1, false, hkl, by go_num, rfl, HE.out, HW.out.trans ((blw_drewN wr _).mono HW.out.size)⟩
            case measure => simp [intOf]; omega
        have g2 : decide (k < hq.length) = false := decide_eq_false hkl
        have HU2 : Hid (Dg.upto Wr.Up.ps (ups hq) (i + 1) = Dg.upto Wr.Up.ps (ups hq) i ++ if (!bv) then [] else [⟨⟨ua, un⟩, ps, says, ts⟩]) := by
          refine HUP.out (!bv) ?_
          rw [HNA.out, HN.out, List.take_of_length_le (by omega)]
        clear HUP HNA HN
        have RO := ownsRow_below ho HW.out
        cases bv
        rotate_left
        · have hul := HUL.out i
          obtain ⟨x0, x1, _⟩ := HXC.out wr HW.out
          have hsz := HG1.out.size
          have HRN : Hid (∃ v' y', (Builtin.append_ #[27, 27] 27 #[.slice av (Dg.upto Wr.Up.ps (ups hq) i).length cv, .slice (some ⟨wr.heap.size, 0, none⟩) 1 1]).run Tryz.prog (wr.alloc (.cells #[.int .i64 ua, .int .i64 un] 26)) = .ok v' y' ∧ y'.ownsRow w1.heap.size 26 2 v' (Dg.upto Wr.Up.ps (ups hq) (i + 1)).length (((Dg.upto Wr.Up.ps (ups hq) (i + 1)).map Wr.Up.id).map idCells).flatten ∧ Below w1.heap.size w1 y') := by
            have h1 := RO.alloc (.cells #[.int .i64 ua, .int .i64 un] 26)
            have hn := rl_new wr (.cells #[.int .i64 ua, .int .i64 un] 26)
            have hlm : ((Dg.upto Wr.Up.ps (ups hq) i).map Wr.Up.id).length = (Dg.upto Wr.Up.ps (ups hq) i).length := List.length_map _
            obtain ⟨v', y', r1, r2, r3⟩ := appIds_run (wr.alloc (.cells #[.int .i64 ua, .int .i64 un] 26)) w1.heap.size (by rw [World.size_alloc]; omega) (.slice av (Dg.upto Wr.Up.ps (ups hq) i).length cv) ((Dg.upto Wr.Up.ps (ups hq) i).map Wr.Up.id) (by rw [hlm]; exact h1) (some ⟨wr.heap.size, 0, none⟩) 1 [⟨ua, un⟩] (.inr ⟨_, _, rfl, fun j hj => by
              have e : j = 0 := by simpa using hj
              subst e
              exact ⟨by rw [Lib.cell_of_heap hn]; rfl, by rw [Lib.cell_of_heap hn]; rfl⟩⟩) (fun h => by cases h) (by rw [hlm, List.length_singleton]; omega) 27
            refine ⟨v', y', r1, ?_, (HG1.out.alloc hsz _).grown r3 (HG1.out.alloc hsz _).size (fun j e => (RO.lt j e).1)⟩
            have h3 : Dg.upto Wr.Up.ps (ups hq) (i + 1) = Dg.upto Wr.Up.ps (ups hq) i ++ [⟨⟨ua, un⟩, ps, says, ts⟩] := HU2.out
            rw [h3, List.map_append, List.length_append]
            rw [List.length_append, hlm] at r2
            exact r2
          obtain ⟨v8, y8, r8, o8, b8⟩ := HRN.out
          have HO8 : Hid (y8.ownsRow w1.heap.size 26 2 v8 (Dg.upto Wr.Up.ps (ups hq) (i + 1)).length (((Dg.upto Wr.Up.ps (ups hq) (i + 1)).map Wr.Up.id).map idCells).flatten) := o8
          have HB8 : Hid (Below w1.heap.size w1 y8) := b8
          clear HRN o8 b8 RO ho HU2
          go_wp2_with (at_builtin; refine Lib.wpList_append_run _ rfl _ _ 27 27 rfl _ _ rfl rfl _ _ r8 ?_)
          go_roundw
          case rel => exact ⟨i + 1, hlt, by go_num, HO8.out, HB8.out⟩
          case measure => simp [intOf]; omega
        · have HO8 : Hid (wr.ownsRow w1.heap.size 26 2 (.slice av (Dg.upto Wr.Up.ps (ups hq) i).length cv) (Dg.upto Wr.Up.ps (ups hq) (i + 1)).length (((Dg.upto Wr.Up.ps (ups hq) (i + 1)).map Wr.Up.id).map idCells).flatten) := by
            have h3 : Dg.upto Wr.Up.ps (ups hq) (i + 1) = Dg.upto Wr.Up.ps (ups hq) i ++ [] := HU2.out
            rw [List.append_nil] at h3
            rw [h3]
            exact RO
          clear RO ho HU2
          go_wp2_with fail
          go_roundw
          case rel => exact ⟨i + 1, hlt, by go_num, HO8.out, HG1.out⟩
          case measure => simp [intOf]; omega
    · have g1 : decide (i < hq.length) = false := decide_eq_false hlt
      obtain rfl : i = hq.length := by omega
      have hue : Dg.upto Wr.Up.ps (ups hq) hq.length = Dg.free Wr.Up.ps (ups hq) := Dg.upto_all _ hq
      have HE : Hid (IdsV wO (.slice av (Dg.upto Wr.Up.ps (ups hq) hq.length).length cv) (Dg.heads (ups hq))) := by
        have h1 : wO.ownsRow w1.heap.size 26 2 (.slice av (Dg.upto Wr.Up.ps (ups hq) hq.length).length cv) (Dg.heads (ups hq)).length ((Dg.heads (ups hq)).map idCells).flatten := by
          have h2 : (Dg.heads (ups hq)).length = (Dg.upto Wr.Up.ps (ups hq) hq.length).length := by unfold Dg.heads; rw [List.length_map, hue]
          rw [h2]
          unfold Dg.heads
          rw [← hue]
          exact ho
        exact own_ids h1
      have HB9 : Hid (Below w.heap.size w wO) := HT.out _ HG.out
      clear ho hue
      go_wp2_with fail
      go_ret
      exact ⟨_, rfl, HE.out, HB9.out⟩
end Go.Proofs.YtmfaodapofamfaaGreat

/- The document's FactsOf. -/
namespace Go.Proofs.YtmfaodapofamfaaGreat
open Go.RowKit

end Go.Proofs.YtmfaodapofamfaaGreat

/- The law DagTells: Check, Add, Heads and Facts answer just what the document says. -/
namespace Go.Proofs.YtmfaodapofamfaaGreat
open Go.RowKit

def IdS (l : List Wr.Id) (w : World) (v : Value) : Prop := ∃ a n c, v = .slice a n c ∧ IdsV w (.slice a n c) l
theorem ids_of {l : List Wr.Id} {w : World} {v : Value} (h : IdsV w v l) : IdS l w v := by
  obtain ⟨a, c, rfl, _⟩ := id h
  exact ⟨a, _, c, rfl, h⟩
theorem heads_le (hq : List Uv) : (Dg.heads (ups hq)).length ≤ hq.length := by
  unfold Dg.heads Dg.free
  rw [List.length_map]
  have := List.length_filter_le (fun u => !Dg.named Wr.Up.ps (ups hq) u) (ups hq)
  rw [ups_length] at this
  exact this
end Go.Proofs.YtmfaodapofamfaaGreat

/- A replica in memory that is what some updates come to. -/
namespace Go.Proofs.YtmfaodapofamfaaGreat
open Go.RowKit

/-- What may be added to: each id once, all right. -/
structure Fair (all : List Wr.Up) : Prop where
  nd : (all.map Wr.Up.id).Nodup
  ok : ∀ u, u ∈ all → Wr.check u = 0
  len : all.length ≤ 200
def RepI (all : List Wr.Up) (w : World) (v1 v2 : Value) : Prop := ∃ hq wq, UpsV w v1 hq ∧ UpsV w v2 wq ∧ (∀ y, y ∈ hq ++ wq → UvOk w y) ∧ Dg.Is all (ups hq) (ups wq)
theorem RepI.kn {all : List Wr.Up} {w w' : World} {v1 v2 : Value} (h : RepI all w v1 v2) (k : Kn w w') : RepI all w' v1 v2 := by
  obtain ⟨hq, wq, h1, h2, h3, h4⟩ := h
  exact ⟨hq, wq, h1.kn k, h2.kn k, fun y hy => (h3 y hy).kn k, h4⟩
def AdN (all : List Wr.Up) (w : World) (v : Value) : Prop := ∃ a1 n1 c1 a2 n2 c2, v = .tuple #[.agg #[.slice a1 n1 c1, .slice a2 n2 c2], .int .i64 0] ∧ RepI all w (.slice a1 n1 c1) (.slice a2 n2 c2)
def BoxI (all : List Wr.Up) (w : World) (F : Nat) : Prop := ∃ a1 n1 c1 a2 n2 c2, w.heap[F]? = some (.cells #[.slice a1 n1 c1, .slice a2 n2 c2] 24) ∧ RepI all w (.slice a1 n1 c1) (.slice a2 n2 c2)
theorem BoxI.lt {all : List Wr.Up} {w : World} {F : Nat} (h : BoxI all w F) : F < w.heap.size := by
  obtain ⟨a1, n1, c1, a2, n2, c2, h, _⟩ := h
  exact (Array.getElem?_eq_some_iff.1 h).1
theorem BoxI.rb {all : List Wr.Up} {w w' : World} {F B : Nat} (h : BoxI all w F) (k : Rb B w w') (hF : F < B) : BoxI all w' F := by
  obtain ⟨a1, n1, c1, a2, n2, c2, h, r⟩ := h
  exact ⟨a1, n1, c1, a2, n2, c2, (k.1.block F hF).trans h, r.kn k.2.1⟩
theorem BoxI.below {all : List Wr.Up} {w w' : World} {F : Nat} (h : BoxI all w F) (k : Below w.heap.size w w') : BoxI all w' F := h.rb (Rb.of k (Nat.le_refl _)) h.lt
theorem RepI.ok {all : List Wr.Up} {w : World} {v1 v2 : Value} (hf : Fair all) (h : RepI all w v1 v2) : ∃ hq wq, UpsV w v1 hq ∧ UpsV w v2 wq ∧ (∀ y, y ∈ hq ++ wq → UvOk w y) ∧ Dg.Is all (ups hq) (ups wq) ∧ Dg.Ok (ups hq) (ups wq) ∧ hq.length + wq.length = all.length := by
  obtain ⟨hq, wq, h1, h2, h3, h4⟩ := h
  have hl := h4.len hf.nd (h4.nd (Dg.apart_of_nodup hf.nd))
  rw [ups_length, ups_length] at hl
  exact ⟨hq, wq, h1, h2, h3, h4, h4.okN hf.nd hf.ok hf.len, hl⟩
theorem add_more {all : List Wr.Up} (hf : Fair all) (hl : all.length < 200) (v1 v2 : Value) (x : Uv) (w : World) (h : RepI all w v1 v2) (hx : UvOk w x) (hc : Wr.check x.u = 0) :
    Calls Tryz.prog 6 #[.agg #[v1, v2], uvVal x] w fun e w' => ∃ v, e = .returned v ∧ AdN (Dg.more all x.u) w' v ∧ Below w.heap.size w w' := by
  obtain ⟨hq, wq, h1, h2, h3, h4, o, hn⟩ := h.ok hf
  refine (Add_any hq wq v1 v2 x w h1 h2 (by omega) h3 hx).mono ?_
  rintro e w' ⟨u1, u2, R1, R2, rfl, k1, k2, k3, k4, _, k6⟩
  have hz : Dg.addErr (ups hq) (ups wq) x.u = 0 := by
    unfold Dg.addErr
    have hc0 : Dg.check (ups hq) (ups wq) = 0 := Dg.check_ok.mpr o
    have hm := Dg.more_len (ups hq ++ ups wq) x.u
    rw [List.length_append, ups_length, ups_length] at hm
    rw [if_neg (fun h => h hc0), if_neg (fun h => h hc), if_neg (by omega)]
  have h7 := h4.on (k4 hz)
  rw [hz]
  obtain ⟨a1, c1, rfl, hj1⟩ := id k1
  obtain ⟨a2, c2, rfl, hj2⟩ := id k2
  exact ⟨_, rfl, ⟨a1, _, c1, a2, _, c2, rfl, R1, R2, k1, k2, k3, h7⟩, k6⟩
/-- .. one that is there already: also where there is no more room. -/
theorem add_same {all : List Wr.Up} (hf : Fair all) (v1 v2 : Value) (x : Uv) (w : World) (h : RepI all w v1 v2) (hx : UvOk w x) (hc : Wr.check x.u = 0) (hh : Dg.hasU all x.u.id = true) :
    Calls Tryz.prog 6 #[.agg #[v1, v2], uvVal x] w fun e w' => ∃ v, e = .returned v ∧ AdN all w' v ∧ Below w.heap.size w w' := by
  obtain ⟨hq, wq, h1, h2, h3, h4, o, hn⟩ := h.ok hf
  refine (Add_any hq wq v1 v2 x w h1 h2 (by have := hf.len; omega) h3 hx).mono ?_
  rintro e w' ⟨u1, u2, R1, R2, rfl, k1, k2, k3, k4, _, k6⟩
  have hm : Dg.more (ups hq ++ ups wq) x.u = ups hq ++ ups wq := by
    unfold Dg.more
    rw [Dg.hasU_congr (m := all) (fun v => by rw [List.mem_append]; exact h4.parts.mem v), hh]
    rfl
  have hz : Dg.addErr (ups hq) (ups wq) x.u = 0 := by
    unfold Dg.addErr
    have hc0 : Dg.check (ups hq) (ups wq) = 0 := Dg.check_ok.mpr o
    have hl := hf.len
    rw [if_neg (fun h => h hc0), if_neg (fun h => h hc), hm, List.length_append, ups_length, ups_length, if_neg (by omega)]
  have h7 := k4 hz
  rw [hm] at h7
  have h8 := h7.congr (all' := all) (fun v => by rw [List.mem_append]; exact h4.parts.mem v)
  rw [hz]
  obtain ⟨a1, c1, rfl, hj1⟩ := id k1
  obtain ⟨a2, c2, rfl, hj2⟩ := id k2
  exact ⟨_, rfl, ⟨a1, _, c1, a2, _, c2, rfl, R1, R2, k1, k2, k3, h8⟩, k6⟩
theorem same_rep {all : List Wr.Up} (hf : Fair all) (v1 v2 u1 u2 : Value) (w : World) (h : RepI all w v1 v2) (k : RepI all w u1 u2) :
    Calls Tryz.prog 20 #[.agg #[v1, v2], .agg #[u1, u2]] w fun e w' => e = .returned (.bool true) ∧ Below w.heap.size w w' := by
  obtain ⟨hq, wq, h1, h2, h3, h4, _, hn⟩ := h.ok hf
  obtain ⟨hr, wr, k1, k2, k3, k4, _, kn⟩ := k.ok hf
  obtain ⟨e1, e2⟩ := h4.one k4
  have hl := hf.len
  exact SameReplica_same hq wq hr wr v1 v2 u1 u2 w h1 h2 k1 k2 e1 e2 (by omega) h3 k3
end Go.Proofs.YtmfaodapofamfaaGreat

/- The law DagAny: in whatever order updates with different ids are added, the replica is the same. -/
namespace Go.Proofs.YtmfaodapofamfaaGreat
open Go.RowKit

theorem box_store {z : World} {X F : Nat} {u v x y : Value} {a1 a2 : Option Addr} {n1 c1 n2 c2 : Nat} (hF : z.heap[F]? = some (.cells #[.slice a1 n1 c1, .slice a2 n2 c2] 24)) (hX : X ≠ F) (h0 : z.cell? ⟨X, 0, none⟩ = some x) (h1 : z.cell? ⟨X, 1, none⟩ = some y) :
    z.cell? ⟨F, 0, none⟩ = some (.slice a1 n1 c1) ∧ z.frozen? ⟨F, 0, none⟩ = false ∧ (z.setCell ⟨F, 0, none⟩ u).cell? ⟨F, 1, none⟩ = some (.slice a2 n2 c2) ∧ (z.setCell ⟨F, 0, none⟩ u).frozen? ⟨F, 1, none⟩ = false ∧
    ((z.setCell ⟨F, 0, none⟩ u).setCell ⟨F, 1, none⟩ v).cell? ⟨X, 0, none⟩ = some x ∧ ((z.setCell ⟨F, 0, none⟩ u).setCell ⟨F, 1, none⟩ v).cell? ⟨X, 1, none⟩ = some y := by
  have k1 : (z.setCell ⟨F, 0, none⟩ u).heap[F]? = some (.cells #[u, .slice a2 n2 c2] 24) := by rw [Lib.heap_setCell_same hF]; rfl
  have ho : ((z.setCell ⟨F, 0, none⟩ u).setCell ⟨F, 1, none⟩ v).heap[X]? = z.heap[X]? := two_other hX
  exact ⟨by rw [Lib.cell_of_heap hF]; rfl, Lib.frozen_of_heap hF 0, by rw [Lib.cell_of_heap k1]; rfl, Lib.frozen_of_heap k1 1, by rw [cell_heap ho]; exact h0, by rw [cell_heap ho]; exact h1⟩
end Go.Proofs.YtmfaodapofamfaaGreat

/- What others have, plain: which updates are heads or behind one; nothing of the program stands here. -/
namespace Go.Proofs.YtmfaodapofamfaaGreat
namespace Gs
open Wr (Up)

inductive Kw (h : List Up) (ids : List Wr.Id) : Wr.Id → Prop
  | head {x : Wr.Id} : x ∈ ids → Dg.hasU h x = true → Kw h ids x
  | under {u : Up} {x : Wr.Id} : u ∈ h → Kw h ids u.id → x ∈ Dg.under u → Dg.hasU h x = true → Kw h ids x
theorem Kw.of {h : List Up} {ids m : List Wr.Id} (hm : ∀ y, y ∈ ids → Dg.hasU h y = true → Kw h m y) {x : Wr.Id} (k : Kw h ids x) : Kw h m x := by
  induction k with
  | head h1 h2 => exact hm _ h1 h2
  | under h1 _ h3 h4 ih => exact .under h1 ih h3 h4
theorem Kw.mono {h : List Up} {ids m : List Wr.Id} (hm : ∀ y, y ∈ ids → y ∈ m) {x : Wr.Id} (k : Kw h ids x) : Kw h m x := k.of fun y hy hh => .head (hm y hy) hh
open Classical in
noncomputable def knows (h : List Up) (ids : List Wr.Id) (u : Up) : Bool := decide (Kw h ids u.id)
noncomputable def known (h : List Up) (ids : List Wr.Id) : List Bool := h.map (knows h ids)
noncomputable def missing (h : List Up) (ids : List Wr.Id) : List Up := h.filter fun u => !knows h ids u
open Classical in
theorem knows_iff {h : List Up} {ids : List Wr.Id} {u : Up} : knows h ids u = true ↔ Kw h ids u.id := by
  unfold knows
  exact decide_eq_true_iff
def at_ (f : List Bool) (i : Nat) : Bool := f.getD i false
theorem at_set {f : List Bool} {i j : Nat} : at_ (f.set i true) j = true ↔ at_ f j = true ∨ (j = i ∧ i < f.length) := by
  unfold at_
  rw [List.getD_eq_getElem?_getD, List.getD_eq_getElem?_getD, List.getElem?_set]
  by_cases e : i = j
  · subst e
    by_cases hl : i < f.length
    · simp [hl]
    · simp [hl]
  · rw [if_neg e]
    constructor
    · exact .inl
    · rintro (h | ⟨h, _⟩)
      · exact h
      · exact absurd h.symm e
theorem set_len (f : List Bool) (i : Nat) : (f.set i true).length = f.length := List.length_set
theorem ups_uvD {q : List Uv} {u : Up} (h : u ∈ ups q) : ∃ i, i < q.length ∧ (uvD q i).u = u := by
  obtain ⟨y, hy, rfl⟩ := List.mem_map.mp h
  obtain ⟨i, hi, rfl⟩ := List.getElem_of_mem hy
  refine ⟨i, hi, ?_⟩
  unfold uvD
  rw [List.getD_eq_getElem?_getD, List.getElem?_eq_getElem hi]
  rfl
theorem mem_uvD {q : List Uv} {i : Nat} (h : i < q.length) : (uvD q i).u ∈ ups q := List.mem_map_of_mem (uvD_mem q i h)
theorem has_uvD {q : List Uv} {i : Nat} (h : i < q.length) : Dg.hasU (ups q) (uvD q i).u.id = true := Dg.hasU_iff.mpr ⟨_, mem_uvD h, rfl⟩
/-- What one who marks leaves. -/
structure MarkP (q : List Uv) (ids : List Wr.Id) (f g : List Bool) : Prop where
  len : g.length = f.length
  mono : ∀ i, at_ f i = true → at_ g i = true
  sound : ∀ i, i < q.length → at_ g i = true → at_ f i = true ∨ Kw (ups q) ids (uvD q i).u.id
  heads : ∀ i, i < q.length → (uvD q i).u.id ∈ ids → at_ g i = true
  shut : ∀ i, i < q.length → at_ g i = true → at_ f i = true ∨ ∀ j, j < q.length → (uvD q j).u.id ∈ Dg.under (uvD q i).u → at_ g j = true
theorem MarkP.refl (q : List Uv) (f : List Bool) : MarkP q [] f f := ⟨rfl, (fun _ h => h), (fun _ _ h => .inl h), (fun _ _ h => by cases h), (fun _ _ h => .inl h)⟩
theorem MarkP.skip {q : List Uv} {ids : List Wr.Id} {x : Wr.Id} {f g : List Bool} (h : MarkP q ids f g) (hx : ∀ i, i < q.length → (uvD q i).u.id = x → at_ g i = true) : MarkP q (ids ++ [x]) f g := by
  refine ⟨h.len, h.mono, fun i hi hg => ?_, fun i hi hm => ?_, h.shut⟩
  · rcases h.sound i hi hg with h1 | h1
    · exact .inl h1
    · exact .inr (h1.mono fun y hy => List.mem_append_left _ hy)
  · rcases List.mem_append.mp hm with h1 | h1
    · exact h.heads i hi h1
    · exact hx i hi (List.mem_singleton.mp h1)
theorem MarkP.visit {q : List Uv} {ids : List Wr.Id} {a : Nat} {f g g2 g3 : List Bool} (h : MarkP q ids f g) (ha : a < q.length) (hl : g.length = q.length)
    (hq : ∀ i, i < q.length → (uvD q i).u.id = (uvD q a).u.id → i = a) (h2 : MarkP q (uvD q a).u.ps (g.set a true) g2) (h3 : MarkP q (uvD q a).u.ts g2 g3) : MarkP q (ids ++ [(uvD q a).u.id]) f g3 := by
  have hk : Kw (ups q) (ids ++ [(uvD q a).u.id]) (uvD q a).u.id := .head (List.mem_append_right _ (List.mem_singleton.mpr rfl)) (has_uvD ha)
  have hkn : ∀ {l : List Wr.Id}, (∀ y, y ∈ l → y ∈ Dg.under (uvD q a).u) → ∀ {x}, Kw (ups q) l x → Kw (ups q) (ids ++ [(uvD q a).u.id]) x := fun hl x k => k.of fun y hy hh => .under (mem_uvD ha) hk (hl y hy) hh
  have hp : ∀ y, y ∈ (uvD q a).u.ps → y ∈ Dg.under (uvD q a).u := fun y hy => List.mem_append_left _ hy
  have ht : ∀ y, y ∈ (uvD q a).u.ts → y ∈ Dg.under (uvD q a).u := fun y hy => List.mem_append_right _ hy
  have hup : ∀ i, at_ g i = true → at_ g3 i = true := fun i hi => h3.mono i (h2.mono i (at_set.mpr (.inl hi)))
  have haa : at_ g3 a = true := h3.mono a (h2.mono a (at_set.mpr (.inr ⟨rfl, by omega⟩)))
  refine ⟨h3.len.trans (h2.len.trans ((set_len _ _).trans h.len)), fun i hi => hup i (h.mono i hi), fun i hi hg => ?_, fun i hi hm => ?_, fun i hi hg => ?_⟩
  · rcases h3.sound i hi hg with h4 | h4
    · rcases h2.sound i hi h4 with h5 | h5
      · rcases at_set.mp h5 with h6 | ⟨rfl, _⟩
        · rcases h.sound i hi h6 with h7 | h7
          · exact .inl h7
          · exact .inr (h7.mono fun y hy => List.mem_append_left _ hy)
        · exact .inr hk
      · exact .inr (hkn hp h5)
    · exact .inr (hkn ht h4)
  · rcases List.mem_append.mp hm with h1 | h1
    · exact hup i (h.heads i hi h1)
    · rw [hq i hi (List.mem_singleton.mp h1)]
      exact haa
  · rcases h3.shut i hi hg with h4 | h4
    · rcases h2.shut i hi h4 with h5 | h5
      · rcases at_set.mp h5 with h6 | ⟨rfl, _⟩
        · rcases h.shut i hi h6 with h7 | h7
          · exact .inl h7
          · exact .inr fun j hj hm => hup j (h7 j hj hm)
        · refine .inr fun j hj hm => ?_
          rcases List.mem_append.mp hm with h1 | h1
          · exact h3.mono j (h2.heads j hj h1)
          · exact h3.heads j hj h1
      · exact .inr fun j hj hm => h3.mono j (h5 j hj hm)
    · exact .inr h4
/-- Whoever marks the heads, marks but what is known, and marks what is under what he marked, has marked what is known. -/
theorem known_of {q : List Uv} {ids : List Wr.Id} {g : List Bool} (hl : g.length = q.length) (h1 : ∀ i, i < q.length → at_ g i = true → Kw (ups q) ids (uvD q i).u.id)
    (h2 : ∀ i, i < q.length → (uvD q i).u.id ∈ ids → at_ g i = true) (h3 : ∀ i, i < q.length → at_ g i = true → ∀ j, j < q.length → (uvD q j).u.id ∈ Dg.under (uvD q i).u → at_ g j = true) : g = known (ups q) ids := by
  have key : ∀ x, Kw (ups q) ids x → ∀ i, i < q.length → (uvD q i).u.id = x → at_ g i = true := by
    intro x k
    induction k with
    | head k1 _ => intro i hi e; exact h2 i hi (by rw [e]; exact k1)
    | under k1 _ k3 _ ih =>
      intro i hi e
      obtain ⟨j, hj, ej⟩ := ups_uvD k1
      exact h3 j hj (ih j hj (by rw [ej])) i hi (by rw [e, ej]; exact k3)
  have hll : (known (ups q) ids).length = q.length := by unfold known; rw [List.length_map, ups_length]
  refine List.ext_getElem? fun i => ?_
  by_cases hi : i < q.length
  · have e1 : g[i]? = some (at_ g i) := by
      unfold at_
      rw [List.getD_eq_getElem?_getD, List.getElem?_eq_getElem (by omega)]
      rfl
    have eu : uvD q i = q[i] := by
      unfold uvD
      rw [List.getD_eq_getElem?_getD, List.getElem?_eq_getElem hi]
      rfl
    have e2 : (known (ups q) ids)[i]? = some (knows (ups q) ids (uvD q i).u) := by
      rw [eu]
      simp [known, ups, List.getElem?_eq_getElem hi]
    rw [e1, e2]
    refine congrArg some ?_
    rw [Bool.eq_iff_iff, knows_iff]
    exact ⟨h1 i hi, fun k => key _ k i hi rfl⟩
  · rw [List.getElem?_eq_none (by omega), List.getElem?_eq_none (by omega)]
theorem MarkP.known {q : List Uv} {ids : List Wr.Id} {g : List Bool} (h : MarkP q ids (List.replicate q.length false) g) : g = known (ups q) ids := by
  have hno : ∀ i, ¬ at_ (List.replicate q.length false) i = true := fun i hi => by
    unfold at_ at hi
    rw [List.getD_eq_getElem?_getD, List.getElem?_replicate] at hi
    split at hi <;> cases hi
  refine known_of (by rw [h.len, List.length_replicate]) (fun i hi hg => ?_) h.heads (fun i hi hg => ?_)
  · exact (h.sound i hi hg).resolve_left (hno i)
  · exact (h.shut i hi hg).resolve_left (hno i)
/-- How many are not yet marked. -/
def left (f : List Bool) : Nat := f.countP (fun b => !b)
theorem left_set : ∀ {f : List Bool} {i : Nat}, i < f.length → at_ f i = false → left (f.set i true) + 1 = left f
  | [], _, h, _ => absurd h (Nat.not_lt_zero _)
  | b :: f, 0, _, h => by
    have hb : b = false := h
    subst hb
    simp [left]
  | b :: f, i + 1, hl, h => by
    have := left_set (f := f) (i := i) (by simpa using hl) (by simpa [at_] using h)
    cases b <;> (simp [left] at this ⊢; omega)
theorem left_mono : ∀ {f g : List Bool}, g.length = f.length → (∀ i, at_ f i = true → at_ g i = true) → left g ≤ left f
  | [], [], _, _ => Nat.le_refl _
  | [], _ :: _, h, _ => by cases h
  | _ :: _, [], h, _ => by cases h
  | b :: f, c :: g, hl, h => by
    have h1 := left_mono (f := f) (g := g) (by simpa using hl) (fun i hi => by simpa [at_] using h (i + 1) (by simpa [at_] using hi))
    have h0 : b = true → c = true := fun hb => by simpa [at_] using h 0 (by simpa [at_] using hb)
    cases b <;> cases c <;> simp [left] at h0 h1 ⊢ <;> omega
/-- The place that a search finds. -/
def BsR (q : List Uv) (x : Wr.Id) (r : Nat) (b : Bool) : Prop := (b = true ∧ r < q.length ∧ (uvD q r).u.id = x) ∨ (b = false ∧ Dg.hasU (ups q) x = false)
theorem rise_at {q : List Uv} (h : Wr.rise Dg.uOrd (ups q) = true) : ∀ i j, i < j → j < q.length → Dg.uOrd (uvD q i).u (uvD q j).u < 0 := by
  induction q with
  | nil => intro i j _ hj; exact absurd hj (Nat.not_lt_zero _)
  | cons a q ih =>
    have h' := Dg.rise_cons.mp (show Wr.rise Dg.uOrd (a.u :: ups q) = true from h)
    intro i j hij hj
    match i, j, hij with
    | 0, j + 1, _ => exact h'.1 _ (mem_uvD (by simpa using hj))
    | i + 1, j + 1, hij => exact ih h'.2 i j (by omega) (by simpa using hj)
theorem ord_trans {x y z : Wr.Id} (h : Wr.idOrd x y < 0) (k : Wr.idOrd y z < 0) : Wr.idOrd x z < 0 := by
  rw [Dg.idOrd_neg] at *
  omega
theorem rise_id {q : List Uv} (h : Wr.rise Dg.uOrd (ups q) = true) {i j : Nat} (hi : i < q.length) (hj : j < q.length) (e : (uvD q i).u.id = (uvD q j).u.id) : i = j := by
  rcases Nat.lt_trichotomy i j with h1 | h1 | h1
  · exact absurd e (Dg.uOrd_ne (rise_at h i j h1 hj))
  · exact h1
  · exact absurd e.symm (Dg.uOrd_ne (rise_at h j i h1 hi))
structure BsI (q : List Uv) (x : Wr.Id) (i j : Nat) : Prop where
  le : i ≤ j
  lt : j ≤ q.length
  low : ∀ t, t < i → Wr.idOrd (uvD q t).u.id x < 0
  high : ∀ t, j ≤ t → t < q.length → ¬ Wr.idOrd (uvD q t).u.id x < 0
theorem BsI.start (q : List Uv) (x : Wr.Id) : BsI q x 0 q.length := ⟨Nat.zero_le _, Nat.le_refl _, (fun t h => absurd h (Nat.not_lt_zero _)), (fun t h1 h2 => absurd h2 (by omega))⟩
theorem BsI.up {q : List Uv} {x : Wr.Id} {i j m : Nat} (h : BsI q x i j) (hr : Wr.rise Dg.uOrd (ups q) = true) (h1 : i ≤ m) (h2 : m < j) (hc : Wr.idOrd (uvD q m).u.id x < 0) : BsI q x (m + 1) j := by
  refine ⟨h2, h.lt, fun t ht => ?_, h.high⟩
  have hl := h.lt
  by_cases e : t = m
  · subst e; exact hc
  · exact ord_trans (rise_at hr t m (by omega) (by omega)) hc
theorem BsI.down {q : List Uv} {x : Wr.Id} {i j m : Nat} (h : BsI q x i j) (hr : Wr.rise Dg.uOrd (ups q) = true) (h1 : i ≤ m) (h2 : m < j) (hc : ¬ Wr.idOrd (uvD q m).u.id x < 0) : BsI q x i m := by
  have hl := h.lt
  refine ⟨h1, by omega, h.low, fun t ht h3 hn => ?_⟩
  by_cases e : t = m
  · subst e; exact hc hn
  · exact hc (ord_trans (rise_at hr m t (by omega) h3) hn)
theorem BsI.fin {q : List Uv} {x : Wr.Id} {i : Nat} (h : BsI q x i i) (hr : Wr.rise Dg.uOrd (ups q) = true) : BsR q x i (decide (i < q.length) && decide (Wr.idOrd (uvD q i).u.id x = 0)) := by
  by_cases h1 : i < q.length
  · by_cases h2 : Wr.idOrd (uvD q i).u.id x = 0
    · exact .inl ⟨by simp [h1, h2], h1, Dg.idOrd_nul.mp h2⟩
    · refine .inr ⟨by simp [h2], ?_⟩
      cases hb : Dg.hasU (ups q) x with
      | false => rfl
      | true =>
        obtain ⟨u, hu, e⟩ := Dg.hasU_iff.mp hb
        obtain ⟨t, ht, et⟩ := ups_uvD hu
        rw [← et] at e
        have hz : Wr.idOrd (uvD q t).u.id x = 0 := Dg.idOrd_nul.mpr e
        rcases Nat.lt_trichotomy t i with h3 | h3 | h3
        · have := h.low t h3; omega
        · subst h3; exact absurd hz h2
        · have h4 := rise_at hr i t h3 ht
          have h5 : Wr.idOrd (uvD q i).u.id x < 0 := by rw [← e]; exact h4
          exact absurd h5 (h.high i (Nat.le_refl _) h1)
  · refine .inr ⟨by simp [h1], ?_⟩
    cases hb : Dg.hasU (ups q) x with
    | false => rfl
    | true =>
      obtain ⟨u, hu, e⟩ := Dg.hasU_iff.mp hb
      obtain ⟨t, ht, et⟩ := ups_uvD hu
      rw [← et] at e
      have hz : Wr.idOrd (uvD q t).u.id x = 0 := Dg.idOrd_nul.mpr e
      have := h.low t (by omega)
      omega
end Gs
end Go.Proofs.YtmfaodapofamfaaGreat

/- The search for an id. -/
namespace Go.Proofs.YtmfaodapofamfaaGreat
open Go.RowKit

set_option maxRecDepth 100000 in
set_option maxHeartbeats 1000000 in
theorem cmpId_any (x : Uv) (y : Wr.Id) (w : World) (hx : UvOk w x) : Calls Tryz.prog 93 #[uvVal x, idVal y] w fun e w' => e = .returned (.int .i64 (Wr.idOrd x.u.id y)) ∧ Below w.heap.size w w' := by
  obtain ⟨b1, m1, f1, b2, m2, f2, b3, m3, f3, e1, e2, e3⟩ := hx.forms
  obtain ⟨⟨⟨va, vn⟩, ps, says, ts⟩, vp, vs, vt⟩ := x
  obtain ⟨ya, yn⟩ := y
  dsimp only at e1 e2 e3 ⊢
  subst e1 e2 e3
  have HO : Hid (∀ z, Calls Tryz.prog 66 #[idVal ⟨va, vn⟩, idVal ⟨ya, yn⟩] z fun e w' => e = .returned (.int .i64 (Wr.idOrd ⟨va, vn⟩ ⟨ya, yn⟩)) ∧ Gr z w') := fun z => uOrder_any ⟨va, vn⟩ ⟨ya, yn⟩ z
  have hg : Gr w ((w.alloc (.cells #[.int .i64 va, .int .i64 vn, .slice b1 m1 f1, .slice b2 m2 f2, .slice b3 m3 f3] 30)).alloc (.cells #[.int .i64 ya, .int .i64 yn] 26)) := ((Gr.refl w).alloc _).alloc _
  clear hx
  go_enter Tryz.func93, Tryz.ntmps93
  go_wp2_with fail
  refine Calls.mono (HO.out _) ?_
  rintro _ w3 ⟨rfl, hg3⟩
  have hh := (hg.trans hg3).below
  clear hg hg3 HO
  go_wp2_with fail
  go_ret
  exact ⟨rfl, hh⟩
def bsT5 (b f n c m o : Nat) (va vn : Int) (b1 : Option Addr) (m1 f1 : Nat) (b2 : Option Addr) (m2 f2 : Nat) (b3 : Option Addr) (m3 f3 : Nat) (xa xn r : Int) (hb : Bool) (tQ : Nat) (vQ : Value) (_ : World) : Prop :=
  match tQ with
  | 24 => vQ = .func (.func 93) #[] #[]
  | 25 => vQ = .slice (some ⟨b, f, none⟩) n c
  | 26 => vQ = .int .i64 m
  | 27 => vQ = .pointer (some ⟨b, o, none⟩)
  | 28 => vQ = .agg #[.int .i64 va, .int .i64 vn, .slice b1 m1 f1, .slice b2 m2 f2, .slice b3 m3 f3]
  | 29 => vQ = .agg #[.int .i64 xa, .int .i64 xn]
  | 30 => vQ = .int .i64 r
  | 31 => vQ = .bool hb
  | _ => True
theorem bsT5_mono (b f n c m o : Nat) (va vn : Int) (b1 : Option Addr) (m1 f1 : Nat) (b2 : Option Addr) (m2 f2 : Nat) (b3 : Option Addr) (m3 f3 : Nat) (xa xn r : Int) (hb : Bool) (tQ : Nat) (vQ : Value) (W W' : World) (_ : Below W.heap.size W W') (h : bsT5 b f n c m o va vn b1 m1 f1 b2 m2 f2 b3 m3 f3 xa xn r hb tQ vQ W) : bsT5 b f n c m o va vn b1 m1 f1 b2 m2 f2 b3 m3 f3 xa xn r hb tQ vQ W' := by
  revert h
  unfold bsT5
  split <;> (intro h; first | exact h)
def bsT8 (b f n c m o : Nat) (va vn : Int) (b1 : Option Addr) (m1 f1 : Nat) (b2 : Option Addr) (m2 f2 : Nat) (b3 : Option Addr) (m3 f3 : Nat) (xa xn r : Int) (hb : Bool) (tQ : Nat) (vQ : Value) (_ : World) : Prop :=
  match tQ with
  | 35 => vQ = .int .i64 m
  | 36 => vQ = .int .i64 m
  | 37 => vQ = .int .i64 n
  | 38 => vQ = .bool true
  | 39 => vQ = .bool true
  | 40 => vQ = .func (.func 93) #[] #[]
  | 41 => vQ = .slice (some ⟨b, f, none⟩) n c
  | 42 => vQ = .int .i64 m
  | 43 => vQ = .pointer (some ⟨b, o, none⟩)
  | 44 => vQ = .agg #[.int .i64 va, .int .i64 vn, .slice b1 m1 f1, .slice b2 m2 f2, .slice b3 m3 f3]
  | 45 => vQ = .agg #[.int .i64 xa, .int .i64 xn]
  | 46 => vQ = .int .i64 r
  | 47 => vQ = .bool hb
  | 48 => vQ = .bool hb
  | 6 => vQ = .int .i64 m
  | 7 => vQ = .bool hb
  | _ => True
theorem bsT8_same {b f n c m o : Nat} {va vn : Int} {b1 : Option Addr} {m1 f1 : Nat} {b2 : Option Addr} {m2 f2 : Nat} {b3 : Option Addr} {m3 f3 : Nat} {xa xn r : Int} {hb : Bool} {t : Nat} {v : Value} {W W2 : World} (h : bsT8 b f n c m o va vn b1 m1 f1 b2 m2 f2 b3 m3 f3 xa xn r hb t v W) : bsT8 b f n c m o va vn b1 m1 f1 b2 m2 f2 b3 m3 f3 xa xn r hb t v W2 := h

set_option maxRecDepth 100000 in
set_option maxHeartbeats 4000000 in
theorem search_any (q : List Uv) (x : Wr.Id) (v : Value) (w : World) (hV : UpsV w v q) (hl : q.length ≤ 1000) (hok : ∀ y, y ∈ q → UvOk w y) (hr : Wr.rise Dg.uOrd (ups q) = true) :
    Calls Tryz.prog 92 #[v, idVal x, .func (.func 93) #[] #[]] w fun e w' => ∃ (r : Nat) (b : Bool), e = .returned (.tuple #[.int .i64 r, .bool b]) ∧ Gs.BsR q x r b ∧ Below w.heap.size w w' := by
  obtain ⟨ao, cap, rfl, _, hA⟩ := hV
  obtain ⟨xa, xn⟩ := x
  have HA : Hid (UpsAt w ao q) := hA
  have HK : Hid (∀ y, y ∈ q → UvOk w y) := hok
  have HRS : Hid (Wr.rise Dg.uOrd (ups q) = true) := hr
  have HB : Hid _ := heap_alloc_new w (.cells #[.int .i64 xa, .int .i64 xn] 26)
  have HG : Hid _ := new_below w (.cells #[.int .i64 xa, .int .i64 xn] 26)
  clear hA hok hr
  go_enter Tryz.func92, Tryz.ntmps92
  go_upto_region 1 with fail
  generalize w.alloc (.cells #[.int .i64 xa, .int .i64 xn] 26) = w1 at *
  have HT1 : Hid (∀ z, Below w1.heap.size w1 z → z.cell? ⟨w.heap.size, 0, none⟩ = some (.int .i64 xa) ∧ z.cell? ⟨w.heap.size, 1, none⟩ = some (.int .i64 xn)) := fun z hz => ⟨cell_below hz (by rw [Lib.cell_of_heap HB.out]; rfl), cell_below hz (by rw [Lib.cell_of_heap HB.out]; rfl)⟩
  clear HB
  go_wp2_with fail
  go_loopw [9, 10] (fun iv jv wr => ∃ i j : Nat, iv = .int .i64 i ∧ jv = .int .i64 j ∧ Hid (Gs.BsI q ⟨xa, xn⟩ i j) ∧ Hid (Below w1.heap.size w1 wr)) (fun iv jv _ => (intOf jv).toNat - (intOf iv).toNat)
  case atStart => exact ⟨0, q.length, rfl, rfl, Gs.BsI.start _ _, Below.refl _ _⟩
  case round =>
    obtain ⟨i, j, rfl, rfl, HI, HW⟩ := hrel
    have hij := HI.out.le
    have hjl := HI.out.lt
    have HBW : Hid (Below w.heap.size w wr) := HG.out.trans (HW.out.mono HG.out.size)
    have HTC : Hid (∀ z, Below wr.heap.size wr z → z.cell? ⟨w.heap.size, 0, none⟩ = some (.int .i64 xa) ∧ z.cell? ⟨w.heap.size, 1, none⟩ = some (.int .i64 xn)) := fun z hz => HT1.out z (HW.out.trans (hz.mono HW.out.size))
    by_cases hlt : i < j
    · have g1 : decide (i < j) = true := decide_eq_true hlt
      have g1' : decide ((i : Int) < (j : Int)) = true := decide_eq_true (by omega)
      obtain ⟨m, hm⟩ : ∃ m : Nat, m = (i + j) / 2 := ⟨_, rfl⟩
      have EM : Hid (((i : Int) + (j : Int)) / 2 = (m : Int)) := by show _ = _; omega
      have hml : m < q.length := by omega
      have hm1 : i ≤ m := by omega
      have hm2 : m < j := by omega
      clear hm
      go_upto_region 5 with fail
      rw [EM.out]
      clear EM
      have HUP : Hid (Wr.idOrd (uvD q m).u.id ⟨xa, xn⟩ < 0 → Gs.BsI q ⟨xa, xn⟩ (m + 1) j) := fun h => HI.out.up HRS.out hm1 hm2 h
      have HDN : Hid (¬ Wr.idOrd (uvD q m).u.id ⟨xa, xn⟩ < 0 → Gs.BsI q ⟨xa, xn⟩ i m) := fun h => HI.out.down HRS.out hm1 hm2 h
      obtain ⟨b, off, eb, p0, p1, p2, p3, p4⟩ := ups_at (HA.out.kc (Kc.below HBW.out)) m hml
      have hxo := (HK.out _ (uvD_mem q m hml)).below HBW.out
      generalize uvD q m = x at *
      obtain ⟨b1, m1, f1, b2, m2, f2, b3, m3, f3, e1, e2, e3⟩ := hxo.forms
      have HX : Hid (UvOk wr x) := hxo
      clear hxo
      obtain ⟨⟨⟨va, vn⟩, ps, says, ts⟩, vp, vs, vt⟩ := x
      dsimp only at *
      subst e1 e2 e3
      have HXU : Hid (∀ z, Below wr.heap.size wr z → z.cell? ⟨b, off + m * 5, none⟩ = some (.int .i64 va) ∧ z.cell? ⟨b, off + m * 5 + 1, none⟩ = some (.int .i64 vn) ∧ z.cell? ⟨b, off + m * 5 + 2, none⟩ = some (.slice b1 m1 f1) ∧ z.cell? ⟨b, off + m * 5 + 3, none⟩ = some (.slice b2 m2 f2) ∧ z.cell? ⟨b, off + m * 5 + 4, none⟩ = some (.slice b3 m3 f3)) := fun z hz => ⟨cell_below hz p0, cell_below hz p1, cell_below hz p2, cell_below hz p3, cell_below hz p4⟩
      clear p0 p1 p2 p3 p4
      subst eb
      obtain ⟨r, hr9⟩ : ∃ r, r = Wr.idOrd ⟨va, vn⟩ ⟨xa, xn⟩ := ⟨_, rfl⟩
      have HOR : Hid (∀ z, Below wr.heap.size wr z → Calls Tryz.prog 93 #[uvVal ⟨⟨⟨va, vn⟩, ps, says, ts⟩, .slice b1 m1 f1, .slice b2 m2 f2, .slice b3 m3 f3⟩, idVal ⟨xa, xn⟩] z fun e w' => e = .returned (.int .i64 r) ∧ Below z.heap.size z w') := fun z hz => by
        rw [hr9]
        exact cmpId_any ⟨⟨⟨va, vn⟩, ps, says, ts⟩, .slice b1 m1 f1, .slice b2 m2 f2, .slice b3 m3 f3⟩ ⟨xa, xn⟩ z (HX.out.below hz)
      rw [← hr9] at HUP HDN
      clear hr9
      obtain ⟨hb, HHB⟩ : ∃ hb, Hid (hb = decide (r < 0)) := ⟨_, rfl⟩
      refine wp_region_tabA (bsT5 b off q.length cap m (off + m * 5) va vn b1 m1 f1 b2 m2 f2 b3 m3 f3 xa xn r hb) (by kernel_rfl) (by kernel_rfl) (bsT5_mono _ _ _ _ _ _ _ _ _ _ _ _ _ _ _ _ _ _ _ _ _) ?hop5 ?hend5
      case hop5 =>
          refine AllOps.cons (fun a y h => ?_) ?_
          · have e2 : a.eval (.tmp 2) = (.func (.func 93) #[] #[] : Value) := h.old 2 (by kernel_rfl)
            refine opOk_val (v := .func (.func 93) #[] #[]) (w' := y) (wanted_none rfl) ?_ (fun t ht => by cases ht; exact rfl) (Below.refl _ _)
            have ec : ∀ v, a.eval (.const v) = v := fun _ => rfl
            generalize a.eval = ev at *
            clear h
            go_simp
          refine AllOps.cons (fun a y h => ?_) ?_
          · have e0 : a.eval (.tmp 0) = (.slice (some ⟨b, off, none⟩) q.length cap : Value) := h.old 0 (by kernel_rfl)
            refine opOk_val (v := .slice (some ⟨b, off, none⟩) q.length cap) (w' := y) (wanted_none rfl) ?_ (fun t ht => by cases ht; exact rfl) (Below.refl _ _)
            have ec : ∀ v, a.eval (.const v) = v := fun _ => rfl
            generalize a.eval = ev at *
            clear h
            go_simp
          refine AllOps.cons (fun a y h => ?_) ?_
          · have e11 : a.eval (.tmp 11) = (.int .i64 m : Value) := h.old 11 (by kernel_rfl)
            refine opOk_val (v := .int .i64 m) (w' := y) (wanted_none rfl) ?_ (fun t ht => by cases ht; exact rfl) (Below.refl _ _)
            have ec : ∀ v, a.eval (.const v) = v := fun _ => rfl
            generalize a.eval = ev at *
            clear h
            go_simp
          refine AllOps.cons (fun a y h => ?_) ?_
          · have e25 : a.eval (.tmp 25) = (.slice (some ⟨b, off, none⟩) q.length cap : Value) := h.of 25 (by kernel_rfl)
            have e26 : a.eval (.tmp 26) = (.int .i64 m : Value) := h.of 26 (by kernel_rfl)
            refine opOk_val (v := .pointer (some ⟨b, (off + m * 5), none⟩)) (w' := y) (wanted_none rfl) ?_ (fun t ht => by cases ht; exact rfl) (Below.refl _ _)
            have ec : ∀ v, a.eval (.const v) = v := fun _ => rfl
            generalize a.eval = ev at *
            clear h
            go_simp
          refine AllOps.cons (fun a y h => ?_) ?_
          · have e27 : a.eval (.tmp 27) = (.pointer (some ⟨b, (off + m * 5), none⟩) : Value) := h.of 27 (by kernel_rfl)
            obtain ⟨y0, y1, y2, y3, y4⟩ := HXU.out y h.below
            refine opOk_val (v := .agg #[.int .i64 va, .int .i64 vn, .slice b1 m1 f1, .slice b2 m2 f2, .slice b3 m3 f3]) (w' := y) (wanted_none rfl) ?_ (fun t ht => by cases ht; exact rfl) (Below.refl _ _)
            have ec : ∀ v, a.eval (.const v) = v := fun _ => rfl
            generalize a.eval = ev at *
            clear h
            go_simp
          refine AllOps.cons (fun a y h => ?_) ?_
          · have e4 : a.eval (.tmp 4) = (.pointer (some ⟨w.heap.size, 0, none⟩) : Value) := h.old 4 (by kernel_rfl)
            obtain ⟨t0, t1⟩ := HTC.out y h.below
            refine opOk_val (v := .agg #[.int .i64 xa, .int .i64 xn]) (w' := y) (wanted_none rfl) ?_ (fun t ht => by cases ht; exact rfl) (Below.refl _ _)
            have ec : ∀ v, a.eval (.const v) = v := fun _ => rfl
            generalize a.eval = ev at *
            clear h
            go_simp
          refine AllOps.cons (fun a y h => ?_) ?_
          · have e24 : a.eval (.tmp 24) = (.func (.func 93) #[] #[] : Value) := h.of 24 (by kernel_rfl)
            have e28 : a.eval (.tmp 28) = (.agg #[.int .i64 va, .int .i64 vn, .slice b1 m1 f1, .slice b2 m2 f2, .slice b3 m3 f3] : Value) := h.of 28 (by kernel_rfl)
            have e29 : a.eval (.tmp 29) = (.agg #[.int .i64 xa, .int .i64 xn] : Value) := h.of 29 (by kernel_rfl)
            refine opOk_call (f := 93) (args := #[.agg #[.int .i64 va, .int .i64 vn, .slice b1 m1 f1, .slice b2 m2 f2, .slice b3 m3 f3], .agg #[.int .i64 xa, .int .i64 xn]]) (wanted_none rfl) ?_ ?_
            · have ec : ∀ v, a.eval (.const v) = v := fun _ => rfl
              have ef : ∀ f, a.eval (.func f) = .func (.func f) #[] #[] := fun _ => rfl
              generalize a.eval = ev at *
              clear h
              go_simp
            · refine Calls.mono (HOR.out y h.below) ?_
              rintro _ y2 ⟨rfl, hb2⟩
              exact ⟨_, rfl, fun t ht => by cases ht; exact rfl, hb2⟩
          refine AllOps.cons (fun a y h => ?_) ?_
          · have e30 : a.eval (.tmp 30) = (.int .i64 r : Value) := h.of 30 (by kernel_rfl)
            have hh := HHB.out
            refine opOk_val (v := .bool hb) (w' := y) (wanted_none rfl) ?_ (fun t ht => by cases ht; exact rfl) (Below.refl _ _)
            rw [hh]
            have ec : ∀ v, a.eval (.const v) = v := fun _ => rfl
            generalize a.eval = ev at *
            clear h
            go_simp
          exact AllOps.nil
      rintro ⟨tm, df⟩ wE hbE hdE hszE hstE hTE
      have k31 : tm.getD 31 undef = (.bool hb : Value) := ends_at (T := bsT5 b off q.length cap m (off + m * 5) va vn b1 m1 f1 b2 m2 f2 b3 m3 f3 xa xn r hb) (w := wE) (a := ⟨tm, df⟩) (t := 31) hTE (by kernel_rfl)
      obtain rfl : df = [] := hdE
      have HWE : Hid (Below w1.heap.size w1 wE) := HW.out.trans (hbE.mono HW.out.size)
      have hF8 := tmps_fold [24, 25, 26, 27, 28, 29, 30, 31] tm _ hszE hstE
      clear hszE hstE hTE hbE
      simp only [List.foldl_cons, List.foldl_nil, k31] at hF8
      clear k31
      generalize tm.getD 24 undef = x24 at hF8
      generalize tm.getD 25 undef = x25 at hF8
      generalize tm.getD 26 undef = x26 at hF8
      generalize tm.getD 27 undef = x27 at hF8
      generalize tm.getD 28 undef = x28 at hF8
      generalize tm.getD 29 undef = x29 at hF8
      generalize tm.getD 30 undef = x30 at hF8
      simp only [List.setIfInBounds_toArray, List.set_cons_zero, List.set_cons_succ] at hF8
      subst hF8
      clear HW HTC HXU HOR
      by_cases hc : r < 0
      · have HN : Hid _ := HUP.out hc
        obtain rfl : hb = true := by rw [HHB.out]; exact decide_eq_true hc
        clear HUP HDN HHB
        go_wp2_with fail
        go_roundw
        case rel => exact ⟨m + 1, j, by go_num, rfl, HN.out, HWE.out⟩
        case measure => simp [intOf]; omega
      · have HN : Hid _ := HDN.out hc
        obtain rfl : hb = false := by rw [HHB.out]; exact decide_eq_false hc
        clear HUP HDN HHB
        go_wp2_with fail
        go_roundw
        case rel => exact ⟨i, m, rfl, rfl, HN.out, HWE.out⟩
        case measure => simp [intOf]; omega
    · have g1 : decide (i < j) = false := decide_eq_false hlt
      have g1' : decide ((i : Int) < (j : Int)) = false := decide_eq_false (by omega)
      obtain rfl : j = i := by omega
      have HF : Hid _ := HI.out.fin HRS.out
      go_upto_region 8 with fail
      by_cases hin : j < q.length
      · have g2 : decide (j < q.length) = true := decide_eq_true hin
        have g2' : decide ((j : Int) < (q.length : Int)) = true := decide_eq_true (by omega)
        obtain ⟨b, off, eb, p0, p1, p2, p3, p4⟩ := ups_at (HA.out.kc (Kc.below HBW.out)) j hin
        have hxo := (HK.out _ (uvD_mem q j hin)).below HBW.out
        have HF2 : Hid (Gs.BsR q ⟨xa, xn⟩ j (decide (Wr.idOrd (uvD q j).u.id ⟨xa, xn⟩ = 0))) := by
          have := HF.out
          rw [g2, Bool.true_and] at this
          exact this
        clear HF
        generalize uvD q j = x at *
        obtain ⟨b1, m1, f1, b2, m2, f2, b3, m3, f3, e1, e2, e3⟩ := hxo.forms
        have HX : Hid (UvOk wr x) := hxo
        clear hxo
        obtain ⟨⟨⟨va, vn⟩, ps, says, ts⟩, vp, vs, vt⟩ := x
        dsimp only at *
        subst e1 e2 e3
        have HXU : Hid (∀ z, Below wr.heap.size wr z → z.cell? ⟨b, off + j * 5, none⟩ = some (.int .i64 va) ∧ z.cell? ⟨b, off + j * 5 + 1, none⟩ = some (.int .i64 vn) ∧ z.cell? ⟨b, off + j * 5 + 2, none⟩ = some (.slice b1 m1 f1) ∧ z.cell? ⟨b, off + j * 5 + 3, none⟩ = some (.slice b2 m2 f2) ∧ z.cell? ⟨b, off + j * 5 + 4, none⟩ = some (.slice b3 m3 f3)) := fun z hz => ⟨cell_below hz p0, cell_below hz p1, cell_below hz p2, cell_below hz p3, cell_below hz p4⟩
        clear p0 p1 p2 p3 p4
        subst eb
        obtain ⟨r, hr9⟩ : ∃ r, r = Wr.idOrd ⟨va, vn⟩ ⟨xa, xn⟩ := ⟨_, rfl⟩
        have HOR : Hid (∀ z, Below wr.heap.size wr z → Calls Tryz.prog 93 #[uvVal ⟨⟨⟨va, vn⟩, ps, says, ts⟩, .slice b1 m1 f1, .slice b2 m2 f2, .slice b3 m3 f3⟩, idVal ⟨xa, xn⟩] z fun e w' => e = .returned (.int .i64 r) ∧ Below z.heap.size z w') := fun z hz => by
          rw [hr9]
          exact cmpId_any ⟨⟨⟨va, vn⟩, ps, says, ts⟩, .slice b1 m1 f1, .slice b2 m2 f2, .slice b3 m3 f3⟩ ⟨xa, xn⟩ z (HX.out.below hz)
        rw [← hr9] at HF2
        clear hr9
        obtain ⟨hb, HHB⟩ : ∃ hb, Hid (hb = (r == 0)) := ⟨_, rfl⟩
        have ebd : decide (r = 0) = hb := by rw [HHB.out, Bool.eq_iff_iff]; simp
        rw [ebd] at HF2
        clear ebd
        refine wp_region_tabR (Below wr.heap.size) (fun _ _ _ => Below.trans) (fun z => (Below.refl wr.heap.size z).drew) (bsT8 b off q.length cap j (off + j * 5) va vn b1 m1 f1 b2 m2 f2 b3 m3 f3 xa xn r hb) 15 (fun _ _ => True) (by decide) (by kernel_rfl) (by kernel_rfl) (fun _ _ _ _ _ h => bsT8_same h) ?hop8 ?hend8
        case hop8 =>
          refine AllOpsI.cons (fun a y h => ?_) ?_
          · have e9 : a.eval (.tmp 9) = (.int .i64 j : Value) := h.old 9 (by kernel_rfl)
            refine opOkR_val (v := .int .i64 j) (w' := y) (wanted_none rfl) ?_ (fun t ht => by cases ht; exact rfl) (Below.refl _ _) (fun _ => trivial) (fun _ _ _ => trivial)
            have ec : ∀ v, a.eval (.const v) = v := fun _ => rfl
            generalize a.eval = ev at *
            clear h
            go_simp
          refine AllOpsI.cons (fun a y h => ?_) ?_
          · have e9 : a.eval (.tmp 9) = (.int .i64 j : Value) := h.old 9 (by kernel_rfl)
            refine opOkR_val (v := .int .i64 j) (w' := y) (wanted_none rfl) ?_ (fun t ht => by cases ht; exact rfl) (Below.refl _ _) (fun _ => trivial) (fun _ _ _ => trivial)
            have ec : ∀ v, a.eval (.const v) = v := fun _ => rfl
            generalize a.eval = ev at *
            clear h
            go_simp
          refine AllOpsI.cons (fun a y h => ?_) ?_
          · have e8 : a.eval (.tmp 8) = (.int .i64 q.length : Value) := h.old 8 (by kernel_rfl)
            refine opOkR_val (v := .int .i64 q.length) (w' := y) (wanted_none rfl) ?_ (fun t ht => by cases ht; exact rfl) (Below.refl _ _) (fun _ => trivial) (fun _ _ _ => trivial)
            have ec : ∀ v, a.eval (.const v) = v := fun _ => rfl
            generalize a.eval = ev at *
            clear h
            go_simp
          refine AllOpsI.cons (fun a y h => ?_) ?_
          · have e36 : a.eval (.tmp 36) = (.int .i64 j : Value) := h.of 36 (by kernel_rfl)
            have e37 : a.eval (.tmp 37) = (.int .i64 q.length : Value) := h.of 37 (by kernel_rfl)
            refine opOkR_val (v := .bool true) (w' := y) (wanted_none rfl) ?_ (fun t ht => by cases ht; exact rfl) (Below.refl _ _) (fun _ => trivial) (fun _ _ _ => trivial)
            have ec : ∀ v, a.eval (.const v) = v := fun _ => rfl
            generalize a.eval = ev at *
            clear h
            go_simp
          refine AllOpsI.cons (fun a y h => ?_) ?_
          · have e38 : a.eval (.tmp 38) = (.bool true : Value) := h.of 38 (by kernel_rfl)
            refine opOkR_val (v := .bool true) (w' := y) (wanted_none rfl) ?_ (fun t ht => by cases ht; exact rfl) (Below.refl _ _) (fun _ => trivial) (fun _ _ _ => trivial)
            have ec : ∀ v, a.eval (.const v) = v := fun _ => rfl
            generalize a.eval = ev at *
            clear h
            go_simp
          refine AllOpsI.cons (fun a y h => ?_) ?_
          · have e2 : a.eval (.tmp 2) = (.func (.func 93) #[] #[] : Value) := h.old 2 (by kernel_rfl)
            refine opOkR_val (v := .func (.func 93) #[] #[]) (w' := y) (wanted_some (j := 4) (t := 39) (b := true) rfl rfl rfl (h.of 39 (by kernel_rfl))) ?_ (fun t ht => by cases ht; exact rfl) (Below.refl _ _) (fun _ => trivial) (fun _ _ _ => trivial)
            have ec : ∀ v, a.eval (.const v) = v := fun _ => rfl
            generalize a.eval = ev at *
            clear h
            go_simp
          refine AllOpsI.cons (fun a y h => ?_) ?_
          · have e0 : a.eval (.tmp 0) = (.slice (some ⟨b, off, none⟩) q.length cap : Value) := h.old 0 (by kernel_rfl)
            refine opOkR_val (v := .slice (some ⟨b, off, none⟩) q.length cap) (w' := y) (wanted_some (j := 4) (t := 39) (b := true) rfl rfl rfl (h.of 39 (by kernel_rfl))) ?_ (fun t ht => by cases ht; exact rfl) (Below.refl _ _) (fun _ => trivial) (fun _ _ _ => trivial)
            have ec : ∀ v, a.eval (.const v) = v := fun _ => rfl
            generalize a.eval = ev at *
            clear h
            go_simp
          refine AllOpsI.cons (fun a y h => ?_) ?_
          · have e9 : a.eval (.tmp 9) = (.int .i64 j : Value) := h.old 9 (by kernel_rfl)
            refine opOkR_val (v := .int .i64 j) (w' := y) (wanted_some (j := 4) (t := 39) (b := true) rfl rfl rfl (h.of 39 (by kernel_rfl))) ?_ (fun t ht => by cases ht; exact rfl) (Below.refl _ _) (fun _ => trivial) (fun _ _ _ => trivial)
            have ec : ∀ v, a.eval (.const v) = v := fun _ => rfl
            generalize a.eval = ev at *
            clear h
            go_simp
          refine AllOpsI.cons (fun a y h => ?_) ?_
          · have e41 : a.eval (.tmp 41) = (.slice (some ⟨b, off, none⟩) q.length cap : Value) := h.of 41 (by kernel_rfl)
            have e42 : a.eval (.tmp 42) = (.int .i64 j : Value) := h.of 42 (by kernel_rfl)
            refine opOkR_val (v := .pointer (some ⟨b, (off + j * 5), none⟩)) (w' := y) (wanted_some (j := 4) (t := 39) (b := true) rfl rfl rfl (h.of 39 (by kernel_rfl))) ?_ (fun t ht => by cases ht; exact rfl) (Below.refl _ _) (fun _ => trivial) (fun _ _ _ => trivial)
            have ec : ∀ v, a.eval (.const v) = v := fun _ => rfl
            generalize a.eval = ev at *
            clear h
            go_simp
          refine AllOpsI.cons (fun a y h => ?_) ?_
          · have e43 : a.eval (.tmp 43) = (.pointer (some ⟨b, (off + j * 5), none⟩) : Value) := h.of 43 (by kernel_rfl)
            obtain ⟨y0, y1, y2, y3, y4⟩ := HXU.out y h.below
            refine opOkR_val (v := .agg #[.int .i64 va, .int .i64 vn, .slice b1 m1 f1, .slice b2 m2 f2, .slice b3 m3 f3]) (w' := y) (wanted_some (j := 4) (t := 39) (b := true) rfl rfl rfl (h.of 39 (by kernel_rfl))) ?_ (fun t ht => by cases ht; exact rfl) (Below.refl _ _) (fun _ => trivial) (fun _ _ _ => trivial)
            have ec : ∀ v, a.eval (.const v) = v := fun _ => rfl
            generalize a.eval = ev at *
            clear h
            go_simp
          refine AllOpsI.cons (fun a y h => ?_) ?_
          · have e4 : a.eval (.tmp 4) = (.pointer (some ⟨w.heap.size, 0, none⟩) : Value) := h.old 4 (by kernel_rfl)
            obtain ⟨t0, t1⟩ := HTC.out y h.below
            refine opOkR_val (v := .agg #[.int .i64 xa, .int .i64 xn]) (w' := y) (wanted_some (j := 4) (t := 39) (b := true) rfl rfl rfl (h.of 39 (by kernel_rfl))) ?_ (fun t ht => by cases ht; exact rfl) (Below.refl _ _) (fun _ => trivial) (fun _ _ _ => trivial)
            have ec : ∀ v, a.eval (.const v) = v := fun _ => rfl
            generalize a.eval = ev at *
            clear h
            go_simp
          refine AllOpsI.cons (fun a y h => ?_) ?_
          · have e40 : a.eval (.tmp 40) = (.func (.func 93) #[] #[] : Value) := h.of 40 (by kernel_rfl)
            have e44 : a.eval (.tmp 44) = (.agg #[.int .i64 va, .int .i64 vn, .slice b1 m1 f1, .slice b2 m2 f2, .slice b3 m3 f3] : Value) := h.of 44 (by kernel_rfl)
            have e45 : a.eval (.tmp 45) = (.agg #[.int .i64 xa, .int .i64 xn] : Value) := h.of 45 (by kernel_rfl)
            refine opOkR_call (f := 93) (args := #[.agg #[.int .i64 va, .int .i64 vn, .slice b1 m1 f1, .slice b2 m2 f2, .slice b3 m3 f3], .agg #[.int .i64 xa, .int .i64 xn]]) (wanted_some (j := 4) (t := 39) (b := true) rfl rfl rfl (h.of 39 (by kernel_rfl))) ?_ ?_
            · have ec : ∀ v, a.eval (.const v) = v := fun _ => rfl
              have ef : ∀ f, a.eval (.func f) = .func (.func f) #[] #[] := fun _ => rfl
              generalize a.eval = ev at *
              clear h
              go_simp
            · refine Calls.mono (HOR.out y h.below) ?_
              rintro _ y2 ⟨rfl, hb2⟩
              exact ⟨_, rfl, fun t ht => by cases ht; exact rfl, hb2.mono h.below.size, (fun h9 => absurd h9 (by decide)), (fun _ _ _ => trivial)⟩
          refine AllOpsI.cons (fun a y h => ?_) ?_
          · have e46 : a.eval (.tmp 46) = (.int .i64 r : Value) := h.of 46 (by kernel_rfl)
            have hh := HHB.out
            refine opOkR_val (v := .bool hb) (w' := y) (wanted_some (j := 4) (t := 39) (b := true) rfl rfl rfl (h.of 39 (by kernel_rfl))) ?_ (fun t ht => by cases ht; exact rfl) (Below.refl _ _) (fun _ => trivial) (fun _ _ _ => trivial)
            rw [hh]
            have ec : ∀ v, a.eval (.const v) = v := fun _ => rfl
            generalize a.eval = ev at *
            clear h
            go_simp
          refine AllOpsI.cons (fun a y h => ?_) ?_
          · have e39 : a.eval (.tmp 39) = (.bool true : Value) := h.of 39 (by kernel_rfl)
            have e47 : a.eval (.tmp 47) = (.bool hb : Value) := h.of 47 (by kernel_rfl)
            refine opOkR_val (v := .bool hb) (w' := y) (wanted_none rfl) ?_ (fun t ht => by cases ht; exact rfl) (Below.refl _ _) (fun _ => trivial) (fun _ _ _ => trivial)
            have ec : ∀ v, a.eval (.const v) = v := fun _ => rfl
            generalize a.eval = ev at *
            clear h
            go_simp
          refine AllOpsI.cons (fun a y h => ?_) ?_
          · have e35 : a.eval (.tmp 35) = (.int .i64 j : Value) := h.of 35 (by kernel_rfl)
            refine opOkR_val (v := .int .i64 j) (w' := y) (wanted_none rfl) ?_ (fun t ht => by cases ht; exact rfl) (Below.refl _ _) (fun _ => trivial) (fun _ _ _ => trivial)
            have ec : ∀ v, a.eval (.const v) = v := fun _ => rfl
            generalize a.eval = ev at *
            clear h
            go_simp
          refine AllOpsI.cons (fun a y h => ?_) ?_
          · have e48 : a.eval (.tmp 48) = (.bool hb : Value) := h.of 48 (by kernel_rfl)
            refine opOkR_val (v := .bool hb) (w' := y) (wanted_none rfl) ?_ (fun t ht => by cases ht; exact rfl) (Below.refl _ _) (fun _ => trivial) (fun _ _ _ => trivial)
            have ec : ∀ v, a.eval (.const v) = v := fun _ => rfl
            generalize a.eval = ev at *
            clear h
            go_simp
          exact AllOpsI.nil
        rintro ⟨tm, df⟩ wE hbE _ hdE hszE hstE hTE
        have k6 : tm.getD 6 undef = (.int .i64 j : Value) := hTE 6 (by decide)
        have k7 : tm.getD 7 undef = (.bool hb : Value) := hTE 7 (by decide)
        obtain rfl : df = [] := hdE
        have HWE : Hid (Below w.heap.size w wE) := HBW.out.trans (hbE.mono HBW.out.size)
        have hF8 := tmps_fold [35, 36, 37, 38, 39, 40, 41, 42, 43, 44, 45, 46, 47, 48, 6, 7] tm _ hszE hstE
        clear hszE hstE hTE hbE
        simp only [List.foldl_cons, List.foldl_nil, k6, k7] at hF8
        clear k6 k7
        generalize tm.getD 35 undef = x35 at hF8
        generalize tm.getD 36 undef = x36 at hF8
        generalize tm.getD 37 undef = x37 at hF8
        generalize tm.getD 38 undef = x38 at hF8
        generalize tm.getD 39 undef = x39 at hF8
        generalize tm.getD 40 undef = x40 at hF8
        generalize tm.getD 41 undef = x41 at hF8
        generalize tm.getD 42 undef = x42 at hF8
        generalize tm.getD 43 undef = x43 at hF8
        generalize tm.getD 44 undef = x44 at hF8
        generalize tm.getD 45 undef = x45 at hF8
        generalize tm.getD 46 undef = x46 at hF8
        generalize tm.getD 47 undef = x47 at hF8
        generalize tm.getD 48 undef = x48 at hF8
        simp only [List.setIfInBounds_toArray, List.set_cons_zero, List.set_cons_succ] at hF8
        subst hF8
        go_wp2_with fail
        go_ret2
        exact ⟨j, hb, rfl, HF2.out, HWE.out⟩
      · have g2 : decide (j < q.length) = false := decide_eq_false hin
        obtain rfl : j = q.length := by omega
        have HF2 : Hid (Gs.BsR q ⟨xa, xn⟩ q.length false) := by
          have := HF.out
          rw [g2, Bool.false_and] at this
          exact this
        clear HF
        go_quiet (fail)
        go_wp2_with fail
        go_ret2
        exact ⟨q.length, false, rfl, HF2.out, HBW.out.trans ((blw_drewN wr _).mono HBW.out.size)⟩
end Go.Proofs.YtmfaodapofamfaaGreat

/- One who marks what is behind some ids; knownBy. -/
namespace Go.Proofs.YtmfaodapofamfaaGreat
open Go.RowKit

section
variable {P : Program} {ops : Array Oper} {Q : Exit → Act → World → Prop} {a : Act} {w : World} {i : Nat} {o : Oper} {K : Act → World → Prop}
theorem wpOp_call {f : FuncId} {args : Array Value} (ho : ops[i]? = some o) (hw : Region.wanted o (yielded ops a.tmps) = true) (hr : (execOp a.eval o).run P w = .ok (.enter f args) w) (hc : Calls P f args w fun e w' => ∃ v, e = .returned v ∧ K (a.put o.dst v) w') : wpOp P ops Q i K a w := by
  refine wpOp_wp ho hw ?_
  unfold Oper.wp
  rw [hr, Oper.upon_enter]
  refine Calls.mono hc ?_
  rintro e w' ⟨v, rfl, h⟩
  exact h
end
/-- Where all but a row of truths stands, all blocks with a number stand. -/
theorem kn_row {w w' : World} {K : Nat} {f : List Bool} (hK : w.heap[K]? = some (.cells (boolRow f) 4)) (hg : w.grownBy w' (some K)) : Kn w w' := fun b hb o v e => by
  have hne : b ≠ K := fun e2 => by
    subst e2
    obtain ⟨p, n, hp⟩ := hb
    rw [Lib.cell_of_heap hK] at hp
    unfold boolRow at hp
    simp only [List.getElem?_toArray, List.getElem?_map] at hp
    cases hf : f[p]? with
    | none => rw [hf] at hp; cases hp
    | some x => rw [hf] at hp; cases hp
  rw [cell_heap (hg.block b (cell_lt e) (fun e2 => hne (by cases e2; rfl)))]
  exact e
namespace Gs
def fnV (BL BK BF : Nat) : Value := .func (.func 91) #[] #[.pointer (some ⟨BL, 0, none⟩), .pointer (some ⟨BK, 0, none⟩), .pointer (some ⟨BF, 0, none⟩)]
/-- The boxes of one who marks, and what is marked. -/
structure Kst (BL BK BF K n : Nat) (lv : Value) (w : World) (f : List Bool) : Prop where
  row : w.heap[K]? = some (.cells (boolRow f) 4)
  bl : w.heap[BL]? = some (.cells #[lv] 22)
  bk : w.heap[BK]? = some (.cells #[.slice (some ⟨K, 0, none⟩) n n] 92)
  bf : w.heap[BF]? = some (.cells #[fnV BL BK BF] 118)
theorem Kst.below {BL BK BF K n : Nat} {lv : Value} {w w' : World} {f : List Bool} (h : Kst BL BK BF K n lv w f) (hb : Below w.heap.size w w') : Kst BL BK BF K n lv w' f :=
  have k : ∀ {b : Nat} {x : Obj}, w.heap[b]? = some x → w'.heap[b]? = some x := fun e => (hb.block _ (Array.getElem?_eq_some_iff.1 e).1).trans e
  ⟨k h.row, k h.bl, k h.bk, k h.bf⟩
theorem Kst.set {BL BK BF K n : Nat} {lv : Value} {w : World} {f : List Bool} (h : Kst BL BK BF K n lv w f) (i : Nat) : Kst BL BK BF K n lv (w.setCell ⟨K, i, none⟩ (.bool true)) (f.set i true) := by
  have k : ∀ {b : Nat} {c : Array Value} {t : TypeId}, t ≠ 4 → w.heap[b]? = some (.cells c t) → (w.setCell ⟨K, i, none⟩ (.bool true)).heap[b]? = some (.cells c t) := fun ht e => by
    rw [heap_set_other (fun e2 => by rw [e2, h.row] at e; injection e with e; injection e with _ e _; exact ht e.symm)]
    exact e
  exact ⟨boolRow_set h.row i true, k (by decide) h.bl, k (by decide) h.bk, k (by decide) h.bf⟩
theorem set_grown {BL BK BF K n : Nat} {lv : Value} {w : World} {f : List Bool} (_ : Kst BL BK BF K n lv w f) (i : Nat) : w.grownBy (w.setCell ⟨K, i, none⟩ (.bool true)) (some K) :=
  ⟨rfl, rfl, rfl, by simp, fun j _ hn => heap_set_other (fun e => hn (by rw [e]))⟩
end Gs
def mkT6 (BL BK BF b f nq c k o : Nat) (a : Option Addr) (m d : Nat) (tQ : Nat) (vQ : Value) (_ : World) : Prop :=
  match tQ with
  | 32 => vQ = .func (.func 91) #[] #[.pointer (some ⟨BL, 0, none⟩), .pointer (some ⟨BK, 0, none⟩), .pointer (some ⟨BF, 0, none⟩)]
  | 33 => vQ = .slice (some ⟨b, f, none⟩) nq c
  | 34 => vQ = .int .i64 k
  | 35 => vQ = .pointer (some ⟨b, o, none⟩)
  | 36 => vQ = .pointer (some ⟨b, o + 2, none⟩)
  | 37 => vQ = .slice a m d
  | _ => True
theorem mkT6_mono (BL BK BF b f nq c k o : Nat) (a : Option Addr) (m d : Nat) (tQ : Nat) (vQ : Value) (W W' : World) (_ : Below W.heap.size W W') (h : mkT6 BL BK BF b f nq c k o a m d tQ vQ W) : mkT6 BL BK BF b f nq c k o a m d tQ vQ W' := by
  revert h
  unfold mkT6
  split <;> (intro h; first | exact h)
def mkT7 (BL BK BF b f nq c k o : Nat) (a : Option Addr) (m d : Nat) (tQ : Nat) (vQ : Value) (_ : World) : Prop :=
  match tQ with
  | 39 => vQ = .func (.func 91) #[] #[.pointer (some ⟨BL, 0, none⟩), .pointer (some ⟨BK, 0, none⟩), .pointer (some ⟨BF, 0, none⟩)]
  | 40 => vQ = .slice (some ⟨b, f, none⟩) nq c
  | 41 => vQ = .int .i64 k
  | 42 => vQ = .pointer (some ⟨b, o, none⟩)
  | 43 => vQ = .pointer (some ⟨b, o + 4, none⟩)
  | 44 => vQ = .slice a m d
  | _ => True
theorem mkT7_mono (BL BK BF b f nq c k o : Nat) (a : Option Addr) (m d : Nat) (tQ : Nat) (vQ : Value) (W W' : World) (_ : Below W.heap.size W W') (h : mkT7 BL BK BF b f nq c k o a m d tQ vQ W) : mkT7 BL BK BF b f nq c k o a m d tQ vQ W' := by
  revert h
  unfold mkT7
  split <;> (intro h; first | exact h)

set_option maxRecDepth 100000 in
set_option maxHeartbeats 4000000 in
theorem mark_any (q : List Uv) (hr : Wr.rise Dg.uOrd (ups q) = true) (hl : q.length ≤ 1000) (BL BK BF K : Nat) (ao : Option Addr) (cap : Nat) : ∀ (n : Nat) (f : List Bool) (ids : List Wr.Id) (iv : Value) (w : World), Gs.left f = n → f.length = q.length → Gs.Kst BL BK BF K q.length (.slice ao q.length cap) w f → IdsV w iv ids → ids.length ≤ 1000 → UpsV w (.slice ao q.length cap) q → (∀ y, y ∈ q → UvOk w y ∧ y.u.ps.length ≤ 6 ∧ y.u.ts.length ≤ 6) →
    Calls Tryz.prog 91 #[iv, .pointer (some ⟨BL, 0, none⟩), .pointer (some ⟨BK, 0, none⟩), .pointer (some ⟨BF, 0, none⟩)] w fun e w' => e = .returned (.tuple #[]) ∧ ∃ g, Gs.MarkP q ids f g ∧ Gs.Kst BL BK BF K q.length (.slice ao q.length cap) w' g ∧ w.grownBy w' (some K) := by
  intro n
  induction n using Nat.strongRecOn with
  | _ n ih =>
  intro f ids iv w hn hfl hK hI hil hV hok
  have IH : Hid (∀ (g : List Bool), Gs.left g < n → g.length = q.length → ∀ (ids : List Wr.Id) (iv : Value) (w : World), Gs.Kst BL BK BF K q.length (.slice ao q.length cap) w g → IdsV w iv ids → ids.length ≤ 1000 → UpsV w (.slice ao q.length cap) q → (∀ y, y ∈ q → UvOk w y ∧ y.u.ps.length ≤ 6 ∧ y.u.ts.length ≤ 6) →
    Calls Tryz.prog 91 #[iv, .pointer (some ⟨BL, 0, none⟩), .pointer (some ⟨BK, 0, none⟩), .pointer (some ⟨BF, 0, none⟩)] w fun e w' => e = .returned (.tuple #[]) ∧ ∃ g', Gs.MarkP q ids g g' ∧ Gs.Kst BL BK BF K q.length (.slice ao q.length cap) w' g' ∧ w.grownBy w' (some K)) := fun g h1 h2 ids iv w h3 h4 h5 h6 h7 => ih (Gs.left g) h1 g ids iv w rfl h2 h3 h4 h5 h6 h7
  obtain ⟨ai, ci, rfl, _, hiA⟩ := hI
  have HIA : Hid (IdsAt w ai ids) := hiA
  have HV : Hid (UpsV w (.slice ao q.length cap) q) := hV
  have HOK : Hid (∀ y, y ∈ q → UvOk w y ∧ y.u.ps.length ≤ 6 ∧ y.u.ts.length ≤ 6) := hok
  have HRS : Hid (Wr.rise Dg.uOrd (ups q) = true) := hr
  have HKS : Hid (Gs.Kst BL BK BF K q.length (.slice ao q.length cap) w f) := hK
  have HLN : Hid (Gs.left f = n ∧ f.length = q.length) := ⟨hn, hfl⟩
  have HKN : Hid (∀ z, w.grownBy z (some K) → Kn w z) := fun z hz => kn_row hK.row hz
  clear ih hiA hV hok hr hK hn hfl
  go_enter Tryz.func91, Tryz.ntmps91
  go_wp2_with fail
  go_loopw [11] (fun iv wr => ∃ (k : Nat) (g : List Bool), k ≤ ids.length ∧ iv = .int .i64 k ∧ Hid (Gs.MarkP q (ids.take k) f g) ∧ Hid (Gs.Kst BL BK BF K q.length (.slice ao q.length cap) wr g) ∧ Hid (w.grownBy wr (some K))) (fun iv _ => ids.length - (intOf iv).toNat)
  case atStart => exact ⟨0, f, Nat.zero_le _, rfl, Gs.MarkP.refl _ _, HKS.out, grown_refl _ _⟩
  case round =>
    clear HKS
    obtain ⟨k, g, hk, rfl, HM, HK, HG⟩ := hrel
    have hgl : g.length = q.length := HM.out.len.trans HLN.out.2
    by_cases hlt : k < ids.length
    · have g1 : decide (k < ids.length) = true := decide_eq_true hlt
      have HTK : Hid (ids.take (k + 1) = ids.take k ++ [idD ids k]) := by
        show _ = _
        rw [List.take_add_one, List.getElem?_eq_getElem hlt]
        unfold idD
        rw [List.getD_eq_getElem?_getD, List.getElem?_eq_getElem hlt]
        rfl
      obtain ⟨bi, oi, ei, i0, i1⟩ := ids_at HIA.out k hlt
      have hkn := HKN.out wr HG.out
      have j0 := hkn _ ⟨_, _, i0⟩ _ _ i0
      have j1 := hkn _ ⟨_, _, i0⟩ _ _ i1
      clear i0 i1 hkn
      generalize idD ids k = z at *
      obtain ⟨xa, xn⟩ := z
      dsimp only at j0 j1
      subst ei
      go_upto_region 3 with fail
      have b6 := heap_alloc_new wr (.cells #[.int .i64 xa, .int .i64 xn] 26)
      have g6 := new_below wr (.cells #[.int .i64 xa, .int .i64 xn] 26)
      generalize wr.alloc (.cells #[.int .i64 xa, .int .i64 xn] 26) = w2 at *
      have HK2 : Hid (Gs.Kst BL BK BF K q.length (.slice ao q.length cap) w2 g) := HK.out.below g6
      have HG2 : Hid (w.grownBy w2 (some K)) := grown_below HG.out g6
      have t0 : w2.cell? ⟨wr.heap.size, 0, none⟩ = some (.int .i64 xa) := by rw [Lib.cell_of_heap b6]; rfl
      have t1 : w2.cell? ⟨wr.heap.size, 1, none⟩ = some (.int .i64 xn) := by rw [Lib.cell_of_heap b6]; rfl
      have t2 : w2.cell? ⟨BL, 0, none⟩ = some (.slice ao q.length cap) := by rw [Lib.cell_of_heap HK2.out.bl]; rfl
      have HSE : Hid _ := search_any q ⟨xa, xn⟩ (.slice ao q.length cap) w2 (HV.out.kn (HKN.out _ HG2.out)) hl (fun y hy => (HOK.out y hy).1.kn (HKN.out _ HG2.out)) HRS.out
      clear b6 g6 HK HG j0 j1
      go_wp2_with fail
      refine Calls.mono HSE.out ?_
      rintro _ w3 ⟨r, bb, rfl, hbs, hb3⟩
      have HK3 : Hid (Gs.Kst BL BK BF K q.length (.slice ao q.length cap) w3 g) := HK2.out.below hb3
      have HG3 : Hid (w.grownBy w3 (some K)) := grown_below HG2.out hb3
      clear HSE HK2 HG2 hb3 t0 t1 t2
      rcases hbs with ⟨rfl, hrl, hre⟩ | ⟨rfl, hno⟩
      · have hgl2 : r < g.length := by omega
        have kc := boolRow_cell HK3.out.row hgl2
        have kb : w3.cell? ⟨BK, 0, none⟩ = some (.slice (some ⟨K, 0, none⟩) q.length q.length) := by rw [Lib.cell_of_heap HK3.out.bk]; rfl
        have hone : ∀ i, i < q.length → (uvD q i).u.id = ⟨xa, xn⟩ → i = r := fun i hi e => Gs.rise_id HRS.out hi hrl (e.trans hre.symm)
        cases hgr : g.getD r false with
        | true =>
          rw [hgr] at kc
          have HN : Hid (Gs.MarkP q (ids.take (k + 1)) f g) := by
            rw [HTK.out]
            exact HM.out.skip (fun i hi e => by rw [hone i hi e]; exact hgr)
          clear hone hre hgr HM HTK
          go_wp2_with fail
          go_roundw
          case rel => exact ⟨k + 1, g, hlt, by go_num, HN.out, HK3.out, HG3.out⟩
          case measure => simp [intOf]; omega
        | false =>
          rw [hgr] at kc
          have kf := Lib.frozen_of_heap HK3.out.row r
          have HK4 : Hid (Gs.Kst BL BK BF K q.length (.slice ao q.length cap) (w3.setCell ⟨K, r, none⟩ (.bool true)) (g.set r true)) := HK3.out.set r
          have HG4 : Hid (w.grownBy (w3.setCell ⟨K, r, none⟩ (.bool true)) (some K)) := grown_trans HG3.out (Gs.set_grown HK3.out r)
          have hll := Gs.left_set hgl2 hgr
          have hlm := Gs.left_mono HM.out.len HM.out.mono
          have HL4 : Hid (Gs.left (g.set r true) < n ∧ (g.set r true).length = q.length) := ⟨by have := HLN.out.1; omega, by rw [Gs.set_len]; exact hgl⟩
          have HVS : Hid (∀ g2 g3, Gs.MarkP q (uvD q r).u.ps (g.set r true) g2 → Gs.MarkP q (uvD q r).u.ts g2 g3 → Gs.MarkP q (ids.take (k + 1)) f g3) := fun g2 g3 h2 h3 => by
            rw [HTK.out, ← hre]
            exact HM.out.visit hrl hgl (fun i hi e => hone i hi (e.trans hre)) h2 h3
          clear hone hre hgr HM HTK hll hlm hgl2
          go_upto_region 6 with fail
          clear kc kb kf HK3 HG3
          generalize w3.setCell ⟨K, r, none⟩ (.bool true) = w4 at *
          generalize g.set r true = g4 at *
          have hxo := HOK.out _ (uvD_mem q r hrl)
          obtain ⟨ao', cap', ea, _, hA⟩ := HV.out
          cases ea
          obtain ⟨b, off, eb, p0, p1, p2, p3, p4⟩ := ups_at hA r hrl
          subst eb
          clear hA
          generalize uvD q r = x at *
          obtain ⟨b1, m1, f1, b2, m2, f2, b3, m3, f3, e1, e2, e3⟩ := hxo.1.forms
          have HX : Hid (UvOk w x ∧ x.u.ps.length ≤ 6 ∧ x.u.ts.length ≤ 6) := hxo
          clear hxo
          obtain ⟨⟨⟨va, vn⟩, ps, says, ts⟩, vp, vs, vt⟩ := x
          dsimp only at *
          subst e1 e2 e3
          have HPC : Hid (∀ z, Kn w z → z.cell? ⟨b, off + r * 5 + 2, none⟩ = some (.slice b1 m1 f1) ∧ z.cell? ⟨b, off + r * 5 + 4, none⟩ = some (.slice b3 m3 f3)) := fun z hz => ⟨hz _ ⟨_, _, p0⟩ _ _ p2, hz _ ⟨_, _, p0⟩ _ _ p4⟩
          clear p0 p1 p2 p3 p4
          have HSC6 : Hid (∀ z, Below w4.heap.size w4 z → z.cell? ⟨BF, 0, none⟩ = some (.func (.func 91) #[] #[.pointer (some ⟨BL, 0, none⟩), .pointer (some ⟨BK, 0, none⟩), .pointer (some ⟨BF, 0, none⟩)]) ∧ z.cell? ⟨BL, 0, none⟩ = some (.slice (some ⟨b, off, none⟩) q.length cap)) := fun z hz => ⟨cell_below hz (by rw [Lib.cell_of_heap HK4.out.bf]; rfl), cell_below hz (by rw [Lib.cell_of_heap HK4.out.bl]; rfl)⟩
          have HSI6 : Hid (∀ z, Below w4.heap.size w4 z → z.cell? ⟨b, off + r * 5 + 2, none⟩ = some (.slice b1 m1 f1)) := fun z hz => cell_below hz (HPC.out _ (HKN.out _ HG4.out)).1
          have HMK6 : Hid (∀ z, Below w4.heap.size w4 z → Calls Tryz.prog 91 #[.slice b1 m1 f1, .pointer (some ⟨BL, 0, none⟩), .pointer (some ⟨BK, 0, none⟩), .pointer (some ⟨BF, 0, none⟩)] z fun e w' => e = .returned (.tuple #[]) ∧ ∃ g', Gs.MarkP q ps g4 g' ∧ Gs.Kst BL BK BF K q.length (.slice (some ⟨b, off, none⟩) q.length cap) w' g' ∧ z.grownBy w' (some K)) := fun z hz => by
            have hkz := HKN.out z (grown_below HG4.out hz)
            exact IH.out g4 HL4.out.1 HL4.out.2 ps _ z (HK4.out.below hz) (HX.out.1.kn hkz).p (Nat.le_trans HX.out.2.1 (by decide)) (HV.out.kn hkz) (fun y hy => ⟨(HOK.out y hy).1.kn hkz, (HOK.out y hy).2⟩)
          refine wp_region_tail2 (mkT6 BL BK BF b off q.length cap r (off + r * 5) b1 m1 f1) 6 (by decide) (by kernel_rfl) (by kernel_rfl) (by kernel_rfl) (mkT6_mono _ _ _ _ _ _ _ _ _ _ _ _) ?hop6 ?hend6
          case hop6 =>
            refine AllOps.cons (fun a y h hpre => ?_) ?_
            · have e3 : a.eval (.tmp 3) = (.pointer (some ⟨BF, 0, none⟩) : Value) := h.old 3 (by kernel_rfl)
              obtain ⟨s0, s1⟩ := HSC6.out y h.below
              refine opOk_val (v := .func (.func 91) #[] #[.pointer (some ⟨BL, 0, none⟩), .pointer (some ⟨BK, 0, none⟩), .pointer (some ⟨BF, 0, none⟩)]) (w' := y) (wanted_none rfl) ?_ (fun t ht => by cases ht; exact rfl) (Below.refl _ _)
              have ec : ∀ v, a.eval (.const v) = v := fun _ => rfl
              generalize a.eval = ev at *
              clear h hpre
              go_simp
            refine AllOps.cons (fun a y h hpre => ?_) ?_
            · have e1 : a.eval (.tmp 1) = (.pointer (some ⟨BL, 0, none⟩) : Value) := h.old 1 (by kernel_rfl)
              obtain ⟨s0, s1⟩ := HSC6.out y h.below
              refine opOk_val (v := .slice (some ⟨b, off, none⟩) q.length cap) (w' := y) (wanted_none rfl) ?_ (fun t ht => by cases ht; exact rfl) (Below.refl _ _)
              have ec : ∀ v, a.eval (.const v) = v := fun _ => rfl
              generalize a.eval = ev at *
              clear h hpre
              go_simp
            refine AllOps.cons (fun a y h hpre => ?_) ?_
            · have e7 : a.eval (.tmp 7) = (.int .i64 r : Value) := h.old 7 (by kernel_rfl)
              refine opOk_val (v := .int .i64 r) (w' := y) (wanted_none rfl) ?_ (fun t ht => by cases ht; exact rfl) (Below.refl _ _)
              have ec : ∀ v, a.eval (.const v) = v := fun _ => rfl
              generalize a.eval = ev at *
              clear h hpre
              go_simp
            refine AllOps.cons (fun a y h hpre => ?_) ?_
            · have e33 : a.eval (.tmp 33) = (.slice (some ⟨b, off, none⟩) q.length cap : Value) := h.of 33 (by kernel_rfl)
              have e34 : a.eval (.tmp 34) = (.int .i64 r : Value) := h.of 34 (by kernel_rfl)
              refine opOk_val (v := .pointer (some ⟨b, (off + r * 5), none⟩)) (w' := y) (wanted_none rfl) ?_ (fun t ht => by cases ht; exact rfl) (Below.refl _ _)
              have ec : ∀ v, a.eval (.const v) = v := fun _ => rfl
              generalize a.eval = ev at *
              clear h hpre
              go_simp
            refine AllOps.cons (fun a y h hpre => ?_) ?_
            · have e35 : a.eval (.tmp 35) = (.pointer (some ⟨b, (off + r * 5), none⟩) : Value) := h.of 35 (by kernel_rfl)
              refine opOk_val (v := .pointer (some ⟨b, (off + r * 5) + 2, none⟩)) (w' := y) (wanted_none rfl) ?_ (fun t ht => by cases ht; exact rfl) (Below.refl _ _)
              have ec : ∀ v, a.eval (.const v) = v := fun _ => rfl
              generalize a.eval = ev at *
              clear h hpre
              go_simp
            refine AllOps.cons (fun a y h hpre => ?_) ?_
            · have e36 : a.eval (.tmp 36) = (.pointer (some ⟨b, (off + r * 5) + 2, none⟩) : Value) := h.of 36 (by kernel_rfl)
              have s2 := HSI6.out y h.below
              refine opOk_val (v := .slice b1 m1 f1) (w' := y) (wanted_none rfl) ?_ (fun t ht => by cases ht; exact rfl) (Below.refl _ _)
              have ec : ∀ v, a.eval (.const v) = v := fun _ => rfl
              generalize a.eval = ev at *
              clear h hpre
              go_simp
            exact AllOps.nil
          rintro ⟨tm0, df⟩ y hI _
          have e32 : Act.eval ⟨tm0, df⟩ (.tmp 32) = (.func (.func 91) #[] #[.pointer (some ⟨BL, 0, none⟩), .pointer (some ⟨BK, 0, none⟩), .pointer (some ⟨BF, 0, none⟩)] : Value) := hI.all 0 _ 32 (by decide) rfl rfl
          have e37 : Act.eval ⟨tm0, df⟩ (.tmp 37) = (.slice b1 m1 f1 : Value) := hI.all 5 _ 37 (by decide) rfl rfl
          have hsN : tm0.size = 47 := hI.size
          show wpOps Tryz.prog _ _ [6] _ _
          rw [wpOps_cons]
          refine wpOp_call (f := 91) (args := #[.slice b1 m1 f1, .pointer (some ⟨BL, 0, none⟩), .pointer (some ⟨BK, 0, none⟩), .pointer (some ⟨BF, 0, none⟩)]) rfl (wanted_none rfl) ?_ ?_
          · generalize Act.eval ⟨tm0, df⟩ = ev at *
            clear hI
            go_simp
          refine Calls.mono (HMK6.out y hI.below) ?_
          rintro _ y6 ⟨rfl, g6, hM6, hK6, hG6⟩
          refine ⟨_, rfl, ?_⟩
          have hstE : ∀ t, t ∉ [32, 33, 34, 35, 36, 37, 38] → (tm0.setIfInBounds 38 (.tuple #[])).getD t undef = _ := fun t ht => by
            have hC : t ≠ 38 := fun e => ht (by rw [e]; decide)
            exact (put_get_ne (a := ⟨tm0, df⟩) hC).trans (hI.still t ht)
          have hszE : (tm0.setIfInBounds 38 (.tuple #[])).size = 47 := by simp [hsN]
          obtain rfl : df = [] := hI.defers
          have HG6 : Hid (w4.grownBy y6 (some K)) := grown_trans (grownBy_of_below hI.below _) hG6
          have HM6 : Hid _ := hM6
          have HK6 : Hid _ := hK6
          clear hI hsN e32 e37 hG6 hM6 hK6 HMK6 HSC6 HSI6
          refine wpOps_end (t := 38) ?_
          generalize tm0.setIfInBounds 38 (.tuple #[]) = tm at *
          have hF8 := tmps_fold [32, 33, 34, 35, 36, 37, 38] tm _ (hszE.trans (by rfl)) hstE
          clear hszE hstE
          simp only [List.foldl_cons, List.foldl_nil] at hF8
          generalize tm.getD 32 undef = x32 at hF8
          generalize tm.getD 33 undef = x33 at hF8
          generalize tm.getD 34 undef = x34 at hF8
          generalize tm.getD 35 undef = x35 at hF8
          generalize tm.getD 36 undef = x36 at hF8
          generalize tm.getD 37 undef = x37 at hF8
          generalize tm.getD 38 undef = x38 at hF8
          simp only [List.setIfInBounds_toArray, List.set_cons_zero, List.set_cons_succ] at hF8
          subst hF8
          have HG6' : Hid (w.grownBy y6 (some K)) := grown_trans HG4.out HG6.out
          have HL6 : Hid (Gs.left g6 < n ∧ g6.length = q.length) := ⟨Nat.lt_of_le_of_lt (Gs.left_mono HM6.out.len HM6.out.mono) HL4.out.1, HM6.out.len.trans HL4.out.2⟩
          have HSC7 : Hid (∀ z, Below y6.heap.size y6 z → z.cell? ⟨BF, 0, none⟩ = some (.func (.func 91) #[] #[.pointer (some ⟨BL, 0, none⟩), .pointer (some ⟨BK, 0, none⟩), .pointer (some ⟨BF, 0, none⟩)]) ∧ z.cell? ⟨BL, 0, none⟩ = some (.slice (some ⟨b, off, none⟩) q.length cap)) := fun z hz => ⟨cell_below hz (by rw [Lib.cell_of_heap HK6.out.bf]; rfl), cell_below hz (by rw [Lib.cell_of_heap HK6.out.bl]; rfl)⟩
          have HSI7 : Hid (∀ z, Below y6.heap.size y6 z → z.cell? ⟨b, off + r * 5 + 4, none⟩ = some (.slice b3 m3 f3)) := fun z hz => cell_below hz (HPC.out _ (HKN.out _ HG6'.out)).2
          have HMK7 : Hid (∀ z, Below y6.heap.size y6 z → Calls Tryz.prog 91 #[.slice b3 m3 f3, .pointer (some ⟨BL, 0, none⟩), .pointer (some ⟨BK, 0, none⟩), .pointer (some ⟨BF, 0, none⟩)] z fun e w' => e = .returned (.tuple #[]) ∧ ∃ g', Gs.MarkP q ts g6 g' ∧ Gs.Kst BL BK BF K q.length (.slice (some ⟨b, off, none⟩) q.length cap) w' g' ∧ z.grownBy w' (some K)) := fun z hz => by
            have hkz := HKN.out z (grown_below HG6'.out hz)
            exact IH.out g6 HL6.out.1 HL6.out.2 ts _ z (HK6.out.below hz) (HX.out.1.kn hkz).t (Nat.le_trans HX.out.2.2 (by decide)) (HV.out.kn hkz) (fun y hy => ⟨(HOK.out y hy).1.kn hkz, (HOK.out y hy).2⟩)
          go_upto_region 7 with fail
          refine wp_region_tail2 (mkT7 BL BK BF b off q.length cap r (off + r * 5) b3 m3 f3) 6 (by decide) (by kernel_rfl) (by kernel_rfl) (by kernel_rfl) (mkT7_mono _ _ _ _ _ _ _ _ _ _ _ _) ?hop7 ?hend7
          case hop7 =>
            refine AllOps.cons (fun a y h hpre => ?_) ?_
            · have e3 : a.eval (.tmp 3) = (.pointer (some ⟨BF, 0, none⟩) : Value) := h.old 3 (by kernel_rfl)
              obtain ⟨s0, s1⟩ := HSC7.out y h.below
              refine opOk_val (v := .func (.func 91) #[] #[.pointer (some ⟨BL, 0, none⟩), .pointer (some ⟨BK, 0, none⟩), .pointer (some ⟨BF, 0, none⟩)]) (w' := y) (wanted_none rfl) ?_ (fun t ht => by cases ht; exact rfl) (Below.refl _ _)
              have ec : ∀ v, a.eval (.const v) = v := fun _ => rfl
              generalize a.eval = ev at *
              clear h hpre
              go_simp
            refine AllOps.cons (fun a y h hpre => ?_) ?_
            · have e1 : a.eval (.tmp 1) = (.pointer (some ⟨BL, 0, none⟩) : Value) := h.old 1 (by kernel_rfl)
              obtain ⟨s0, s1⟩ := HSC7.out y h.below
              refine opOk_val (v := .slice (some ⟨b, off, none⟩) q.length cap) (w' := y) (wanted_none rfl) ?_ (fun t ht => by cases ht; exact rfl) (Below.refl _ _)
              have ec : ∀ v, a.eval (.const v) = v := fun _ => rfl
              generalize a.eval = ev at *
              clear h hpre
              go_simp
            refine AllOps.cons (fun a y h hpre => ?_) ?_
            · have e7 : a.eval (.tmp 7) = (.int .i64 r : Value) := h.old 7 (by kernel_rfl)
              refine opOk_val (v := .int .i64 r) (w' := y) (wanted_none rfl) ?_ (fun t ht => by cases ht; exact rfl) (Below.refl _ _)
              have ec : ∀ v, a.eval (.const v) = v := fun _ => rfl
              generalize a.eval = ev at *
              clear h hpre
              go_simp
            refine AllOps.cons (fun a y h hpre => ?_) ?_
            · have e40 : a.eval (.tmp 40) = (.slice (some ⟨b, off, none⟩) q.length cap : Value) := h.of 40 (by kernel_rfl)
              have e41 : a.eval (.tmp 41) = (.int .i64 r : Value) := h.of 41 (by kernel_rfl)
              refine opOk_val (v := .pointer (some ⟨b, (off + r * 5), none⟩)) (w' := y) (wanted_none rfl) ?_ (fun t ht => by cases ht; exact rfl) (Below.refl _ _)
              have ec : ∀ v, a.eval (.const v) = v := fun _ => rfl
              generalize a.eval = ev at *
              clear h hpre
              go_simp
            refine AllOps.cons (fun a y h hpre => ?_) ?_
            · have e42 : a.eval (.tmp 42) = (.pointer (some ⟨b, (off + r * 5), none⟩) : Value) := h.of 42 (by kernel_rfl)
              refine opOk_val (v := .pointer (some ⟨b, (off + r * 5) + 4, none⟩)) (w' := y) (wanted_none rfl) ?_ (fun t ht => by cases ht; exact rfl) (Below.refl _ _)
              have ec : ∀ v, a.eval (.const v) = v := fun _ => rfl
              generalize a.eval = ev at *
              clear h hpre
              go_simp
            refine AllOps.cons (fun a y h hpre => ?_) ?_
            · have e43 : a.eval (.tmp 43) = (.pointer (some ⟨b, (off + r * 5) + 4, none⟩) : Value) := h.of 43 (by kernel_rfl)
              have s2 := HSI7.out y h.below
              refine opOk_val (v := .slice b3 m3 f3) (w' := y) (wanted_none rfl) ?_ (fun t ht => by cases ht; exact rfl) (Below.refl _ _)
              have ec : ∀ v, a.eval (.const v) = v := fun _ => rfl
              generalize a.eval = ev at *
              clear h hpre
              go_simp
            exact AllOps.nil
          rintro ⟨tm0, df⟩ y hI _
          have e39 : Act.eval ⟨tm0, df⟩ (.tmp 39) = (.func (.func 91) #[] #[.pointer (some ⟨BL, 0, none⟩), .pointer (some ⟨BK, 0, none⟩), .pointer (some ⟨BF, 0, none⟩)] : Value) := hI.all 0 _ 39 (by decide) rfl rfl
          have e44 : Act.eval ⟨tm0, df⟩ (.tmp 44) = (.slice b3 m3 f3 : Value) := hI.all 5 _ 44 (by decide) rfl rfl
          have hsN : tm0.size = 47 := hI.size
          show wpOps Tryz.prog _ _ [6] _ _
          rw [wpOps_cons]
          refine wpOp_call (f := 91) (args := #[.slice b3 m3 f3, .pointer (some ⟨BL, 0, none⟩), .pointer (some ⟨BK, 0, none⟩), .pointer (some ⟨BF, 0, none⟩)]) rfl (wanted_none rfl) ?_ ?_
          · generalize Act.eval ⟨tm0, df⟩ = ev at *
            clear hI
            go_simp
          refine Calls.mono (HMK7.out y hI.below) ?_
          rintro _ y7 ⟨rfl, g7, hM7, hK7, hG7⟩
          refine ⟨_, rfl, ?_⟩
          have hstE : ∀ t, t ∉ [39, 40, 41, 42, 43, 44, 45] → (tm0.setIfInBounds 45 (.tuple #[])).getD t undef = _ := fun t ht => by
            have hC : t ≠ 45 := fun e => ht (by rw [e]; decide)
            exact (put_get_ne (a := ⟨tm0, df⟩) hC).trans (hI.still t ht)
          have hszE : (tm0.setIfInBounds 45 (.tuple #[])).size = 47 := by simp [hsN]
          obtain rfl : df = [] := hI.defers
          have HG7 : Hid (y6.grownBy y7 (some K)) := grown_trans (grownBy_of_below hI.below _) hG7
          have HM7 : Hid _ := hM7
          have HK7 : Hid _ := hK7
          clear hI hsN e39 e44 hG7 hM7 hK7 HMK7 HSC7 HSI7
          refine wpOps_end (t := 45) ?_
          generalize tm0.setIfInBounds 45 (.tuple #[]) = tm at *
          have hF8 := tmps_fold [39, 40, 41, 42, 43, 44, 45] tm _ (hszE.trans (by rfl)) hstE
          clear hszE hstE
          simp only [List.foldl_cons, List.foldl_nil] at hF8
          generalize tm.getD 39 undef = x39 at hF8
          generalize tm.getD 40 undef = x40 at hF8
          generalize tm.getD 41 undef = x41 at hF8
          generalize tm.getD 42 undef = x42 at hF8
          generalize tm.getD 43 undef = x43 at hF8
          generalize tm.getD 44 undef = x44 at hF8
          generalize tm.getD 45 undef = x45 at hF8
          simp only [List.setIfInBounds_toArray, List.set_cons_zero, List.set_cons_succ] at hF8
          subst hF8
          have HN : Hid _ := HVS.out g6 g7 HM6.out HM7.out
          have HG7' : Hid (w.grownBy y7 (some K)) := grown_trans HG6'.out HG7.out
          clear HVS HM6 HM7 HG6 HG7 HG6' HG4
          go_wp2_with fail
          go_roundw
          case rel => exact ⟨k + 1, g7, hlt, by go_num, HN.out, HK7.out, HG7'.out⟩
          case measure => simp [intOf]; omega
      · have HN : Hid (Gs.MarkP q (ids.take (k + 1)) f g) := by
          rw [HTK.out]
          refine HM.out.skip (fun i hi e => ?_)
          have h2 := Gs.has_uvD hi
          rw [e, hno] at h2
          cases h2
        clear hno HM HTK
        go_wp2_with fail
        go_roundw
        case rel => exact ⟨k + 1, g, hlt, by go_num, HN.out, HK3.out, HG3.out⟩
        case measure => simp [intOf]; omega
    · have g1 : decide (k < ids.length) = false := decide_eq_false hlt
      have HN : Hid (Gs.MarkP q ids f g) := by
        have := HM.out
        rw [List.take_of_length_le (by omega)] at this
        exact this
      go_wp2_with fail
      exact bodyPost_end (v := .tuple #[]) (by simp [results, Tryz.results91, go_sem]) rfl ⟨rfl, g, HN.out, HK.out, HG.out⟩
end Go.Proofs.YtmfaodapofamfaaGreat

/- knownBy: which of some updates are heads, or behind one. -/
namespace Go.Proofs.YtmfaodapofamfaaGreat
open Go.RowKit

set_option maxRecDepth 100000 in
set_option maxHeartbeats 2000000 in
theorem knownBy_any (q : List Uv) (ids : List Wr.Id) (iv lv : Value) (w : World) (hr : Wr.rise Dg.uOrd (ups q) = true) (hl : q.length ≤ 1000) (hI : IdsV w iv ids) (hil : ids.length ≤ 1000) (hV : UpsV w lv q) (hok : ∀ y, y ∈ q → UvOk w y ∧ y.u.ps.length ≤ 6 ∧ y.u.ts.length ≤ 6) :
    Calls Tryz.prog 58 #[iv, lv] w fun e w' => ∃ K, e = .returned (.slice (some ⟨K, 0, none⟩) q.length q.length) ∧ w'.heap[K]? = some (.cells (boolRow (Gs.known (ups q) ids)) 4) ∧ w.heap.size ≤ K ∧ Below w.heap.size w w' := by
  obtain ⟨ao, cap, rfl, hcp, hA⟩ := id hV
  obtain ⟨ai, ci, rfl, hci, hAi⟩ := id hI
  have hmk := run_make_row' (P := Tryz.prog) 92 4 (.bool false) 1 Tryz.underlying92 (by kernel_rfl) rfl .i64 .i64 q.length (by omega) (by omega)
  simp only [made_boolRow] at hmk
  go_enter Tryz.func58, Tryz.ntmps58
  go_upto_region 1 with fail
  have b0 := heap_alloc_new w (.cells #[.slice ao q.length cap] 22)
  have g0 := new_below w (.cells #[.slice ao q.length cap] 22)
  generalize w.alloc (.cells #[.slice ao q.length cap] 22) = w1 at *
  have c0 : w1.cell? ⟨w.heap.size, 0, none⟩ = some (.slice ao q.length cap) := by rw [Lib.cell_of_heap b0]; rfl
  go_upto_region 2 with fail
  have b1 := heap_alloc_new w1 (.cells (boolRow (List.replicate q.length false)) 4)
  have g1 := new_below w1 (.cells (boolRow (List.replicate q.length false)) 4)
  have z1 : (w1.alloc (.cells (boolRow (List.replicate q.length false)) 4)).heap.size = w1.heap.size + 1 := by simp
  have b2 := heap_alloc_new (w1.alloc (.cells (boolRow (List.replicate q.length false)) 4)) (.cells #[.slice (some ⟨w1.heap.size, 0, none⟩) q.length q.length] 92)
  have g2 := new_below (w1.alloc (.cells (boolRow (List.replicate q.length false)) 4)) (.cells #[.slice (some ⟨w1.heap.size, 0, none⟩) q.length q.length] 92)
  rw [z1] at b2
  have b1' := (g2.block _ (by rw [z1]; exact Nat.lt_succ_self _)).trans b1
  have hb12 := g1.trans (g2.mono g1.size)
  have z2 : ((w1.alloc (.cells (boolRow (List.replicate q.length false)) 4)).alloc (.cells #[.slice (some ⟨w1.heap.size, 0, none⟩) q.length q.length] 92)).heap.size = w1.heap.size + 2 := by simp
  generalize (w1.alloc (.cells (boolRow (List.replicate q.length false)) 4)).alloc (.cells #[.slice (some ⟨w1.heap.size, 0, none⟩) q.length q.length] 92) = w2 at *
  clear b1 g1 g2 z1 hmk
  go_upto_region 3 with fail
  have b3 := heap_alloc_new w2 (.cells #[.nilFunc] 118)
  have g3 := new_below w2 (.cells #[.nilFunc] 118)
  rw [z2] at b3
  generalize w2.alloc (.cells #[.nilFunc] 118) = w3 at *
  have f0 : w3.cell? ⟨w1.heap.size + 2, 0, none⟩ = some .nilFunc := by rw [Lib.cell_of_heap b3]; rfl
  have f1 := Lib.frozen_of_heap b3 0
  go_upto_region 4 with fail
  have k3 : (w3.setCell ⟨w1.heap.size + 2, 0, none⟩ (.func (.func 91) #[] #[.pointer (some ⟨w.heap.size, 0, none⟩), .pointer (some ⟨w1.heap.size + 1, 0, none⟩), .pointer (some ⟨w1.heap.size + 2, 0, none⟩)])).heap[w1.heap.size + 2]? = some (.cells #[.func (.func 91) #[] #[.pointer (some ⟨w.heap.size, 0, none⟩), .pointer (some ⟨w1.heap.size + 1, 0, none⟩), .pointer (some ⟨w1.heap.size + 2, 0, none⟩)]] 118) := by rw [Lib.heap_setCell_same b3]; rfl
  have ko : ∀ j, j < w1.heap.size + 2 → (w3.setCell ⟨w1.heap.size + 2, 0, none⟩ (.func (.func 91) #[] #[.pointer (some ⟨w.heap.size, 0, none⟩), .pointer (some ⟨w1.heap.size + 1, 0, none⟩), .pointer (some ⟨w1.heap.size + 2, 0, none⟩)])).heap[j]? = w2.heap[j]? := fun j hj => by rw [heap_set_other (by omega)]; exact g3.block j (by rw [z2]; exact hj)
  have hsz : w.heap.size < w1.heap.size := (Array.getElem?_eq_some_iff.1 b0).1
  have hKS : Gs.Kst w.heap.size (w1.heap.size + 1) (w1.heap.size + 2) w1.heap.size q.length (.slice ao q.length cap) (w3.setCell ⟨w1.heap.size + 2, 0, none⟩ (.func (.func 91) #[] #[.pointer (some ⟨w.heap.size, 0, none⟩), .pointer (some ⟨w1.heap.size + 1, 0, none⟩), .pointer (some ⟨w1.heap.size + 2, 0, none⟩)])) (List.replicate q.length false) :=
    ⟨(ko _ (by omega)).trans b1', (ko _ (by omega)).trans ((hb12.block _ hsz).trans b0), (ko _ (by omega)).trans b2, k3⟩
  have hB4 : Below w.heap.size w (w3.setCell ⟨w1.heap.size + 2, 0, none⟩ (.func (.func 91) #[] #[.pointer (some ⟨w.heap.size, 0, none⟩), .pointer (some ⟨w1.heap.size + 1, 0, none⟩), .pointer (some ⟨w1.heap.size + 2, 0, none⟩)])) := ((g0.trans (hb12.mono g0.size)).trans (g3.mono (g0.trans (hb12.mono g0.size)).size)).setCell (p := ⟨w1.heap.size + 2, 0, none⟩) (by show w.heap.size ≤ w1.heap.size + 2; omega) _
  clear f0 f1 k3 ko b3 g3 b2 b1' hb12 z2 b0 c0
  generalize w3.setCell ⟨w1.heap.size + 2, 0, none⟩ (.func (.func 91) #[] #[.pointer (some ⟨w.heap.size, 0, none⟩), .pointer (some ⟨w1.heap.size + 1, 0, none⟩), .pointer (some ⟨w1.heap.size + 2, 0, none⟩)]) = w4 at *
  have HB4 : Hid (Below w.heap.size w w4) := hB4
  have hkn : Kn w w4 := Kn.below hB4
  have HMK : Hid _ := mark_any q hr hl w.heap.size (w1.heap.size + 1) (w1.heap.size + 2) w1.heap.size ao cap _ (List.replicate q.length false) ids (.slice ai ids.length ci) w4 rfl (List.length_replicate) hKS (hkn.ids hI) hil (hV.kn hkn) (fun y hy => ⟨(hok y hy).1.kn hkn, (hok y hy).2⟩)
  have c0 : w4.cell? ⟨w1.heap.size + 2, 0, none⟩ = some (.func (.func 91) #[] #[.pointer (some ⟨w.heap.size, 0, none⟩), .pointer (some ⟨w1.heap.size + 1, 0, none⟩), .pointer (some ⟨w1.heap.size + 2, 0, none⟩)]) := by rw [Lib.cell_of_heap hKS.bf]; rfl
  clear hKS hB4 hkn hok hV hI hA hAi hr hcp hci g0
  go_wp2_with fail
  refine Calls.mono HMK.out ?_
  rintro _ w5 ⟨rfl, g, hM, hK, hG⟩
  have c1 : w5.cell? ⟨w1.heap.size + 1, 0, none⟩ = some (.slice (some ⟨w1.heap.size, 0, none⟩) q.length q.length) := by rw [Lib.cell_of_heap hK.bk]; rfl
  have hrow := hK.row
  rw [hM.known] at hrow
  have HB5 : Hid (Below w.heap.size w w5) := below_row HB4.out hG (by omega)
  clear HMK hK hM hG HB4 c0
  go_wp2_with fail
  go_ret
  exact ⟨w1.heap.size, rfl, hrow, by omega, HB5.out⟩
end Go.Proofs.YtmfaodapofamfaaGreat

/- Missing: what is not known of what is there. -/
namespace Go.Proofs.YtmfaodapofamfaaGreat
open Go.RowKit

/-- All blocks but those of updates stand. -/
def Kt (z z' : World) : Prop := ∀ (k : Nat) (a : Array Value) (t : TypeId), t ≠ 30 → z.heap[k]? = some (.cells a t) → z'.heap[k]? = some (.cells a t)
theorem Kt.below {z z' : World} (h : Below z.heap.size z z') : Kt z z' := fun _ _ _ _ e => (h.block _ (Array.getElem?_eq_some_iff.1 e).1).trans e
theorem Kt.trans {a b c : World} (h : Kt a b) (k : Kt b c) : Kt a c := fun i x t h1 h3 => k i x t h1 (h i x t h1 h3)
theorem kt_append {W W' : World} {B : Nat} {v : Value} {q : List Uv} (h : URow W B v q) (hg : W.grownBy W' v.ownBlock) : Kt W W' := fun k a t ht e => by
  refine (hg.block k (Array.getElem?_eq_some_iff.1 e).1 (fun e2 => ?_)).trans e
  obtain ⟨_, h | ⟨g, cap, cur, rfl, _, hh, _⟩⟩ := h
  · rw [h.1] at e2
    cases e2
  · have e3 : k = g := by cases e2; rfl
    subst e3
    rw [hh] at e
    injection e with e
    injection e with _ e _
    exact ht e.symm
theorem UvP.kt {B : Nat} {w w' : World} {x : Uv} (h : UvP B w x) (k : Kt w w') : UvP B w' x := by
  obtain ⟨q, e, h1, h2⟩ := h.s
  exact ⟨own_type h.p (fun i a => k i a 26 (by decide)), ⟨q, e, own_type h1 (fun i a => k i a 84 (by decide)), fun p hp => own_type (h2 p hp) (fun i a => k i a 3 (by decide))⟩, own_type h.t (fun i a => k i a 26 (by decide)), h.f, h.l⟩
theorem Gs.right_args {u : Wr.Up} (h : Wr.Right u) {f : Rl.Fc} (hf : f ∈ u.says) : f.args.length ≤ 3 := by
  have := h.fs f hf
  unfold Wr.factOk at this
  simp at this
  omega
noncomputable def Gs.missErr (h w : List Wr.Up) (ids : List Wr.Id) : Int := if Dg.check h w ≠ 0 then Dg.check h w else if 200 < ids.length then 2 else 0
noncomputable def Gs.missOut (h w : List Wr.Up) (ids : List Wr.Id) : List Wr.Up := if Gs.missErr h w ids = 0 then Gs.missing h ids else []
theorem Gs.miss_step {q : List Uv} {ids : List Wr.Id} {k : Nat} (hk : k < q.length) : (ups (q.take (k + 1))).filter (fun u => !Gs.knows (ups q) ids u) = (ups (q.take k)).filter (fun u => !Gs.knows (ups q) ids u) ++ if Gs.knows (ups q) ids (uvD q k).u then [] else [(uvD q k).u] := by
  rw [uvD_take q k hk, ups_append, List.filter_append]
  have e : ups [uvD q k] = [(uvD q k).u] := rfl
  rw [e]
  cases h : Gs.knows (ups q) ids (uvD q k).u <;> simp [h]
theorem Gs.known_at {q : List Uv} {ids : List Wr.Id} {k : Nat} (hk : k < q.length) : (Gs.known (ups q) ids).getD k false = Gs.knows (ups q) ids (uvD q k).u := by
  have eu : uvD q k = q[k] := by
    unfold uvD
    rw [List.getD_eq_getElem?_getD, List.getElem?_eq_getElem hk]
    rfl
  rw [eu]
  simp [Gs.known, ups, List.getElem?_eq_getElem hk]

set_option maxRecDepth 100000 in
set_option maxHeartbeats 4000000 in
theorem Missing_any (hq wq : List Uv) (hv wv : Value) (ids : List Wr.Id) (iv : Value) (w : World) (hV : UpsV w hv hq) (wV : UpsV w wv wq) (hl : hq.length ≤ 4611686018427387903 ∧ wq.length ≤ 4611686018427387903) (hok : ∀ y, y ∈ hq ++ wq → UvOk w y) (hI : IdsV w iv ids) (hil : ids.length ≤ 9223372036854775807) :
    Calls Tryz.prog 21 #[repVal hv wv, iv] w fun e w' => ∃ (v : Value) (R : List Uv), e = .returned (.tuple #[v, .int .i64 (Gs.missErr (ups hq) (ups wq) ids)]) ∧ UpsV w' v R ∧ (∀ x, x ∈ R → UvOk w' x) ∧ ups R = Gs.missOut (ups hq) (ups wq) ids ∧ Below w.heap.size w w' := by
  obtain ⟨ah, ch, rfl, hch, hAt⟩ := id hV
  obtain ⟨aw, cw, rfl, hcw, wAt⟩ := id wV
  obtain ⟨ai, ci, rfl, hci, hAi⟩ := id hI
  clear hch hcw wAt hci hAi
  obtain ⟨E, hE⟩ : ∃ E, E = Gs.missErr (ups hq) (ups wq) ids := ⟨_, rfl⟩
  obtain ⟨c, hc⟩ : ∃ c, c = Dg.check (ups hq) (ups wq) := ⟨_, rfl⟩
  have HE : Hid (E = Gs.missErr (ups hq) (ups wq) ids) := hE
  rw [← hE]
  have HOUT : Hid (E ≠ 0 → [] = Gs.missOut (ups hq) (ups wq) ids) := fun h => by unfold Gs.missOut; rw [if_neg (by rw [← hE]; exact h)]
  have HOK : Hid (c = 0 → Dg.Ok (ups hq) (ups wq)) := fun h => Dg.check_ok.mp (hc ▸ h)
  have HR : Hid (∀ z, Below w.heap.size w z → UpsV z (.slice ah hq.length ch) hq ∧ UpsV z (.slice aw wq.length cw) wq ∧ (∀ y, y ∈ hq ++ wq → UvOk z y) ∧ IdsV z (.slice ai ids.length ci) ids) := fun z hz => ⟨hV.kc (Kc.below hz), wV.kc (Kc.below hz), (fun y hy => (hok y hy).below hz), idsV_below hI hz⟩
  have H15 : Hid (∀ z, Below w.heap.size w z → Calls Tryz.prog 15 #[.agg #[.slice ah hq.length ch, .slice aw wq.length cw]] z fun e w' => e = .returned (.int .i64 c) ∧ Below z.heap.size z w') := fun z hz => by
    obtain ⟨k1, k2, k3, _⟩ := HR.out z hz
    rw [hc]
    exact DCheck_any hq wq _ _ z k1 k2 hl k3
  have HCC : Hid (c = Dg.check (ups hq) (ups wq)) := hc
  clear hV wV hI hok hl hAt hE hc
  have b0 := heap_alloc_new w (.cells #[.slice ah hq.length ch, .slice aw wq.length cw] 24)
  have g0 := new_below w (.cells #[.slice ah hq.length ch, .slice aw wq.length cw] 24)
  go_enter Tryz.func21, Tryz.ntmps21
  go_upto_region 1 with fail
  generalize w.alloc (.cells #[.slice ah hq.length ch, .slice aw wq.length cw] 24) = w1 at *
  have HX1 : Hid (∀ z, Below w1.heap.size w1 z → z.cell? ⟨w.heap.size, 0, none⟩ = some (.slice ah hq.length ch) ∧ z.cell? ⟨w.heap.size, 1, none⟩ = some (.slice aw wq.length cw)) := fun z hz => ⟨cell_below hz (by rw [Lib.cell_of_heap b0]; rfl), cell_below hz (by rw [Lib.cell_of_heap b0]; rfl)⟩
  have HG1 : Hid (Below w.heap.size w w1) := g0
  clear b0 g0
  obtain ⟨x0, x1⟩ := HX1.out w1 (Below.refl _ _)
  go_wp2_with fail
  refine Calls.mono (H15.out w1 HG1.out) ?_
  rintro _ w2 ⟨rfl, hb2⟩
  have HX2 : Hid (∀ z, Below w2.heap.size w2 z → z.cell? ⟨w.heap.size, 0, none⟩ = some (.slice ah hq.length ch) ∧ z.cell? ⟨w.heap.size, 1, none⟩ = some (.slice aw wq.length cw)) := fun z hz => HX1.out z (hb2.trans (hz.mono hb2.size))
  have HG2 : Hid (Below w.heap.size w w2) := HG1.out.trans (hb2.mono HG1.out.size)
  clear x0 x1 hb2 HX1 HG1 H15
  by_cases h0 : c = 0
  case neg =>
    have d0 : (!decide (c = 0)) = true := by simp [h0]
    have hE2 : E = c := by rw [HE.out, HCC.out]; unfold Gs.missErr; rw [if_pos (by rw [← HCC.out]; exact h0)]
    subst hE2
    go_wp2_with fail
    go_ret2
    exact ⟨_, [], rfl, ups_nil _, (fun x hx => by cases hx), HOUT.out h0, HG2.out⟩
  subst h0
  have HO : Hid (Dg.Ok (ups hq) (ups wq)) := HOK.out rfl
  have hfew := HO.out.few
  rw [ups_length, ups_length] at hfew
  clear HOK
  by_cases h1 : ids.length ≤ 200
  case neg =>
    have d0 : decide ((200 : Int) < (ids.length : Int)) = true := decide_eq_true (by omega)
    have d0' : decide ((ids.length : Int) > 200) = true := decide_eq_true (by omega)
    have hE2 : E = 2 := by rw [HE.out]; unfold Gs.missErr; rw [if_neg (fun h => h HCC.out.symm), if_pos (by omega)]
    subst hE2
    go_wp2_with fail
    go_ret2
    exact ⟨_, [], rfl, ups_nil _, (fun x hx => by cases hx), HOUT.out (by decide), HG2.out⟩
  have d0 : decide ((200 : Int) < (ids.length : Int)) = false := decide_eq_false (by omega)
  have d0' : decide ((ids.length : Int) > 200) = false := decide_eq_false (by omega)
  have hE2 : E = 0 := by rw [HE.out]; unfold Gs.missErr; rw [if_neg (fun h => h HCC.out.symm), if_neg (by omega)]
  subst hE2
  have HFI : Hid (Gs.missing (ups hq) ids = Gs.missOut (ups hq) (ups wq) ids) := by show _ = _; unfold Gs.missOut; rw [if_pos HE.out.symm]
  have HEA : Hid (∀ y, y ∈ hq → Wr.check y.u = 0) := fun y hy => HO.out.each y.u (List.mem_append_left _ (List.mem_map_of_mem hy))
  have HKB : Hid _ := knownBy_any hq ids (.slice ai ids.length ci) (.slice ah hq.length ch) w2 HO.out.rh (by omega) (HR.out w2 HG2.out).2.2.2 (by omega) (HR.out w2 HG2.out).1 (fun y hy => ⟨(HR.out w2 HG2.out).2.2.1 y (List.mem_append_left _ hy), (Wr.right_of (HEA.out y hy)).ps, (Wr.right_of (HEA.out y hy)).ts⟩)
  obtain ⟨x0, x1⟩ := HX2.out w2 (Below.refl _ _)
  clear HE HOUT HCC
  go_wp2_with fail
  refine Calls.mono HKB.out ?_
  rintro _ wO ⟨K, rfl, hrow, hKl, hb3⟩
  have HXO : Hid (∀ z, Below wO.heap.size wO z → z.cell? ⟨w.heap.size, 0, none⟩ = some (.slice ah hq.length ch) ∧ z.cell? ⟨w.heap.size, 1, none⟩ = some (.slice aw wq.length cw)) := fun z hz => HX2.out z (hb3.trans (hz.mono hb3.size))
  have HGO : Hid (Below w.heap.size w wO) := HG2.out.trans (hb3.mono HG2.out.size)
  have HROW : Hid (wO.heap[K]? = some (.cells (boolRow (Gs.known (ups hq) ids)) 4)) := hrow
  clear x0 x1 hb3 HX2 HG2 HKB hrow hKl d0 d0'
  go_wp2_with fail
  go_loopw [7, 23] (fun mv iv wr => ∃ (k : Nat) (R : List Uv), k ≤ hq.length ∧ iv = .int .i64 k ∧ Hid (ups R = (ups (hq.take k)).filter (fun u => !Gs.knows (ups hq) ids u)) ∧ URow wr wO.heap.size mv R ∧ Hid (R.length ≤ k ∧ ∀ x, x ∈ R → UvP wO.heap.size wr x) ∧ Hid (Below wO.heap.size wO wr)) (fun _ iv _ => hq.length - (intOf iv).toNat)
  case atStart => exact ⟨0, [], Nat.zero_le _, rfl, rfl, World.ownsRow_nil _ _ _ _, ⟨Nat.le_refl _, (fun x hx => by cases hx)⟩, Below.refl _ _⟩
  case round =>
    obtain ⟨k, R, hk, rfl, HU, hrw, HP, HB⟩ := hrel
    obtain ⟨aR, cR, rfl⟩ := own_slice hrw
    have hRk := HP.out.1
    by_cases hlt : k < hq.length
    · have g1 : decide (k < hq.length) = true := decide_eq_true hlt
      have g1' : decide ((k : Int) < (hq.length : Int)) = true := decide_eq_true (by omega)
      have HBw : Hid (Below w.heap.size w wr) := HGO.out.trans (HB.out.mono HGO.out.size)
      have hst := Gs.miss_step (ids := ids) hlt
      have kc := boolRow_cell (i := k) ((HB.out.block _ (Array.getElem?_eq_some_iff.1 HROW.out).1).trans HROW.out) (by unfold Gs.known; rw [List.length_map, ups_length]; exact hlt)
      rw [Gs.known_at hlt] at kc
      obtain ⟨x0, x1⟩ := HXO.out wr HB.out
      cases hkn : Gs.knows (ups hq) ids (uvD hq k).u with
      | true =>
        rw [hkn] at kc hst
        have HU2 : Hid (ups R = (ups (hq.take (k + 1))).filter (fun u => !Gs.knows (ups hq) ids u)) := by
          show _ = _
          rw [hst, HU.out]
          simp
        have HRW : Hid (URow wr wO.heap.size (.slice aR R.length cR) R) := hrw
        clear hst hkn HU hrw
        go_wp2_with fail
        go_roundw
        case rel => exact ⟨k + 1, R, hlt, by go_num, HU2.out, HRW.out, ⟨by omega, HP.out.2⟩, HB.out⟩
        case measure => simp [intOf]; omega
      | false =>
        rw [hkn] at kc hst
        have HU2 : Hid (∀ x' : Uv, x'.u = (uvD hq k).u → ups (R ++ [x']) = (ups (hq.take (k + 1))).filter (fun u => !Gs.knows (ups hq) ids u)) := fun x' e => by
          rw [hst, ups_append, HU.out]
          simp [ups, e]
        clear hst hkn HU
        have hxo := (HR.out wr HBw.out).2.2.1 _ (List.mem_append_left _ (uvD_mem hq k hlt))
        have hxr := Wr.right_of (HEA.out _ (uvD_mem hq k hlt))
        obtain ⟨ah', ch', eh, _, hAA⟩ := (HR.out wr HBw.out).1
        cases eh
        obtain ⟨b, off, eb, p0, p1, p2, p3, p4⟩ := ups_at hAA k hlt
        clear hAA
        generalize uvD hq k = x at *
        obtain ⟨b1, m1, f1, b2, m2, f2, b3, m3, f3, e1, e2, e3⟩ := hxo.forms
        have HCP : Hid _ := Copy_any x wr hxo ⟨hxr.ps, hxr.says, hxr.ts⟩ (fun f hf => Gs.right_args hxr hf)
        clear hxo hxr
        obtain ⟨⟨⟨va, vn⟩, ps, says, ts⟩, vp, vs, vt⟩ := x
        dsimp only at *
        subst e1 e2 e3
        subst eb
        go_wp2_with fail
        refine Calls.mono HCP.out ?_
        rintro _ wd ⟨x', rfl, hxu, hxp, hbd⟩
        have HM3 : Hid _ := HU2.out x' hxu
        have hrow3 := ownsRow_below hrw hbd
        have HB3 : Hid (Below wO.heap.size wO wd) := HB.out.trans (hbd.mono HB.out.size)
        have hxp2 : UvP wO.heap.size wd x' := hxp.le HB.out.size
        have HP3 : Hid (∀ x, x ∈ R → UvP wO.heap.size wd x) := fun x hx => (HP.out.2 x hx).below hbd
        obtain ⟨c1, l1, k1, c2, l2, k2, c3, l3, k3, e1, e2, e3⟩ := hxp2.ok.forms
        clear hxu hxp hrw hbd HB HU2 HP HCP p0 p1 p2 p3 p4 kc x0 x1
        obtain ⟨⟨⟨ua, un⟩, ps', says', ts'⟩, vp, vs, vt⟩ := x'
        dsimp only at *
        subst e1 e2 e3
        have HXP : Hid (UvP wO.heap.size wd ⟨⟨⟨ua, un⟩, ps', says', ts'⟩, .slice c1 l1 k1, .slice c2 l2 k2, .slice c3 l3 k3⟩) := hxp2
        clear hxp2
        go_wp2_with (at_builtin; refine wp_append_ups (W := wd) rfl _ _ rfl wO.heap.size (HB3.out.alloc HB3.out.size _).size _ R rfl (hrow3.alloc _) (some ⟨wd.heap.size, 0, none⟩) 1 [(⟨⟨⟨ua, un⟩, ps', says', ts'⟩, .slice c1 l1 k1, .slice c2 l2 k2, .slice c3 l3 k3⟩ : Uv)] rfl (fun h => by cases h) (ups_one _ ⟨⟨⟨ua, un⟩, ps', says', ts'⟩, .slice c1 l1 k1, .slice c2 l2 k2, .slice c3 l3 k3⟩) (one_ok HXP.out.ok) (by rw [List.length_singleton]; omega) ?_; intro vs9 z9 hown9 hgrow9)
        have hB9 : Below wO.heap.size wO z9 := (HB3.out.alloc HB3.out.size _).grown hgrow9 (HB3.out.alloc HB3.out.size _).size (fun j e => (hrow3.lt j e).1)
        have hkt : Kt wd z9 := (Kt.below (new_below wd _)).trans (kt_append (hrow3.alloc _) hgrow9)
        obtain ⟨ao9, cap9, rfl⟩ := own_slice hown9
        have RF : Hid (URow z9 wO.heap.size (.slice ao9 (R ++ [(⟨⟨⟨ua, un⟩, ps', says', ts'⟩, .slice c1 l1 k1, .slice c2 l2 k2, .slice c3 l3 k3⟩ : Uv)]).length cap9) (R ++ [(⟨⟨⟨ua, un⟩, ps', says', ts'⟩, .slice c1 l1 k1, .slice c2 l2 k2, .slice c3 l3 k3⟩ : Uv)])) := hown9
        have B9 : Hid (Below wO.heap.size wO z9) := hB9
        have HP9 : Hid ((R ++ [(⟨⟨⟨ua, un⟩, ps', says', ts'⟩, .slice c1 l1 k1, .slice c2 l2 k2, .slice c3 l3 k3⟩ : Uv)]).length ≤ k + 1 ∧ ∀ x, x ∈ R ++ [(⟨⟨⟨ua, un⟩, ps', says', ts'⟩, .slice c1 l1 k1, .slice c2 l2 k2, .slice c3 l3 k3⟩ : Uv)] → UvP wO.heap.size z9 x) := ⟨by rw [List.length_append, List.length_singleton]; omega, fun x hx => by
          rcases List.mem_append.mp hx with h9 | h9
          · exact (HP3.out x h9).kt hkt
          · rw [List.mem_singleton.mp h9]
            exact HXP.out.kt hkt⟩
        clear hB9 hown9 hgrow9 hkt hrow3 HB3 HP3 HXP
        go_wp2_with fail
        go_roundw
        case rel => exact ⟨k + 1, _, hlt, by go_num, HM3.out, RF.out, HP9.out, B9.out⟩
        case measure => simp [intOf]; omega
    · have g1 : decide (k < hq.length) = false := decide_eq_false hlt
      have g1' : decide ((k : Int) < (hq.length : Int)) = false := decide_eq_false (by omega)
      have HF : Hid (ups R = Gs.missOut (ups hq) (ups wq) ids) := by
        show _ = _
        rw [← HFI.out, HU.out, List.take_of_length_le (by omega)]
        rfl
      have HUV : Hid (UpsV wr (.slice aR R.length cR) R) := own_ups hrw
      have HBw : Hid (Below w.heap.size w wr) := HGO.out.trans (HB.out.mono HGO.out.size)
      clear hrw HU
      go_wp2_with fail
      go_ret2
      exact ⟨_, R, rfl, HUV.out, (fun x hx => (HP.out.2 x hx).ok), HF.out, HBw.out⟩
end Go.Proofs.YtmfaodapofamfaaGreat

