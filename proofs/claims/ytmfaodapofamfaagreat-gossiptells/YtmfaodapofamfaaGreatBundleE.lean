/- Own texts, one behind the other (part 5). -/
import Derived.Test.YtmfaodapofamfaaGreatBundleD
import Derived.Test.YtmfaodapofamfaaGreatRows
import Derived.RangeFuncNested
import Derived.RangeFuncBound
import Derived.RangeFuncCalls
import Derived.RangeFuncLeaves
import Derived.RangeFuncBox
import Derived.Sort.MapsRangeIn
import Derived.Shelf.Abstract
import Derived.Shelf.RegionOpen
import Derived.WalkKit
import Derived.OwnWalkIn
import Derived.TacticsInMore
import Derived.LoopNIn
import Derived.LoopIn
import Derived.Shelf.SlSortCmp.WholeK
import Derived.Ground.SlsfProg
import Derived.Test.YtmfaodapofamfaaGreatProg
import Derived.Laws.AppendOwnNone
import Derived.Lib.BufferMore
/- Package dag: checkTogether and Check. -/
namespace Go.Proofs.YtmfaodapofamfaaGreat
open Go.RowKit Go.Maps

theorem one_id {w : World} {v : Value} {x : Wr.Id} (g : Nat) (h0 : w.cell? ⟨g, 0, none⟩ = some (.int .i64 x.a)) (h1 : w.cell? ⟨g, 1, none⟩ = some (.int .i64 x.n)) (hv : v = .slice (some ⟨g, 0, none⟩) 1 1) : IdsV w v [x] := by
  subst hv
  refine ⟨_, 1, rfl, ⟨Nat.le_refl _, fun h => by cases h⟩, .inr ⟨g, 0, rfl, fun i hi => ?_⟩⟩
  have : i = 0 := by simp at hi; exact hi
  subst this
  exact ⟨h0, h1⟩
set_option maxRecDepth 100000 in
set_option maxHeartbeats 1000000 in
theorem held1_any (B hb : Nat) (c : List Uv) (x : Uv) (w w0 : World) (hM : CmAt w B c) (hbx : w.cell? ⟨hb, 0, none⟩ = some (.map (some B))) (hx : UvOk w0 x) (hi : Wr.isId x.u.id = true) :
    Calls Tryz.prog 89 #[uvVal x, .pointer (some ⟨hb, 0, none⟩)] w fun e w' => e = .returned (.bool (Dg.hasU (ups c) x.u.id)) ∧ Below w.heap.size w w' := by
  obtain ⟨a1, n1, d1, a2, n2, d2, a3, n3, d3, e1, e2, e3⟩ := hx.forms
  obtain ⟨⟨⟨ua, un⟩, ps, says, ts⟩, vp, vs, vt⟩ := x
  dsimp only at *
  subst e1 e2 e3
  have hb1 : Below w.heap.size w ((w.alloc (.cells #[.int .i64 ua, .int .i64 un, .slice a1 n1 d1, .slice a2 n2 d2, .slice a3 n3 d3] 30)).alloc (.cells #[.int .i64 ua, .int .i64 un] 26)) := ((Below.refl _ _).alloc (Nat.le_refl _) _).alloc (by simp) _
  have HB1 : Hid (Below w.heap.size w ((w.alloc (.cells #[.int .i64 ua, .int .i64 un, .slice a1 n1 d1, .slice a2 n2 d2, .slice a3 n3 d3] 30)).alloc (.cells #[.int .i64 ua, .int .i64 un] 26))) := hb1
  have c9 : (w.alloc (.cells #[.int .i64 ua, .int .i64 un, .slice a1 n1 d1, .slice a2 n2 d2, .slice a3 n3 d3] 30)).cell? ⟨hb, 0, none⟩ = some (.map (some B)) := cell_below ((Below.refl _ _).alloc (Nat.le_refl _) _) hbx
  have HC : Hid (Calls Tryz.prog 31 #[.map (some B), .slice (some ⟨w.heap.size + 1, 0, none⟩) 1 1] ((w.alloc (.cells #[.int .i64 ua, .int .i64 un, .slice a1 n1 d1, .slice a2 n2 d2, .slice a3 n3 d3] 30)).alloc (.cells #[.int .i64 ua, .int .i64 un] 26)) fun e w' => e = .returned (.bool (Dg.hasU (ups c) ⟨ua, un⟩)) ∧ Below ((w.alloc (.cells #[.int .i64 ua, .int .i64 un, .slice a1 n1 d1, .slice a2 n2 d2, .slice a3 n3 d3] 30)).alloc (.cells #[.int .i64 ua, .int .i64 un] 26)).heap.size ((w.alloc (.cells #[.int .i64 ua, .int .i64 un, .slice a1 n1 d1, .slice a2 n2 d2, .slice a3 n3 d3] 30)).alloc (.cells #[.int .i64 ua, .int .i64 un] 26)) w') := by
    have h := hold_any B c [⟨ua, un⟩] (.slice (some ⟨w.heap.size + 1, 0, none⟩) 1 1) _ (hM.below hb1) (one_id (w.heap.size + 1) (by rw [← World.size_alloc w]; exact (cat_cell _ _ _ 0).trans rfl) (by rw [← World.size_alloc w]; exact (cat_cell _ _ _ 1).trans rfl) rfl) (by simp) (fun y hy => by rw [List.mem_singleton.mp hy]; exact hi)
    refine h.mono ?_
    rintro e w' ⟨rfl, h2⟩
    refine ⟨?_, h2⟩
    rw [List.all_cons, List.all_nil, Bool.and_true]
  generalize Dg.hasU (ups c) ⟨ua, un⟩ = bb at *
  clear hM hx hi hb1
  go_enter Tryz.func89, Tryz.ntmps89
  go_wp2_with (go_at_call 31; refine Calls.mono HC.out ?_; rintro e z1 ⟨rfl, hg1⟩)
  go_ret
  exact ⟨rfl, HB1.out.trans (hg1.mono HB1.out.size)⟩
set_option maxRecDepth 100000 in
set_option maxHeartbeats 1000000 in
theorem held2_any (B hb : Nat) (c : List Uv) (x : Uv) (w : World) (hM : CmAt w B c) (hbx : w.cell? ⟨hb, 0, none⟩ = some (.map (some B))) (hx : UvOk w x) (hi : IdsOk x.u) :
    Calls Tryz.prog 90 #[uvVal x, .pointer (some ⟨hb, 0, none⟩)] w fun e w' => e = .returned (.bool (!Dg.carry (ups c) x.u)) ∧ Below w.heap.size w w' := by
  have h1 := hi.lp
  have h2 := hi.lt
  obtain ⟨a1, n1, d1, a2, n2, d2, a3, n3, d3, e1, e2, e3⟩ := hx.forms
  have HC : Hid (∀ z, Below w.heap.size w z → Calls Tryz.prog 73 #[.map (some B), uvVal x] z fun e w' => e = .returned (.bool (Dg.carry (ups c) x.u)) ∧ Below z.heap.size z w') := fun z hz => carry_any B c x z (hM.below hz) (hx.below hz) (by omega) hi.ps hi.ts
  generalize Dg.carry (ups c) x.u = bb at *
  obtain ⟨⟨⟨ua, un⟩, ps, says, ts⟩, vp, vs, vt⟩ := x
  dsimp only at *
  subst e1 e2 e3
  have HB1 : Hid (Below w.heap.size w (w.alloc (.cells #[.int .i64 ua, .int .i64 un, .slice a1 n1 d1, .slice a2 n2 d2, .slice a3 n3 d3] 30))) := (Below.refl _ _).alloc (Nat.le_refl _) _
  have c9 : (w.alloc (.cells #[.int .i64 ua, .int .i64 un, .slice a1 n1 d1, .slice a2 n2 d2, .slice a3 n3 d3] 30)).cell? ⟨hb, 0, none⟩ = some (.map (some B)) := cell_below HB1.out hbx
  clear hM hx hi h1 h2
  go_enter Tryz.func90, Tryz.ntmps90
  go_wp2_with (go_at_call 73; refine Calls.mono (HC.out _ HB1.out) ?_; rintro e z1 ⟨rfl, hg1⟩)
  go_ret
  exact ⟨rfl, HB1.out.trans (hg1.mono HB1.out.size)⟩

abbrev repVal (hv wv : Value) : Value := .agg #[hv, wv]
theorem together_a {h w : List Wr.Up} (e : (Wr.rise Dg.uOrd h && Wr.rise Dg.uOrd w && !(w.any fun u => Dg.hasU h u.id)) = false) : Dg.together h w = 4 := by
  unfold Dg.together; rw [if_pos e]
theorem together_b {h w : List Wr.Up} (e1 : Wr.rise Dg.uOrd h = true) (e2 : Wr.rise Dg.uOrd w = true) (e3 : (w.any fun u => Dg.hasU h u.id) = false) (e4 : (h.any fun u => !Dg.carry h u) = true) : Dg.together h w = 5 := by
  unfold Dg.together; rw [e1, e2, e3, e4]; rfl
theorem together_c {h w : List Wr.Up} (e1 : Wr.rise Dg.uOrd h = true) (e2 : Wr.rise Dg.uOrd w = true) (e3 : (w.any fun u => Dg.hasU h u.id) = false) (e4 : (h.any fun u => !Dg.carry h u) = false) : Dg.together h w = if ((Dg.settle Dg.snoc [] h).2.length != 0 || w.any (Dg.carry h)) = true then 4 else 0 := by
  unfold Dg.together; rw [e1, e2, e3, e4]; rfl
set_option maxRecDepth 100000 in
set_option maxHeartbeats 2000000 in
theorem checkTogether_any (hq wq : List Uv) (hv wv : Value) (w : World) (hV : UpsV w hv hq) (wV : UpsV w wv wq) (hl : hq.length + wq.length ≤ 1000) (hok : ∀ x, x ∈ hq ++ wq → UvOk w x) (hid : ∀ x, x ∈ hq ++ wq → IdsOk x.u) :
    Calls Tryz.prog 56 #[repVal hv wv] w fun e w' => e = .returned (.int .i64 (Dg.together (ups hq) (ups wq))) ∧ Below w.heap.size w w' := by
  have HO : Hid ((∀ x, x ∈ hq → UvOk w x ∧ IdsOk x.u) ∧ (∀ x, x ∈ wq → UvOk w x ∧ IdsOk x.u)) := ⟨fun x hx => ⟨hok x (List.mem_append_left _ hx), hid x (List.mem_append_left _ hx)⟩, fun x hx => ⟨hok x (List.mem_append_right _ hx), hid x (List.mem_append_right _ hx)⟩⟩
  have HHV : Hid (UpsV w hv hq) := hV
  have HWV : Hid (UpsV w wv wq) := wV
  obtain ⟨ah, ch, rfl, _⟩ := hV
  obtain ⟨aw, cw, rfl, _⟩ := wV
  clear hok hid
  have HB1 : Hid (Below w.heap.size w (w.alloc (.cells #[.slice ah hq.length ch, .slice aw wq.length cw] 24))) := (Below.refl _ _).alloc (Nat.le_refl _) _
  have HH1 : Hid ((w.alloc (.cells #[.slice ah hq.length ch, .slice aw wq.length cw] 24)).heap[w.heap.size]? = some (.cells #[.slice ah hq.length ch, .slice aw wq.length cw] 24)) := rl_new w _
  go_enter Tryz.func56, Tryz.ntmps56
  go_upto_region 1 with fail
  generalize w.alloc (.cells #[.slice ah hq.length ch, .slice aw wq.length cw] 24) = w1 at *
  have c0 : w1.cell? ⟨w.heap.size, 0, none⟩ = some (.slice ah hq.length ch) := by rw [Lib.cell_of_heap HH1.out]; rfl
  have HC1 : Hid (Calls Tryz.prog 30 #[.slice ah hq.length ch] w1 fun e w' => e = .returned (.map (some w1.heap.size)) ∧ MapOf w' w1.heap.size hq.length hq ∧ Below w1.heap.size w1 w') := byIds_any hq _ w1 (HHV.out.kc (Kc.below HB1.out)) (by omega) (fun x hx => (HO.out.1 x hx).1.below HB1.out) (fun x hx => (HO.out.1 x hx).2.id)
  go_upto_region 2 with (go_at_call 30; refine Calls.mono HC1.out ?_; rintro e w2 ⟨rfl, hm2, hb2⟩)
  have HB3 : Hid (Below w1.heap.size w1 (w2.alloc (.cells #[.map (some w1.heap.size)] 64))) := hb2.alloc hb2.size _
  have HX3 : Hid ((w2.alloc (.cells #[.map (some w1.heap.size)] 64)).heap[w2.heap.size]? = some (.cells #[.map (some w1.heap.size)] 64)) := rl_new w2 _
  have HM3 : Hid (((ups hq).map Wr.Up.id).Nodup → CmAt (w2.alloc (.cells #[.map (some w1.heap.size)] 64)) w1.heap.size hq) := fun hn => (hm2.at_ hn).below ((Below.refl _ _).alloc (Nat.le_refl _) _)
  clear hm2 hb2 HC1 c0
  generalize w2.heap.size = hb at *
  generalize w2.alloc (.cells #[.map (some w1.heap.size)] 64) = w3 at *
  have HB0 : Hid (Below w.heap.size w w3) := HB1.out.trans (HB3.out.mono HB1.out.size)
  have HF : Hid (∀ z, Below w3.heap.size w3 z → z.cell? ⟨w.heap.size, 0, none⟩ = some (.slice ah hq.length ch) ∧ z.cell? ⟨w.heap.size, 1, none⟩ = some (.slice aw wq.length cw) ∧ z.cell? ⟨hb, 0, none⟩ = some (.map (some w1.heap.size))) := fun z hz => by
    have hx1 := HB3.out.trans (hz.mono HB3.out.size)
    have hh1 := (hx1.block _ (Array.getElem?_eq_some_iff.1 HH1.out).1).trans HH1.out
    have hh2 := (hz.block _ (Array.getElem?_eq_some_iff.1 HX3.out).1).trans HX3.out
    exact ⟨by rw [Lib.cell_of_heap hh1]; rfl, by rw [Lib.cell_of_heap hh1]; rfl, by rw [Lib.cell_of_heap hh2]; rfl⟩
  have HT : Hid (∀ z, Below w3.heap.size w3 z → Below w.heap.size w z) := fun z hz => HB0.out.trans (hz.mono HB0.out.size)
  have HR1 : Hid (∀ z, Below w3.heap.size w3 z → Calls Tryz.prog 87 #[.slice ah hq.length ch, .func (.func 76) #[] #[]] z fun e w' => e = .returned (.bool (Wr.rise Dg.uOrd (ups hq))) ∧ Below w3.heap.size w3 w') := fun z hz =>
    (RiseU_any hq _ z (HHV.out.kc (Kc.below (HT.out z hz))) (by omega) (fun x hx => (HO.out.1 x hx).1.below (HT.out z hz))).mono fun _ _ h => ⟨h.1, hz.trans (h.2.mono hz.size)⟩
  have HR2 : Hid (∀ z, Below w3.heap.size w3 z → Calls Tryz.prog 87 #[.slice aw wq.length cw, .func (.func 76) #[] #[]] z fun e w' => e = .returned (.bool (Wr.rise Dg.uOrd (ups wq))) ∧ Below w3.heap.size w3 w') := fun z hz =>
    (RiseU_any wq _ z (HWV.out.kc (Kc.below (HT.out z hz))) (by omega) (fun x hx => (HO.out.2 x hx).1.below (HT.out z hz))).mono fun _ _ h => ⟨h.1, hz.trans (h.2.mono hz.size)⟩
  have HK3 : Hid (Wr.rise Dg.uOrd (ups hq) = true → ∀ z, Below w3.heap.size w3 z → Calls Tryz.prog 88 #[.slice aw wq.length cw, .func (.func 89) #[] #[.pointer (some ⟨hb, 0, none⟩)]] z fun e w' => e = .returned (.bool ((ups wq).any fun u => Dg.hasU (ups hq) u.id)) ∧ Below w3.heap.size w3 w') := fun hr z hz =>
    (containsA_any hb (fun u => Dg.hasU (ups hq) u.id) wq _ z (HWV.out.kc (Kc.below (HT.out z hz))) (by omega) (fun x hx => (HO.out.2 x hx).1.below (HT.out z hz)) (fun y x hy hx => by
      have hzy := hz.trans (hy.mono hz.size)
      exact held1_any w1.heap.size hb hq x y w ((HM3.out (Dg.rise_nodup hr)).below hzy) (HF.out y hzy).2.2 (HO.out.2 x hx).1 (HO.out.2 x hx).2.id)).mono fun _ _ h => ⟨h.1, hz.trans (h.2.mono hz.size)⟩
  have HK4 : Hid (Wr.rise Dg.uOrd (ups hq) = true → ∀ z, Below w3.heap.size w3 z → Calls Tryz.prog 88 #[.slice ah hq.length ch, .func (.func 90) #[] #[.pointer (some ⟨hb, 0, none⟩)]] z fun e w' => e = .returned (.bool ((ups hq).any fun u => !Dg.carry (ups hq) u)) ∧ Below w3.heap.size w3 w') := fun hr z hz =>
    (containsB_any hb (fun u => !Dg.carry (ups hq) u) hq _ z (HHV.out.kc (Kc.below (HT.out z hz))) (by omega) (fun x hx => (HO.out.1 x hx).1.below (HT.out z hz)) (fun y x hy hx => by
      have hzy := hz.trans (hy.mono hz.size)
      exact held2_any w1.heap.size hb hq x y ((HM3.out (Dg.rise_nodup hr)).below hzy) (HF.out y hzy).2.2 ((HO.out.1 x hx).1.below (HT.out y hzy)) (HO.out.1 x hx).2)).mono fun _ _ h => ⟨h.1, hz.trans (h.2.mono hz.size)⟩
  have HK5 : Hid (Wr.rise Dg.uOrd (ups hq) = true → ∀ z, Below w3.heap.size w3 z → Calls Tryz.prog 32 #[.slice ah hq.length ch] z fun e w' => ∃ (m : Value) (a : Option Addr) (c : Nat), e = .returned (.tuple #[m, .slice a (Dg.settle Dg.snoc [] (ups hq)).2.length c]) ∧ (∃ k, m = .map (some k)) ∧ Below w3.heap.size w3 w') := fun hr z hz =>
    (settle_any hq _ z (HHV.out.kc (Kc.below (HT.out z hz))) (by omega) (fun x hx => (HO.out.1 x hx).1.below (HT.out z hz)) (fun x hx => (HO.out.1 x hx).2) (Dg.rise_nodup hr)).mono (by
      rintro e w' ⟨c, l, v, rfl, hs, _, _, hrow, hb⟩
      obtain ⟨a, cc, rfl⟩ := own_slice hrow
      refine ⟨.map (some z.heap.size), a, cc, ?_, ⟨_, rfl⟩, hz.trans (hb.mono hz.size)⟩
      rw [hs]
      show _ = Ending.returned (.tuple #[_, .slice a (ups l).length cc])
      rw [ups_length])
  have HK6 : Hid (Wr.rise Dg.uOrd (ups hq) = true → ∀ z, Below w3.heap.size w3 z → Calls Tryz.prog 88 #[.slice aw wq.length cw, .func (.func 73) #[.map (some w1.heap.size)] #[]] z fun e w' => e = .returned (.bool ((ups wq).any (Dg.carry (ups hq)))) ∧ Below w3.heap.size w3 w') := fun hr z hz =>
    (containsC_any w1.heap.size (Dg.carry (ups hq)) wq _ z (HWV.out.kc (Kc.below (HT.out z hz))) (by omega) (fun x hx => (HO.out.2 x hx).1.below (HT.out z hz)) (fun y x hy hx => by
      have hzy := hz.trans (hy.mono hz.size)
      have hi := (HO.out.2 x hx).2
      have g1 := hi.lp
      have g2 := hi.lt
      exact carry_any w1.heap.size hq x y ((HM3.out (Dg.rise_nodup hr)).below hzy) ((HO.out.2 x hx).1.below (HT.out y hzy)) (by omega) hi.ps hi.ts)).mono fun _ _ h => ⟨h.1, hz.trans (h.2.mono hz.size)⟩
  have HA : Hid ((Wr.rise Dg.uOrd (ups hq) && Wr.rise Dg.uOrd (ups wq) && !((ups wq).any fun u => Dg.hasU (ups hq) u.id)) = false → Dg.together (ups hq) (ups wq) = 4) := together_a
  have HBb : Hid (Wr.rise Dg.uOrd (ups hq) = true → Wr.rise Dg.uOrd (ups wq) = true → ((ups wq).any fun u => Dg.hasU (ups hq) u.id) = false → ((ups hq).any fun u => !Dg.carry (ups hq) u) = true → Dg.together (ups hq) (ups wq) = 5) := together_b
  have HCc : Hid (Wr.rise Dg.uOrd (ups hq) = true → Wr.rise Dg.uOrd (ups wq) = true → ((ups wq).any fun u => Dg.hasU (ups hq) u.id) = false → ((ups hq).any fun u => !Dg.carry (ups hq) u) = false → Dg.together (ups hq) (ups wq) = if ((Dg.settle Dg.snoc [] (ups hq)).2.length != 0 || (ups wq).any (Dg.carry (ups hq))) = true then 4 else 0) := together_c
  generalize Wr.rise Dg.uOrd (ups hq) = r1 at *
  generalize Wr.rise Dg.uOrd (ups wq) = r2 at *
  generalize ((ups wq).any fun u => Dg.hasU (ups hq) u.id) = r3 at *
  generalize ((ups hq).any fun u => !Dg.carry (ups hq) u) = r4 at *
  generalize (Dg.settle Dg.snoc [] (ups hq)).2.length = n5 at *
  generalize (ups wq).any (Dg.carry (ups hq)) = r6 at *
  clear HHV HWV HO HM3 HB1 HH1 HB3 HX3 HB0
  obtain ⟨c0, c1, c2⟩ := HF.out w3 (Below.refl _ _)
  have HE : Hid (Below w3.heap.size w3 w3) := Below.refl _ _
  cases r1
  · have HTG : Hid (Dg.together (ups hq) (ups wq) = 4) := HA.out rfl
    go_wp2_with (go_at_call 87; refine Calls.mono (HR1.out _ HE.out) ?_; rintro e z1 ⟨rfl, hg1⟩)
    go_ret
    exact ⟨by rw [HTG.out]; rfl, HT.out _ hg1⟩
  have hk3 := HK3.out rfl
  have hk4 := HK4.out rfl
  have hk5 := HK5.out rfl
  have hk6 := HK6.out rfl
  clear HK3 HK4 HK5 HK6
  have HK3 : Hid _ := hk3
  have HK4 : Hid _ := hk4
  have HK5 : Hid _ := hk5
  have HK6 : Hid _ := hk6
  clear hk3 hk4 hk5 hk6
  cases r2
  · have HTG : Hid (Dg.together (ups hq) (ups wq) = 4) := HA.out rfl
    clear HA HBb HCc HK3 HK4 HK5 HK6
    go_wp2_with (first
      | (go_at_call 87; (with_reducible refine Calls.mono (HR1.out _ HE.out) ?_); clear HR1; rintro e z1 ⟨rfl, hg1⟩; obtain ⟨c0, c1, c2⟩ := HF.out z1 hg1; have HG1 : Hid _ := hg1)
      | (go_at_call 87; (with_reducible refine Calls.mono (HR2.out _ HG1.out) ?_); rintro e z2 ⟨rfl, hg2⟩))
    go_ret
    exact ⟨by rw [HTG.out]; rfl, HT.out _ hg2⟩
  cases r3
  rotate_left
  · have HTG : Hid (Dg.together (ups hq) (ups wq) = 4) := HA.out rfl
    clear HA HBb HCc HK4 HK5 HK6
    go_wp2_with (first
      | (go_at_call 87; (with_reducible refine Calls.mono (HR1.out _ HE.out) ?_); clear HR1; rintro e z1 ⟨rfl, hg1⟩; obtain ⟨c0, c1, c2⟩ := HF.out z1 hg1; have HG1 : Hid _ := hg1)
      | (go_at_call 87; (with_reducible refine Calls.mono (HR2.out _ HG1.out) ?_); clear HR2; rintro e z2 ⟨rfl, hg2⟩; obtain ⟨c0, c1, c2⟩ := HF.out z2 hg2; have HG2 : Hid _ := hg2)
      | (go_at_call 88; (with_reducible refine Calls.mono (HK3.out _ HG2.out) ?_); rintro e z3 ⟨rfl, hg3⟩))
    go_ret
    exact ⟨by rw [HTG.out]; rfl, HT.out _ hg3⟩
  clear HA
  have HB5 : Hid (r4 = true → Dg.together (ups hq) (ups wq) = 5) := fun h => HBb.out rfl rfl rfl h
  have HC5 : Hid (r4 = false → Dg.together (ups hq) (ups wq) = if (n5 != 0 || r6) = true then 4 else 0) := fun h => HCc.out rfl rfl rfl h
  clear HBb HCc
  go_upto_region 4 with (first
      | (go_at_call 87; (with_reducible refine Calls.mono (HR1.out _ HE.out) ?_); clear HR1; rintro e z1 ⟨rfl, hg1⟩; obtain ⟨c0, c1, c2⟩ := HF.out z1 hg1; have HG1 : Hid _ := hg1)
      | (go_at_call 87; (with_reducible refine Calls.mono (HR2.out _ HG1.out) ?_); clear HR2; rintro e z2 ⟨rfl, hg2⟩; obtain ⟨c0, c1, c2⟩ := HF.out z2 hg2; have HG2 : Hid _ := hg2)
      | (go_at_call 88; (with_reducible refine Calls.mono (HK3.out _ HG2.out) ?_); clear HK3; rintro e z3 ⟨rfl, hg3⟩))
  clear c0 c1 c2 HG1 HG2
  obtain ⟨c0, c1, c2⟩ := HF.out z3 hg3
  have HG3 : Hid (Below w3.heap.size w3 z3) := hg3
  clear hg1 hg2 hg3
  cases r4
  rotate_left
  · have HTG : Hid (Dg.together (ups hq) (ups wq) = 5) := HB5.out rfl
    go_wp2_with (go_at_call 88; (with_reducible refine Calls.mono (HK4.out _ HG3.out) ?_); rintro e z4 ⟨rfl, hg4⟩)
    go_ret
    exact ⟨by rw [HTG.out]; rfl, HT.out _ hg4⟩
  clear HB5
  have HC2 := HC5.out rfl
  clear HC5
  go_upto_region 6 with (go_at_call 88; (with_reducible refine Calls.mono (HK4.out _ HG3.out) ?_); rintro e z4 ⟨rfl, hg4⟩)
  clear c0 c1 c2 HK4 HG3
  obtain ⟨c0, c1, c2⟩ := HF.out z4 hg4
  have HG4 : Hid (Below w3.heap.size w3 z4) := hg4
  clear hg4
  go_upto_region 7 with (go_at_call 32; (with_reducible refine Calls.mono (HK5.out _ HG4.out) ?_); rintro e z5 ⟨m5, a5, k5, rfl, ⟨b5, rfl⟩, hg5⟩)
  clear c0 c1 c2 HK5 HG4
  obtain ⟨c0, c1, c2⟩ := HF.out z5 hg5
  have HG5 : Hid (Below w3.heap.size w3 z5) := hg5
  clear hg5
  by_cases h0 : 0 < n5
  · have g0 : decide ((0 : Int) < (n5 : Int)) = true := decide_eq_true (by omega)
    have g1 : decide (0 < n5) = true := decide_eq_true h0
    have HTG : Hid (Dg.together (ups hq) (ups wq) = 4) := by
      show _ = _
      rw [HC2]
      have : (n5 != 0) = true := by simp; omega
      rw [this]
      rfl
    clear HC2
    go_wp2_with fail
    go_ret
    exact ⟨by rw [HTG.out]; rfl, HT.out _ HG5.out⟩
  · have g0 : decide ((0 : Int) < (n5 : Int)) = false := decide_eq_false (by omega)
    have g1 : decide (0 < n5) = false := decide_eq_false h0
    have hn5 : (n5 != 0) = false := by simp; omega
    rw [hn5, Bool.false_or] at HC2
    cases r6
    · have HTG : Hid (Dg.together (ups hq) (ups wq) = 0) := HC2
      clear HC2
      go_wp2_with (go_at_call 88; (with_reducible refine Calls.mono (HK6.out _ HG5.out) ?_); rintro e z6 ⟨rfl, hg6⟩)
      go_ret
      exact ⟨by rw [HTG.out]; rfl, HT.out _ hg6⟩
    · have HTG : Hid (Dg.together (ups hq) (ups wq) = 4) := HC2
      clear HC2
      go_wp2_with (go_at_call 88; (with_reducible refine Calls.mono (HK6.out _ HG5.out) ?_); rintro e z6 ⟨rfl, hg6⟩)
      go_ret
      exact ⟨by rw [HTG.out]; rfl, HT.out _ hg6⟩

theorem first_step (l : List Wr.Up) (u : Wr.Up) (h : Wr.check u = 0) : Dg.first (u :: l) = Dg.first l := by
  unfold Dg.first
  rw [List.find?_cons, show Dg.bad u = false from by simp [Dg.bad, h]]
theorem first_stop (l : List Wr.Up) (u : Wr.Up) (h : ¬ Wr.check u = 0) : Dg.first (u :: l) = Wr.check u := by
  unfold Dg.first
  rw [List.find?_cons, show Dg.bad u = true from by simp [Dg.bad, h]]
set_option maxRecDepth 100000 in
set_option maxHeartbeats 2000000 in
theorem DCheck_any (hq wq : List Uv) (hv wv : Value) (w : World) (hV : UpsV w hv hq) (wV : UpsV w wv wq) (hl : hq.length ≤ 4611686018427387903 ∧ wq.length ≤ 4611686018427387903) (hok : ∀ x, x ∈ hq ++ wq → UvOk w x) :
    Calls Tryz.prog 15 #[repVal hv wv] w fun e w' => e = .returned (.int .i64 (Dg.check (ups hq) (ups wq))) ∧ Below w.heap.size w w' := by
  have HO : Hid (∀ x, x ∈ hq ++ wq → UvOk w x) := hok
  have HHV : Hid (UpsV w hv hq) := hV
  have HWV : Hid (UpsV w wv wq) := wV
  obtain ⟨ah, ch, rfl, hch, _⟩ := hV
  obtain ⟨aw, cw, rfl, hcw, _⟩ := wV
  clear hok
  have HB1 : Hid (Below w.heap.size w (w.alloc (.cells #[.slice ah hq.length ch, .slice aw wq.length cw] 24))) := (Below.refl _ _).alloc (Nat.le_refl _) _
  have HH1 : Hid ((w.alloc (.cells #[.slice ah hq.length ch, .slice aw wq.length cw] 24)).heap[w.heap.size]? = some (.cells #[.slice ah hq.length ch, .slice aw wq.length cw] 24)) := rl_new w _
  have HCH : Hid (ah = none → ch = 0) := hch.2
  have HCW : Hid (aw = none → cw = 0) := hcw.2
  clear hch hcw
  go_enter Tryz.func15, Tryz.ntmps15
  go_upto_region 1 with fail
  generalize w.alloc (.cells #[.slice ah hq.length ch, .slice aw wq.length cw] 24) = w1 at *
  have HF : Hid (∀ z, Below w1.heap.size w1 z → z.cell? ⟨w.heap.size, 0, none⟩ = some (.slice ah hq.length ch) ∧ z.cell? ⟨w.heap.size, 1, none⟩ = some (.slice aw wq.length cw)) := fun z hz => by
    have hh1 := (hz.block _ (Array.getElem?_eq_some_iff.1 HH1.out).1).trans HH1.out
    exact ⟨by rw [Lib.cell_of_heap hh1]; rfl, by rw [Lib.cell_of_heap hh1]; rfl⟩
  obtain ⟨c0, c1⟩ := HF.out w1 (Below.refl _ _)
  have hwr : IntKind.i64.wrap ((hq.length : Int) + (wq.length : Int)) = ((hq.length + wq.length : Nat) : Int) := by
    rw [← Int.natCast_add]
    simp [IntKind.wrap, IntKind.bits, IntKind.signed]
    omega
  by_cases hmany : 200 < hq.length + wq.length
  · have g0 : decide ((200 : Int) < ((hq.length + wq.length : Nat) : Int)) = true := decide_eq_true (by omega)
    have g1 : decide (200 < hq.length + wq.length) = true := decide_eq_true hmany
    have HTG : Hid (Dg.check (ups hq) (ups wq) = 2) := by
      show _ = _
      unfold Dg.check
      rw [ups_length, ups_length, if_pos hmany]
    clear HF HO
    go_wp2_with fail
    go_ret
    exact ⟨by rw [HTG.out]; rfl, HB1.out⟩
  have g0 : decide ((200 : Int) < ((hq.length + wq.length : Nat) : Int)) = false := decide_eq_false (by omega)
  have g1 : decide (200 < hq.length + wq.length) = false := decide_eq_false hmany
  have HTG : Hid (Dg.check (ups hq) (ups wq) = if Dg.first (ups (hq ++ wq)) ≠ 0 then Dg.first (ups (hq ++ wq)) else Dg.together (ups hq) (ups wq)) := by
    show _ = _
    unfold Dg.check
    rw [ups_length, ups_length, if_neg hmany, ups_append]
  obtain ⟨q, HQE⟩ : ∃ q, Hid (q = hq ++ wq) := ⟨_, rfl⟩
  rw [← HQE.out] at HTG
  go_upto_region 3 with fail
  have HB2 : Hid (Below w1.heap.size w1 (w1.alloc (.cells #[.slice ah hq.length ch, .slice aw wq.length cw] 22))) := (Below.refl _ _).alloc (Nat.le_refl _) _
  have HC2 : Hid (Calls Tryz.prog 29 #[.slice (some ⟨w1.heap.size, 0, none⟩) 2 2] (w1.alloc (.cells #[.slice ah hq.length ch, .slice aw wq.length cw] 22)) fun e w' => ∃ v', e = .returned v' ∧ URow w' (w1.alloc (.cells #[.slice ah hq.length ch, .slice aw wq.length cw] 22)).heap.size v' q ∧ Below w1.heap.size w1 w') := by
    have hb := HB1.out.trans (HB2.out.mono HB1.out.size)
    obtain ⟨_, _, e1, _, k1⟩ := HHV.out.kc (Kc.below hb)
    obtain ⟨_, _, e2, _, k2⟩ := HWV.out.kc (Kc.below hb)
    cases e1
    cases e2
    refine (concatU_any hq wq w1.heap.size ah aw ch cw _ ⟨k1, HCH.out⟩ ⟨k2, HCW.out⟩ (cat_cell _ _ _ 0) (cat_cell _ _ _ 1) (by omega) (fun x hx => (HO.out x hx).below hb)).mono ?_
    rintro e w' ⟨v', h1, h2, h3⟩
    exact ⟨v', h1, by rw [HQE.out]; exact h2, HB2.out.trans (h3.mono HB2.out.size)⟩
  go_upto_region 4 with (go_at_call 29; refine Calls.mono HC2.out ?_; rintro e w2 ⟨v2, rfl, hrow2, hb2⟩; obtain ⟨a2, k2, rfl⟩ := own_slice hrow2)
  have HR2 : Hid (UpsV w2 (.slice a2 q.length k2) q) := own_ups hrow2
  have HG2 : Hid (Below w1.heap.size w1 w2) := hb2
  clear hrow2 hb2 HC2 HB2 c0 c1
  have HT : Hid (∀ z, Below w1.heap.size w1 z → Below w.heap.size w z) := fun z hz => HB1.out.trans (hz.mono HB1.out.size)
  have hlen : q.length ≤ 200 := by rw [HQE.out, List.length_append]; omega
  have HQ : Hid (hq.length + wq.length ≤ 200) := by show _ ≤ _; omega
  have HAPP : Hid (∀ x, x ∈ q → UvOk w2 x) := fun x hx => (HO.out x (HQE.out ▸ hx)).below (HT.out _ HG2.out)
  have HCT : Hid ((∀ u, u ∈ ups q → Wr.check u = 0) → ∀ z, Below w1.heap.size w1 z → Calls Tryz.prog 56 #[repVal (.slice ah hq.length ch) (.slice aw wq.length cw)] z fun e w' => e = .returned (.int .i64 (Dg.together (ups hq) (ups wq))) ∧ Below w1.heap.size w1 w') := fun hz0 z hz =>
    (checkTogether_any hq wq _ _ z (HHV.out.kc (Kc.below (HT.out z hz))) (HWV.out.kc (Kc.below (HT.out z hz))) (by omega) (fun x hx => (HO.out x hx).below (HT.out z hz)) (fun x hx => idsOk_of (hz0 _ (List.mem_map.mpr ⟨x, HQE.out ▸ hx, rfl⟩)))).mono fun _ _ h => ⟨h.1, hz.trans (h.2.mono hz.size)⟩
  clear HHV HWV HO hwr g0 g1 hmany hl HH1
  go_wp2_with fail
  go_loopw [21] (fun iv wr => ∃ k : Nat, k ≤ q.length ∧ iv = .int .i64 k ∧ Hid (Dg.first (ups q) = Dg.first (ups (q.drop k))) ∧ Hid (Below w2.heap.size w2 wr)) (fun iv _ => q.length - (intOf iv).toNat)
  case atStart => exact ⟨0, Nat.zero_le _, rfl, rfl, Below.refl _ _⟩
  case round =>
    obtain ⟨k, hk, rfl, HR, HG⟩ := hrel
    have HG1 : Hid (Below w1.heap.size w1 wr) := HG2.out.trans (HG.out.mono HG2.out.size)
    by_cases hlt : k < q.length
    · obtain ⟨_, _, e9, _, hA⟩ := HR2.out.kc (Kc.below HG.out)
      cases e9
      obtain ⟨b, off, rfl, d0, d1, d2, d3, d4⟩ := ups_at hA k hlt
      have hx := (HAPP.out _ (uvD_mem q k hlt)).below HG.out
      have HD1 : Hid (Wr.check (uvD q k).u = 0 → Dg.first (ups q) = Dg.first (ups (q.drop (k + 1)))) := fun h => by
        rw [HR.out, uvD_drop q k hlt]
        exact first_step _ _ h
      have HD2 : Hid (¬ Wr.check (uvD q k).u = 0 → Dg.first (ups q) = Wr.check (uvD q k).u) := fun h => by
        rw [HR.out, uvD_drop q k hlt]
        exact first_stop _ _ h
      have HC : Hid (∀ z, Below wr.heap.size wr z → Calls Tryz.prog 28 #[uvVal (uvD q k)] z fun e w' => e = .returned (.int .i64 (Wr.check (uvD q k).u)) ∧ Below wr.heap.size wr w') := fun z hz =>
        (Check_any (uvD q k).u _ _ _ z (hx.below hz).p (hx.below hz).s (hx.below hz).t hx.f hx.l).mono fun _ _ h => ⟨h.1, hz.trans (h.2.mono hz.size)⟩
      obtain ⟨a1, n1, f1, a3, n3, f3, a4, n4, f4, e1, e2, e3⟩ := hx.forms
      clear HR hx hA
      generalize uvD q k = x at *
      generalize Wr.check x.u = ck at *
      obtain ⟨⟨⟨ua, un⟩, ps, says, ts⟩, vp, vs, vt⟩ := x
      dsimp only at *
      subst e1 e2 e3
      have HBN : Hid (Below wr.heap.size wr (wr.alloc (.cells #[.int .i64 ua, .int .i64 un, .slice a1 n1 f1, .slice a3 n3 f3, .slice a4 n4 f4] 30))) := (Below.refl _ _).alloc (Nat.le_refl _) _
      by_cases hck : ck = 0
      · have HD3 : Hid _ := HD1.out hck
        subst hck
        go_wp2_with (go_at_call 28; refine Calls.mono (HC.out _ HBN.out) ?_; rintro e z1 ⟨rfl, hg1⟩)
        have HG3 : Hid (Below w2.heap.size w2 z1) := HG.out.trans (hg1.mono HG.out.size)
        go_roundw
        case rel => exact ⟨k + 1, hlt, by go_num, HD3.out, HG3.out⟩
        case measure => simp [intOf]; omega
      · have HD3 : Hid _ := HD2.out hck
        have hne : (ck != 0) = true := by simpa using hck
        have HTG2 : Hid (Dg.check (ups hq) (ups wq) = ck) := by
          show _ = _
          rw [HTG.out, HD3.out, if_pos hck]
        go_wp2_with (go_at_call 28; refine Calls.mono (HC.out _ HBN.out) ?_; rintro e z1 ⟨rfl, hg1⟩)
        go_ret
        exact ⟨by rw [HTG2.out]; rfl, HT.out _ (HG1.out.trans (hg1.mono HG1.out.size))⟩
    · have hdd : decide (k < q.length) = false := decide_eq_false hlt
      have h0 : Dg.first (ups q) = 0 := by
        rw [HR.out, List.drop_of_length_le (by omega)]
        rfl
      have HTG2 : Hid (Dg.check (ups hq) (ups wq) = Dg.together (ups hq) (ups wq)) := by
        show _ = _
        rw [HTG.out, if_neg (fun e => e h0)]
      have hct := HCT.out (Dg.first_ok.mp h0) wr HG1.out
      have HCT2 : Hid (Calls Tryz.prog 56 #[repVal (.slice ah hq.length ch) (.slice aw wq.length cw)] wr fun e w' => e = .returned (.int .i64 (Dg.together (ups hq) (ups wq))) ∧ Below w1.heap.size w1 w') := hct
      obtain ⟨c0, c1⟩ := HF.out wr HG1.out
      clear HCT hct HR h0
      go_wp2_with (go_at_call 56; refine Calls.mono HCT2.out ?_; rintro e z1 ⟨rfl, hg1⟩)
      go_ret
      exact ⟨by rw [HTG2.out]; rfl, HT.out _ hg1⟩
end Go.Proofs.YtmfaodapofamfaaGreat

/- Iterators over updates: those of a map, those of a slice; AppendSeq. -/
namespace Go.Proofs.YtmfaodapofamfaaGreat
open Go.RowKit Go.Shelf Go.Maps
attribute [local go_sem] Oper.semAt_some

abbrev UvIn (c : List Uv) := { x : Uv // x ∈ c }
abbrev inEnc {c : List Uv} (x : UvIn c) : Array Value := #[uvVal x.1]

set_option maxRecDepth 100000 in
set_option maxHeartbeats 2000000 in
/-- slices.Values's closure. -/
theorem values1_in (F : Fence) (n : Nat) (h7 : F.fn 78) (hro : F.round = none) (hn : 1 ≤ n) (l Bs n₀ b off cap : Nat) (q : List Uv) (hl : q.length ≤ 1000) (hb : b < n₀) (w0 : World) (hok : ∀ x, x ∈ q → UvOk w0 x) (J Jx : List (UvIn q) → World → Prop)
    (hY : ∀ pre x W, J pre W → pre.length < q.length → YieldAt F (n - 1) Tryz.prog l (inEnc x) W fun e W' =>
      (e = .returned (.bool true) ∧ J (pre ++ [x]) W' ∧ Below n₀ W W') ∨ (e = .returned (.bool false) ∧ Jx (pre ++ [x]) W'))
    (W : World) (hJ : AbidesFrom W.heap.size J) (hn0 : n₀ ≤ W.heap.size) (hBs : W.cell? ⟨Bs, 0, none⟩ = some (.slice (some ⟨b, off, none⟩) q.length cap)) (hc : ∀ i, i < q.length → UpIn W b (off + i * 5) (uvD q i)) (h0 : J [] W) :
    CallsIn F n Tryz.prog 78 #[.func (.yield l) #[] #[], .pointer (some ⟨Bs, 0, none⟩)] W fun e W' => (∃ v, e = .returned v) ∧
      ((∃ ys : List (UvIn q), ys.map (·.1) = q ∧ J ys W') ∨ (∃ pre : List (UvIn q), True ∧ Jx pre W')) := by
  refine callsIn_of_wp Tryz.func78 rfl h7 ?_ hro
  simp only [Tryz.ntmps78, List.size_toArray, List.length_cons, List.length_nil, Nat.reduceAdd, Nat.reduceSub, Array.replicate_succ, Array.replicate_zero, List.push_toArray, List.append_toArray, List.nil_append, List.cons_append]
  gi_wp2
  gi_loopw [7] (fun i wr => ∃ (k : Nat) (ys : List (UvIn q)), k ≤ q.length ∧ i = .int .i64 k ∧ Hid (ys.map (·.1) = q.take k) ∧ J ys wr ∧ Below n₀ W wr)
    (fun i _ => q.length - (intOf i).toNat)
  case atStart => exact ⟨0, [], Nat.zero_le _, rfl, rfl, h0, Below.refl _ _⟩
  case round =>
    obtain ⟨k, ys, hk, rfl, HYS, hJs, hnx⟩ := hrel
    by_cases hlt : k < q.length
    · have hin := hc k hlt
      have HLE : Hid (ys.length = k) := by
        have := congrArg List.length HYS.out
        rw [List.length_map, List.length_take] at this
        show _ = _
        omega
      obtain ⟨c0, c1, c2, c3, c4⟩ : UpIn wr b (off + k * 5) (uvD q k) := ⟨(hnx.cell (p := ⟨b, _, none⟩) hb).trans hin.1, (hnx.cell (p := ⟨b, _, none⟩) hb).trans hin.2.1, (hnx.cell (p := ⟨b, _, none⟩) hb).trans hin.2.2.1, (hnx.cell (p := ⟨b, _, none⟩) hb).trans hin.2.2.2.1, (hnx.cell (p := ⟨b, _, none⟩) hb).trans hin.2.2.2.2⟩
      have hmem := uvD_mem q k hlt
      obtain ⟨a1, n1, d1, a2, n2, d2, a3, n3, d3, e1, e2, e3⟩ := (hok _ hmem).forms
      have HST : Hid (q.take (k + 1) = q.take k ++ [uvD q k]) := uvD_take q k hlt
      generalize uvD q k = x at *
      obtain ⟨⟨⟨ua, un⟩, ps, says, ts⟩, vp, vs, vt⟩ := x
      dsimp only at *
      subst e1 e2 e3
      have hJ2 := hJ ys wr (wr.alloc (.cells #[.int .i64 ua, .int .i64 un, .slice a1 n1 d1, .slice a2 n2 d2, .slice a3 n3 d3] 30)) none hJs (World.grownBy_alloc _ _ _) (fun r e => by cases e)
      obtain ⟨fn, tmps, assign, body, hy, hR⟩ := hY ys ⟨⟨⟨⟨ua, un⟩, ps, says, ts⟩, .slice a1 n1 d1, .slice a2 n2 d2, .slice a3 n3 d3⟩, hmem⟩ _ hJ2 (by rw [HLE.out]; exact hlt)
      have hnx2 : Below n₀ W (wr.alloc (.cells #[.int .i64 ua, .int .i64 un, .slice a1 n1 d1, .slice a2 n2 d2, .slice a3 n3 d3] 30)) := hnx.alloc (Nat.le_trans hn0 hnx.size) _
      dsimp only [inEnc] at hy hR
      clear hJ2 hin
      gi_wp2
      refine hR.mono ?_
      rintro e W3 (⟨rfl, hJ3, hk3⟩ | ⟨rfl, hJx3⟩)
      · have HYS3 : Hid ((ys ++ [(⟨⟨⟨⟨ua, un⟩, ps, says, ts⟩, .slice a1 n1 d1, .slice a2 n2 d2, .slice a3 n3 d3⟩, hmem⟩ : UvIn q)]).map (·.1) = q.take (k + 1)) := by
          show _ = _
          rw [List.map_append, HYS.out, HST.out]
          rfl
        gi_wp2
        go_roundw
        case rel => exact ⟨k + 1, _, by omega, by go_num, HYS3.out, hJ3, hnx2.trans hk3⟩
        case measure => simp [intOf]; omega
      · gi_wp2
        refine bodyPost_ret (results_none rfl _ _ _) rfl ?_
        exact ⟨⟨_, rfl⟩, .inr ⟨_, trivial, hJx3⟩⟩
    · obtain rfl : k = q.length := by omega
      gi_wp2
      go_end0
      exact ⟨⟨_, rfl⟩, .inl ⟨ys, by rw [HYS.out, List.take_length], hJs⟩⟩

/-- slices.Values(l) hands back what gives them one by one. -/
theorem values_stops (F : Fence) (n : Nat) (h7 : F.fn 78) (hro : F.round = none) (hn : 1 ≤ n) (Bs n₀ : Nat) (ao : Option Addr) (cap : Nat) (q : List Uv) (hl : q.length ≤ 1000) (w : World) (hok : ∀ x, x ∈ q → UvOk w x) (hn₀ : n₀ ≤ w.heap.size)
    (hBs : w.heap[Bs]? = some (.cells #[.slice ao q.length cap] 22)) (hA : UpsAt w ao q) (hlow : ∀ b off, ao = some ⟨b, off, none⟩ → q ≠ [] → b < n₀) :
    SeqStopsK F n Tryz.prog 78 #[.pointer (some ⟨Bs, 0, none⟩)] (fun x : UvIn q => inEnc x) (Below n₀) (fun ys => ys.map (·.1) = q) (fun _ => True) q.length w := fun l J Jx W hW hJ _ hY h0 => by
  have hc' : W.cell? ⟨Bs, 0, none⟩ = some (.slice ao q.length cap) := by
    rw [Lib.cell_of_heap ((hW.block Bs (Array.getElem?_eq_some_iff.mp hBs).1).trans hBs)]
    rfl
  by_cases hq : q = []
  · -- no round
    subst hq
    have hc2 : W.cell? ⟨Bs, 0, none⟩ = some (.slice ao 0 cap) := hc'
    refine callsIn_of_wp Tryz.func78 rfl h7 ?_ hro
    simp only [Tryz.ntmps78, List.size_toArray, List.length_cons, List.length_nil, Nat.reduceAdd, Nat.reduceSub, Array.replicate_succ, Array.replicate_zero, List.push_toArray, List.append_toArray, List.nil_append, List.cons_append]
    gi_wp2
    gi_loopw [7] (fun i wr => i = .int .i64 0 ∧ J [] wr) (fun _ _ => 0)
    case atStart => exact ⟨rfl, h0⟩
    case round =>
      obtain ⟨rfl, hJs⟩ := hrel
      gi_wp2
      go_end0
      exact ⟨⟨_, rfl⟩, .inl ⟨[], rfl, hJs⟩⟩
  · rcases hA with h | ⟨b, off, rfl, hc⟩
    · exact absurd h hq
    · exact values1_in F n h7 hro hn l Bs n₀ b off cap q hl (hlow b off rfl hq) w hok J Jx hY W hJ (Nat.le_trans hn₀ hW.size) hc' (fun i hi => (Kc.below hW).up (hc i hi)) h0

/-- What has come of a map's. -/
structure Came (c : List Uv) (left : Lit → Bool) (xs : List Uv) : Prop where
  nd : xs.Nodup
  mem : ∀ x, x ∈ xs → x ∈ c ∧ left (keyLit x.u.id) = false
  rest : ∀ x, x ∈ c → left (keyLit x.u.id) = true ∨ x ∈ xs
theorem cm_nodup {c : List Uv} (h : ((ups c).map Wr.Up.id).Nodup) : c.Nodup := by
  unfold ups at h
  rw [List.map_map] at h
  exact (List.pairwise_map.mp h).imp (fun h e => h (by rw [e]))
theorem Came.perm {c xs : List Uv} {left : Lit → Bool} (h : Came c left xs) (hc : c.Nodup) (hl : ∀ k, left k = false) : xs.Perm c :=
  (List.perm_ext_iff_of_nodup h.nd hc).mpr fun x => ⟨fun hx => (h.mem x hx).1, fun hx => by
    rcases h.rest x hx with h1 | h1
    · rw [hl] at h1; cases h1
    · exact h1⟩
theorem sameKey_self (x : Wr.Id) : (keyLit x).sameKey (keyLit x) = true := by simp [keyLit, Lit.sameKey]
theorem Came.step {c xs : List Uv} {D : DataW Value} {left : Lit → Bool} (hD : CmD c D) (h : Came c left xs) {y : Uv} (hy : y ∈ c) (hl : left (keyLit y.u.id) = true) : Came c (fun z => left z && !z.sameKey (keyLit y.u.id)) (xs ++ [y]) := by
  have hny : y ∉ xs := fun hx => by have := (h.mem y hx).2; rw [hl] at this; cases this
  refine ⟨?_, fun x hx => ?_, fun x hx => ?_⟩
  · rw [List.nodup_append]
    exact ⟨h.nd, by simp, fun a ha b hb e => by rw [List.mem_singleton.mp hb] at e; exact hny (e ▸ ha)⟩
  · rcases List.mem_append.mp hx with hx | hx
    · exact ⟨(h.mem x hx).1, by rw [(h.mem x hx).2]; rfl⟩
    · rw [List.mem_singleton.mp hx]
      exact ⟨hy, by rw [sameKey_self]; simp⟩
  · rcases h.rest x hx with h1 | h1
    · by_cases e : x.u.id = y.u.id
      · right
        have : x.u = y.u := Dg.apart_of_nodup hD.apart x.u y.u (List.mem_map.mpr ⟨x, hx, rfl⟩) (List.mem_map.mpr ⟨y, hy, rfl⟩) e
        have hxy : x = y := by
          have h2 := hD.at_ x hx (.lit (.bool true))
          have h3 := hD.at_ y hy (.lit (.bool true))
          rw [e, h3] at h2
          injection h2 with h2
          injection h2 with h2
          obtain ⟨xu, xp, xs, xt⟩ := x
          obtain ⟨yu, yp, ys, yt⟩ := y
          dsimp only at this
          subst this
          simp only [Array.mk.injEq, List.cons.injEq, and_true, true_and] at h2
          obtain ⟨rfl, rfl, rfl⟩ := h2
          rfl
        rw [hxy]
        simp
      · left
        have hne : keyLit x.u.id ≠ keyLit y.u.id := fun e2 => e (keyLit_inj (hD.ok x hx) (hD.ok y hy) e2)
        rw [h1, sameKey_ne hne]
        rfl
    · exact .inr (List.mem_append_left _ h1)

set_option maxRecDepth 100000 in
set_option maxHeartbeats 2000000 in
/-- maps.Values's closure. -/
theorem mvalues1_in (F : Fence) (n : Nat) (h7 : F.fn 77) (hro : F.round = none) (hn : 1 ≤ n) (l Bm b : Nat) (c : List Uv) (D : DataW Value) (hD : CmD c D) (J Jx : List (UvIn c) → World → Prop)
    (hY : ∀ pre x W, J pre W → pre.length < c.length → YieldAt F (n - 1) Tryz.prog l (inEnc x) W fun e W' =>
      (e = .returned (.bool true) ∧ J (pre ++ [x]) W' ∧ KeepsWalks W W') ∨ (e = .returned (.bool false) ∧ Jx (pre ++ [x]) W'))
    (W : World) (hJ : AbidesFrom W.heap.size J) (hm : W.cell? ⟨Bm, 0, none⟩ = some (.map (some b))) (hown : W.ownsMap Tryz.prog 26 uvElem b c.length D) (h0 : J [] W) :
    CallsIn F n Tryz.prog 77 #[.func (.yield l) #[] #[], .pointer (some ⟨Bm, 0, none⟩)] W fun e W' => (∃ v, e = .returned v) ∧
      ((∃ ys : List (UvIn c), (ys.map (·.1)).Perm c ∧ J ys W') ∨ (∃ pre : List (UvIn c), True ∧ Jx pre W')) := by
  refine callsIn_of_wp Tryz.func77 rfl h7 ?_ hro
  simp only [Tryz.ntmps77, List.size_toArray, List.length_cons, List.length_nil, Nat.reduceAdd, Nat.reduceSub, Array.replicate_succ, Array.replicate_zero, List.push_toArray, List.append_toArray, List.nil_append, List.cons_append]
  gi_wp2_with (first
    | (gi_at_range; refine wpListIn_range_own _ rfl _ 64 rfl 26 30 idLaw Tryz.underlying64 _ b c.length _ rfl hown ?_; intro w0 hrg0 hg0 hs0)
    | gi_in)
  go_frame
  gi_loopw [4] (fun _ wr => ∃ (left : Lit → Bool) (cnt : Nat) (ys : List (UvIn c)), wr.ranges Tryz.prog 26 uvElem b W.heap.size c.length D left cnt ∧ ys.length + cnt ≤ c.length ∧ Hid (Came c left (ys.map (·.1))) ∧ J ys wr)
    (fun _ wr => wr.rangeLeft b W.heap.size)
  case atStart =>
    exact ⟨_, _, [], hrg0, by rw [hD.size]; simp, ⟨List.nodup_nil, fun x hx => absurd hx (by simp), fun x hx => .inl (by rw [hD.has _ (hD.ok x hx)]; exact Dg.hasU_iff.mpr ⟨x.u, List.mem_map.mpr ⟨x, hx, rfl⟩, rfl⟩)⟩, hJ [] W w0 none h0 hg0 (fun r e => by cases e)⟩
  case round =>
    obtain ⟨left, cnt, ys, hrg, hcs, HC, hJs⟩ := hrel
    gi_wp2_with (first
      | (gi_at_next; refine wpListIn_next_ranges _ rfl _ rfl 26 idLaw uvElem (fun v : Value => v) fiveVal (fun key kl hk => ⟨key, rfl⟩) (fun v y hv => (uvElem_inv hv).1) b W.heap.size c.length _ _ _ rfl hrg ?_ ?_)
      | gi_in)
    · intro hc0 hl0
      gi_wp2
      go_end0
      exact ⟨⟨_, rfl⟩, .inl ⟨ys, HC.out.perm (cm_nodup hD.apart) hl0, hJs⟩⟩
    · intro x f kl yd yp w2 cnt2 hkey hlk hv hat hrg2 hlt hg2 hs2 hen
      obtain ⟨y, hy, rfl⟩ := hD.only kl (has_true_of_atKey hat)
      have hey : fiveVal f = uvVal y := by
        have h1 := (uvElem_inv hv).2
        have h2 := hat (.lit (.bool true))
        rw [hD.at_ y hy] at h2
        have h3 : yd = .held (fiveVal f) := (Prod.mk.inj h1).1
        rw [h3] at h2
        injection h2 with h2
        exact h2.symm
      have HC2 : Hid (Came c (fun z => left z && !z.sameKey (keyLit y.u.id)) (ys.map (·.1) ++ [y])) := HC.out.step hD hy hlk
      have hJ2 : J ys w2 := hJ _ wr w2 (some W.heap.size) hJs hg2 (fun r e => by cases e; exact ⟨Nat.le_refl _, hrg.iter_walk⟩)
      obtain ⟨ua, un, a1, n1, d1, a2, n2, d2, a3, n3, d3⟩ := f
      have HCnt : Hid (ys.length < c.length) := by show _ < _; omega
      clear hat hv hkey hlk hs2
      have HYT : Hid (hy = hy) := rfl
      generalize hkk : keyLit y.u.id = kl at *
      clear hkk
      obtain ⟨⟨⟨ya, yn⟩, ps, says, ts⟩, vp, vs, vt⟩ := y
      simp only [fiveVal, uvVal, Value.agg.injEq, Array.mk.injEq, List.cons.injEq, Value.int.injEq, and_true, true_and] at hey
      obtain ⟨rfl, rfl, rfl, rfl, rfl⟩ := hey
      have hJ3 := hJ ys w2 (w2.alloc (.cells #[.int .i64 ua, .int .i64 un, .slice a1 n1 d1, .slice a2 n2 d2, .slice a3 n3 d3] 30)) none hJ2 (World.grownBy_alloc _ _ _) (fun r e => by cases e)
      obtain ⟨fn, tmps, assign, body, hyy, hR⟩ := hY ys ⟨⟨⟨⟨ua, un⟩, ps, says, ts⟩, .slice a1 n1 d1, .slice a2 n2 d2, .slice a3 n3 d3⟩, hy⟩ _ hJ3 HCnt.out
      have hrg3 := hrg2.alloc (.cells #[.int .i64 ua, .int .i64 un, .slice a1 n1 d1, .slice a2 n2 d2, .slice a3 n3 d3] 30)
      dsimp only [inEnc] at hyy hR
      clear hJ2 hJ3 HYT
      gi_wp2
      refine hR.mono ?_
      rintro e W3 (⟨rfl, hJ4, hk3⟩ | ⟨rfl, hJx3⟩)
      · gi_wp2
        have hrg4 := hrg3.of_walks hk3
        go_roundw
        case rel => exact ⟨_, cnt2, _, hrg4, by simp; omega, by rw [List.map_append]; exact HC2.out, hJ4⟩
        case measure => rw [hrg4.left_eq, hrg.left_eq]; exact hlt
      · gi_wp2
        refine bodyPost_ret (results_none rfl _ _ _) rfl ?_
        exact ⟨⟨_, rfl⟩, .inr ⟨_, trivial, hJx3⟩⟩
/-- maps.Values(m) hands back what gives them one by one, in some order. -/
theorem mvalues_stops (F : Fence) (n : Nat) (h7 : F.fn 77) (hro : F.round = none) (hn : 1 ≤ n) (Bm b : Nat) (c : List Uv) (w : World) (hM : CmAt w b c) (hBm : w.heap[Bm]? = some (.cells #[.map (some b)] 64)) :
    SeqStopsK F n Tryz.prog 77 #[.pointer (some ⟨Bm, 0, none⟩)] (fun x : UvIn c => inEnc x) KeepsWalks (fun ys => (ys.map (·.1)).Perm c) (fun _ => True) c.length w := fun l J Jx W hW hJ _ hY h0 => by
  obtain ⟨D, h1, h2⟩ := hM.below hW
  exact mvalues1_in F n h7 hro hn l Bm b c D h2 J Jx hY W hJ (by rw [Lib.cell_of_heap ((hW.block Bm (Array.getElem?_eq_some_iff.mp hBm).1).trans hBm)]; rfl) h1 h0
end Go.Proofs.YtmfaodapofamfaaGreat

/- The contract of the library sort of updates, laid at this program. -/
namespace Go.Proofs
open Go.Shelf
def Tryz.sortU_ren : Go.Shelf.Ren := ⟨fun | 6 => 107 | 15 => 117 | 14 => 116 | 28 => 127 | 29 => 128 | 20 => 119 | 21 => 120 | 22 => 121 | 23 => 122 | 24 => 123 | 25 => 124 | 26 => 125 | 27 => 126 | 46 => 137 | 47 => 138 | 48 => 139 | 49 => 140 | 50 => 141 | 57 => 145 | n => n, fun | 22 => 22 | 24 => 30 | 25 => 110 | 3 => 3 | 39 => 136 | 0 => 0 | 53 => 151 | 55 => 153 | 4 => 4 | 46 => 145 | 45 => 144 | 50 => 119 | 5 => 5 | 9 => 9 | 66 => 159 | 70 => 163 | 76 => 167 | 77 => 168 | n => n, fun | n => n⟩
theorem Tryz.sortU : Go.Proofs.SlLaysF0.n6 Tryz.prog Tryz.sortU_ren := {
  mixed := by kernel_rfl
  f6 := ⟨Tryz.f107.name, by decide, Tryz.func107.trans (congrArg some (by kernel_rfl))⟩
  f14 := ⟨Tryz.f116.name, by decide, Tryz.func116.trans (congrArg some (by kernel_rfl))⟩
  f15 := Tryz.func117.trans (congrArg some (by kernel_rfl))
  f20 := ⟨Tryz.f119.name, by decide, Tryz.func119.trans (congrArg some (by kernel_rfl))⟩
  f21 := ⟨Tryz.f120.name, by decide, Tryz.func120.trans (congrArg some (by kernel_rfl))⟩
  f22 := ⟨Tryz.f121.name, by decide, Tryz.func121.trans (congrArg some (by kernel_rfl))⟩
  f23 := ⟨Tryz.f122.name, by decide, Tryz.func122.trans (congrArg some (by kernel_rfl))⟩
  f24 := ⟨Tryz.f123.name, by decide, Tryz.func123.trans (congrArg some (by kernel_rfl))⟩
  f25 := ⟨Tryz.f124.name, by decide, Tryz.func124.trans (congrArg some (by kernel_rfl))⟩
  f26 := ⟨Tryz.f125.name, by decide, Tryz.func125.trans (congrArg some (by kernel_rfl))⟩
  f27 := ⟨Tryz.f126.name, by decide, Tryz.func126.trans (congrArg some (by kernel_rfl))⟩
  f28 := Tryz.func127.trans (congrArg some (by kernel_rfl))
  f29 := Tryz.func128.trans (congrArg some (by kernel_rfl))
  f46 := ⟨Tryz.f137.name, by decide, Tryz.func137.trans (congrArg some (by kernel_rfl))⟩
  f47 := Tryz.func138.trans (congrArg some (by kernel_rfl))
  f48 := Tryz.func139.trans (congrArg some (by kernel_rfl))
  f49 := ⟨Tryz.f140.name, by decide, Tryz.func140.trans (congrArg some (by kernel_rfl))⟩
  f50 := ⟨Tryz.f141.name, by decide, Tryz.func141.trans (congrArg some (by kernel_rfl))⟩
  f57 := ⟨Tryz.f145.name, by decide, Tryz.func145.trans (congrArg some (by kernel_rfl))⟩
  t0 := Tryz.underlying0
  a0 := Tryz.isAgg0
  z0 := Tryz.sizeOf0
  v0 := Tryz.zeroValue0
  t3 := Tryz.underlying3
  a3 := Tryz.isAgg3
  z3 := Tryz.sizeOf3
  v3 := Tryz.zeroValue3
  t4 := Tryz.underlying4
  a4 := Tryz.isAgg4
  z4 := Tryz.sizeOf4
  v4 := Tryz.zeroValue4
  t5 := Tryz.underlying5
  a5 := Tryz.isAgg5
  z5 := Tryz.sizeOf5
  v5 := Tryz.zeroValue5
  t9 := Tryz.underlying9
  a9 := Tryz.isAgg9
  z9 := Tryz.sizeOf9
  v9 := Tryz.zeroValue9
  t22 := Tryz.underlying22
  a22 := Tryz.isAgg22
  z22 := Tryz.sizeOf22
  v22 := Tryz.zeroValue22
  t25 := Tryz.underlying110
  a25 := Tryz.isAgg110
  z25 := Tryz.sizeOf110
  v25 := Tryz.zeroValue110
  t39 := Tryz.underlying136
  a39 := Tryz.isAgg136
  z39 := Tryz.sizeOf136
  v39 := Tryz.zeroValue136
  t45 := Tryz.underlying144
  a45 := Tryz.isAgg144
  z45 := Tryz.sizeOf144
  v45 := Tryz.zeroValue144
  t46 := Tryz.underlying145
  a46 := Tryz.isAgg145
  z46 := Tryz.sizeOf145
  v46 := Tryz.zeroValue145
  t50 := Tryz.underlying119
  a50 := Tryz.isAgg119
  z50 := Tryz.sizeOf119
  v50 := Tryz.zeroValue119
  t53 := Tryz.underlying151
  a53 := Tryz.isAgg151
  z53 := Tryz.sizeOf151
  v53 := Tryz.zeroValue151
  t55 := Tryz.underlying153
  a55 := Tryz.isAgg153
  z55 := Tryz.sizeOf153
  v55 := Tryz.zeroValue153
  t66 := Tryz.underlying159
  a66 := Tryz.isAgg159
  z66 := Tryz.sizeOf159
  v66 := Tryz.zeroValue159
  t70 := Tryz.underlying163
  a70 := Tryz.isAgg163
  z70 := Tryz.sizeOf163
  v70 := Tryz.zeroValue163
  t76 := Tryz.underlying167
  a76 := Tryz.isAgg167
  z76 := Tryz.sizeOf167
  v76 := Tryz.zeroValue167
  t77 := Tryz.underlying168
  a77 := Tryz.isAgg168
  z77 := Tryz.sizeOf168
  v77 := Tryz.zeroValue168 }
end Go.Proofs

/- The library's sort, of updates in a row of one's own. -/
namespace Go.Proofs.YtmfaodapofamfaaGreat
open Go.Shelf Go.RowKit Go.Lib Go.Sort
abbrev UGRow (w : World) (B g cap : Nat) (q : List Uv) : Prop := w.ownsRow B 30 5 (.slice (some ⟨g, 0, none⟩) q.length cap) q.length (q.map uvCells).flatten
abbrev UvS (w : World) := { x : Uv // UvOk w x }
theorem uvOk_nil (w : World) : UvOk w uvZ := ⟨⟨none, 0, rfl, ⟨Nat.le_refl _, fun _ => rfl⟩, .inl rfl⟩, ⟨none, 0, rfl, ⟨Nat.le_refl _, fun _ => rfl⟩, .inl rfl⟩, ⟨none, 0, rfl, ⟨Nat.le_refl _, fun _ => rfl⟩, .inl rfl⟩, fun f hf => absurd hf (by simp [uvZ]), by simp [uvZ]⟩
theorem uc_at (q : List Uv) (t : Nat) (ht : t < q.length * 5) : ∃ x, q[t / 5]? = some x ∧ (q.map uvCells).flatten[t]? = (uvCells x)[t % 5]? := by
  have h1 : t / 5 < q.length := by omega
  have e : t = t / 5 * 5 + t % 5 := by omega
  refine ⟨uvD q (t / 5), ?_, ?_⟩
  · simp [uvD, List.getD_eq_getElem?_getD, h1]
  · have h := flat5_get q (t / 5) (t % 5) h1 (by omega)
    rw [← e] at h
    exact h
theorem uv_lift {w : World} : ∀ {q : List Uv}, (∀ p, p ∈ q → UvOk w p) → ∃ Q : List (UvS w), Q.map (·.1) = q := by
  intro q
  induction q with
  | nil => intro _; exact ⟨[], rfl⟩
  | cons a r ih =>
    intro h
    obtain ⟨Q, hQ⟩ := ih (fun p hp => h p (by simp [hp]))
    exact ⟨⟨a, h a (by simp)⟩ :: Q, by simp [hQ]⟩
abbrev uvInh (w : World) : Inhabited (UvS w) := ⟨⟨_, uvOk_nil w⟩⟩
def uvEnc {w : World} (x : UvS w) : List Value := uvCells x.1
def uvCmp {w : World} (x y : UvS w) : Int := Dg.uOrd x.1.u y.1.u
theorem uv_swo (w : World) : SWO (ltOf (uvCmp (w := w))) where
  irrefl x := by
    unfold ltOf uvCmp
    simp only [decide_eq_false_iff_not]
    intro h
    exact Dg.uOrd_ne h rfl
  trans x y z h1 h2 := by
    unfold ltOf uvCmp at *
    simp only [decide_eq_true_eq] at *
    exact Dg.uOrd_trans h1 h2
  ntrans x y z h1 h2 := by
    unfold ltOf uvCmp at *
    simp only [decide_eq_false_iff_not] at *
    intro h3
    rcases Classical.em (x.1.u.id = y.1.u.id) with e | e
    · unfold Dg.uOrd at *
      rw [e] at h3
      exact h2 h3
    · exact h2 (Dg.uOrd_trans (Dg.uOrd_total h1 e) h3)
theorem uv_oneS {w : World} (x : UvS w) : ∀ v ∈ uvEnc x, v.oneCell' = true := by
  intro v hv
  obtain ⟨a1, n1, d1, a2, n2, d2, a3, n3, d3, e1, e2, e3⟩ := x.2.forms
  simp only [uvEnc, uvCells, e1, e2, e3, List.mem_cons, List.not_mem_nil, or_false] at hv
  rcases hv with rfl | rfl | rfl | rfl | rfl <;> rfl
theorem cmp_laysU {w0 w : World} {g : Nat} (size : Nat) : @CmpLays (UvS w0) (uvInh w0) Tryz.prog 76 #[] uvEnc 5 uvCmp g 0 size w := by
  letI : Inhabited (UvS w0) := uvInh w0
  intro m os dk _ x y
  exact order_any x.1 y.1 _ w0 x.2 y.2
theorem holds_rowU {w0 w : World} {B g cap : Nat} {Q : List (UvS w0)} (h : UGRow w B g cap (Q.map (·.1))) : @HoldsK (UvS w0) (uvInh w0) uvEnc 5 w g 0 Q.toArray := by
  letI : Inhabited (UvS w0) := uvInh w0
  intro t ht
  have ht2 : t < Q.length * 5 := by simpa using ht
  refine ⟨?_, by rw [Nat.zero_add]; exact World.ownsRow.frozenAt h t⟩
  rw [Nat.zero_add]
  have hc := World.ownsRow.cellAt h t (by rw [List.length_map]; exact ht2)
  obtain ⟨x, hx, hx2⟩ := uc_at (Q.map (·.1)) t (by rw [List.length_map]; exact ht2)
  rw [hc, hx2]
  have h1 : t / 5 < Q.length := by omega
  rw [List.getElem?_map, List.getElem?_eq_getElem h1] at hx
  have hx3 : Q[t / 5].1 = x := by simpa using hx
  show (uvCells x)[t % 5]? = some ((flatK uvEnc 5 Q.toArray)[t]!)
  rw [get_flatK uvEnc 5 Q.toArray t (by simpa using ht2)]
  have h2 : (Q.toArray)[t / 5]! = Q[t / 5] := by simp [h1]
  rw [h2]
  show _ = some ((uvCells Q[t / 5].1)[t % 5]!)
  rw [hx3]
  have h3 : t % 5 < (uvCells x).length := by show t % 5 < 5; omega
  rw [List.getElem?_eq_getElem h3, getElem!_pos (uvCells x) (t % 5) h3]
theorem row_sortedU {w0 w : World} {B g cap n : Nat} {Q : List (UvS w0)} {d : Array (UvS w0)} {os : Array Obj} (h : UGRow w B g cap (Q.map (·.1))) (hd : d.size = Q.length) :
    UGRow (@sortWorldK (UvS w0) (uvInh w0) uvEnc 5 w g 0 n d os) B g cap (d.toList.map (·.1)) := by
  letI : Inhabited (UvS w0) := uvInh w0
  have hg := World.ownsRow.lt h g rfl
  obtain ⟨h1, h2⟩ := h
  rcases h2 with ⟨h2, _⟩ | ⟨g', cap', cur, hv, hb, hh, hc1, hc2, hc3, hc4⟩
  · cases h2
  · injection hv with e1 _ e3
    injection e1 with e1
    injection e1 with e1
    subst e1 e3
    have hl : (d.toList.map (·.1)).length = Q.length := by rw [List.length_map, Array.length_toList, hd]
    refine ⟨ups_flat _, .inr ⟨g, cap, putCells id 0 (flatK uvEnc 5 d) cur, rfl, hb, ?_, by rw [hl]; simpa using hc1, hc2, by simpa [putCells] using hc3, ?_⟩⟩
    · unfold sortWorldK putRowK putRow mapBlock Sort.ahead grow
      show ((w.heap.modify g _) ++ os)[g]? = _
      rw [Array.getElem?_append_left (by simpa using hg.2), Array.getElem?_modify, if_pos rfl, hh]
      rfl
    · apply List.ext_getElem?
      intro t
      rw [List.getElem?_take, Array.getElem?_toList, hl]
      by_cases ht : t < Q.length * 5
      · rw [if_pos ht]
        have hq : (Q.map (·.1)).length = Q.length := List.length_map _
        have hcs : t < cur.size := by
          rw [hc3]
          have : Q.length ≤ cap := by simpa using hc1
          omega
        obtain ⟨x, hx, hx2⟩ := uc_at (d.toList.map (·.1)) t (by rw [hl]; exact ht)
        rw [hx2]
        unfold putCells
        rw [Array.getElem?_mapIdx, Array.getElem?_eq_getElem hcs, Option.map_some, if_pos (by rw [size_flatK, hd]; omega)]
        have h4 : t / 5 < d.size := by omega
        rw [List.getElem?_map, Array.getElem?_toList, Array.getElem?_eq_getElem h4] at hx
        have hx3 : d[t / 5].1 = x := by simpa using hx
        rw [Nat.sub_zero, get_flatK uvEnc 5 d t (by rw [hd]; exact ht), getElem!_pos d _ h4]
        show some ((uvCells d[t / 5].1)[t % 5]!) = _
        rw [hx3]
        have h3 : t % 5 < (uvCells x).length := by show t % 5 < 5; omega
        rw [List.getElem?_eq_getElem h3, getElem!_pos (uvCells x) (t % 5) h3]
      · rw [if_neg ht, List.getElem?_eq_none]
        rw [ups_flat, hl]
        omega
theorem sortU_any (w0 w : World) (B g cap : Nat) (q : List Uv) (hown : UGRow w B g cap q) (hq : ∀ p, p ∈ q → UvOk w0 p) (hn : q.length < 4611686018427387904) :
    Calls Tryz.prog 107 #[.slice (some ⟨g, 0, none⟩) q.length cap, .func (.func 76) #[] #[]] w fun e w' => e = .returned (.tuple #[]) ∧ ∃ q', q'.Perm q ∧ (ups q').Pairwise (fun a b => ¬ Dg.uOrd b a < 0) ∧ UGRow w' B g cap q' ∧ w.grownBy w' (some g) := by
  obtain ⟨Q, rfl⟩ := uv_lift hq
  letI : Inhabited (UvS w0) := uvInh w0
  have eg : ∀ args w, (callFunc 76 args).run Tryz.prog w = .ok (.enter 76 args) w := enters_of Tryz.func76 (by kernel_rfl) rfl
  have hsz : Q.toArray.size = Q.length := by simp
  have hcon := AnyQ.slices_SortFunc Tryz.sortU 5 Tryz.isAgg30 Tryz.sizeOf30 uvEnc (fun _ => rfl) uv_oneS uvCmp (uv_swo w0) 76 #[] g 0 cap Q.toArray w eg (cmp_laysU _) (holds_rowU hown) (World.ownsRow.lt hown g rfl).2 (by rw [hsz]; simpa using hn)
  rw [hsz] at hcon
  change Calls Tryz.prog 107 _ _ _ at hcon
  rw [List.length_map]
  refine hcon.mono ?_
  rintro e w' ⟨rfl, d', n, os, hp, hs, rfl⟩
  obtain ⟨p1, p2, p3⟩ := hp
  have hds : d'.size = Q.length := by rw [p1]; simp
  have e1 : d'.extract 0 Q.length = d' := by rw [← hds]; simp
  have e2 : Q.toArray.extract 0 Q.length = Q.toArray := by simp
  rw [e1, e2] at p3
  refine ⟨rfl, d'.toList.map (·.1), ?_, ?_, row_sortedU hown hds, rfl, rfl, rfl, sortWorldK_size _ _ _ _ _ _ _, fun k hk hne => sortWorldK_block _ _ _ _ _ _ _ k hk (fun e => hne (by rw [e]))⟩
  · exact p3.map _
  · rw [List.pairwise_iff_getElem]
    intro i j hi hj hij
    have hi2 : i < d'.size := by simpa [ups] using hi
    have hj2 : j < d'.size := by simpa [ups] using hj
    have := hs i j (Nat.zero_le _) hij (by omega)
    rw [getElem!_pos d' j hj2, getElem!_pos d' i hi2] at this
    unfold ltOf uvCmp at this
    simp only [decide_eq_false_iff_not] at this
    simpa [ups] using this
end Go.Proofs.YtmfaodapofamfaaGreat


namespace Go.Proofs.YtmfaodapofamfaaGreat
open Go.RowKit
/-- Facts that can be read, with the values of their numbers' lists. -/
theorem facts_fv {w : World} {ao : Option Addr} {l : List Rl.Fc} (h : FactsAt w ao l) (hf : ∀ f, f ∈ l → FFit f) :
    ∃ q : List Fv, q.map (·.1) = l ∧ (∀ p, p ∈ q → FvOk w p) ∧ (l = [] ∨ ∃ b off, ao = some ⟨b, off, none⟩ ∧ ∀ j u, ((q.map fcCells).flatten)[j]? = some u → w.cell? ⟨b, off + j, none⟩ = some u) := by
  rcases h with rfl | ⟨b, off, rfl, hc⟩
  · exact ⟨[], rfl, fun _ hp => absurd hp (by simp), .inl rfl⟩
  · have each : ∀ i, i < l.length → ∃ v, w.cell? ⟨b, off + i * 2 + 1, none⟩ = some v ∧ IntsV w v (Rl.factD l i).args := fun i hi => (hc i hi).2
    have hch : ∃ V : Nat → Value, ∀ i, i < l.length → w.cell? ⟨b, off + i * 2 + 1, none⟩ = some (V i) ∧ IntsV w (V i) (Rl.factD l i).args := by
      refine ⟨fun i => (w.cell? ⟨b, off + i * 2 + 1, none⟩).getD (.slice none 0 0), fun i hi => ?_⟩
      obtain ⟨v, h1, h2⟩ := each i hi
      simp only [h1, Option.getD_some]
      exact ⟨trivial, h2⟩
    obtain ⟨V, hV⟩ := hch
    refine ⟨(List.range l.length).map fun i => (Rl.factD l i, V i), ?_, ?_, .inr ⟨b, off, rfl, fun j u hj => ?_⟩⟩
    · apply List.ext_getElem?
      intro i
      rw [List.getElem?_map, List.getElem?_map]
      by_cases hi : i < l.length
      · rw [List.getElem?_range hi, factD_get l i hi]
        rfl
      · rw [List.getElem?_eq_none (by simpa using hi), List.getElem?_eq_none (by simpa using hi)]
        rfl
    · intro p hp
      obtain ⟨i, hi, rfl⟩ := List.mem_map.mp hp
      have hi : i < l.length := List.mem_range.mp hi
      exact ⟨(hV i hi).2, hf _ (factD_mem l i hi)⟩
    · have hjl : j < ((List.range l.length).map fun i => (Rl.factD l i, V i)).length * 2 := by
        rcases Nat.lt_or_ge j (((List.range l.length).map fun i => (Rl.factD l i, V i)).length * 2) with h2 | h2
        · exact h2
        · rw [List.getElem?_eq_none (by rw [fc_length]; exact h2)] at hj; cases hj
      obtain ⟨x, hx, hx2⟩ := fc_at _ j hjl
      rw [hx2] at hj
      have hl2 : j / 2 < l.length := by
        have h3 : ((List.range l.length).map fun i => (Rl.factD l i, V i)).length = l.length := by simp
        rw [h3] at hjl
        omega
      rw [List.getElem?_map, List.getElem?_range hl2] at hx
      have hxe : (Rl.factD l (j / 2), V (j / 2)) = x := by simpa using hx
      subst hxe
      rcases Nat.mod_two_eq_zero_or_one j with h0 | h0
      · rw [h0] at hj
        have hu : Value.int .i64 (Rl.factD l (j / 2)).pred = u := by simpa [fcCells] using hj
        rw [← hu, ← (hc (j / 2) hl2).1]
        congr 2
        omega
      · rw [h0] at hj
        have hu : V (j / 2) = u := by simpa [fcCells] using hj
        rw [← hu, ← (hV (j / 2) hl2).1]
        congr 2
        omega

end Go.Proofs.YtmfaodapofamfaaGreat

/- Package update: Copy. -/
namespace Go.Proofs.YtmfaodapofamfaaGreat
open Go.RowKit

/-- An update of one's own: all its lists lie at block B or behind. -/
structure UvP (B : Nat) (w : World) (x : Uv) : Prop where
  p : w.ownsRow B 26 2 x.p x.u.ps.length (x.u.ps.map idCells).flatten
  s : FactsP B w x.s x.u.says
  t : w.ownsRow B 26 2 x.t x.u.ts.length (x.u.ts.map idCells).flatten
  f : ∀ f, f ∈ x.u.says → FFit f
  l : x.u.ps.length ≤ 9223372036854775807 ∧ x.u.says.length ≤ 9223372036854775807 ∧ x.u.ts.length ≤ 9223372036854775807
theorem ids_one (l : List Wr.Id) : ∀ u, u ∈ (l.map idCells).flatten → u.oneCell' = true := by
  intro u hu
  obtain ⟨c, hc, hu⟩ := List.mem_flatten.mp hu
  obtain ⟨p, hp, rfl⟩ := List.mem_map.mp hc
  simp only [idCells, List.mem_cons, List.not_mem_nil, or_false] at hu
  rcases hu with rfl | rfl <;> rfl
theorem grown_set (w : World) (b o : Nat) (v : Value) : w.grownBy (w.setCell ⟨b, o, none⟩ v) (some b) := ⟨rfl, rfl, rfl, by simp [World.setCell], fun k _ hk => Below.heap_setCell _ _ _ k (fun e => hk (by rw [e]))⟩
theorem factsP_below {B : Nat} {w w' : World} {v : Value} {s : List Rl.Fc} (h : FactsP B w v s) (hb : Below w.heap.size w w') : FactsP B w' v s := by
  obtain ⟨q, h1, h2, h3⟩ := h
  exact ⟨q, h1, ownsRow_below h2 hb, fun p hp => ownsRow_below (h3 p hp) hb⟩
theorem factsP_grown {B Z : Nat} {w w' : World} {v : Value} {s : List Rl.Fc} (h : FactsP B w v s) (hg : w.grownBy w' (some Z)) (hz : Z < B) : FactsP B w' v s := by
  obtain ⟨q, h1, h2, h3⟩ := h
  exact ⟨q, h1, h2.kept hg (.inr (fun e => by have := (h2.lt _ e).1; omega)), fun p hp => (h3 p hp).kept hg (.inr (fun e => by have := ((h3 p hp).lt _ e).1; omega))⟩
theorem factsP_le {B B' : Nat} {w : World} {v : Value} {s : List Rl.Fc} (h : FactsP B w v s) (hb : B' ≤ B) : FactsP B' w v s := by
  obtain ⟨q, h1, h2, h3⟩ := h
  exact ⟨q, h1, rl_own_le h2 hb, fun p hp => rl_own_le (h3 p hp) hb⟩
theorem factsP_V {B : Nat} {w : World} {v : Value} {s : List Rl.Fc} (h : FactsP B w v s) (hf : ∀ f, f ∈ s → FFit f) : FactsV w v s := by
  obtain ⟨q, h1, h2, h3⟩ := h
  have := own_factsV (w := w) h2 (fun p hp => ⟨own_ints (h3 p hp), hf _ (h1 ▸ List.mem_map_of_mem hp)⟩) (Below.refl _ _)
  rw [h1] at this
  exact this
theorem UvP.ok {B : Nat} {w : World} {x : Uv} (h : UvP B w x) : UvOk w x := ⟨own_ids h.p, factsP_V h.s h.f, own_ids h.t, h.f, h.l⟩
theorem UvP.below {B : Nat} {w w' : World} {x : Uv} (h : UvP B w x) (hb : Below w.heap.size w w') : UvP B w' x := ⟨ownsRow_below h.p hb, factsP_below h.s hb, ownsRow_below h.t hb, h.f, h.l⟩
theorem UvP.grown {B Z : Nat} {w w' : World} {x : Uv} (h : UvP B w x) (hg : w.grownBy w' (some Z)) (hz : Z < B) : UvP B w' x :=
  ⟨h.p.kept hg (.inr (fun e => by have := (h.p.lt _ e).1; omega)), factsP_grown h.s hg hz, h.t.kept hg (.inr (fun e => by have := (h.t.lt _ e).1; omega)), h.f, h.l⟩
theorem UvP.le {B B' : Nat} {w : World} {x : Uv} (h : UvP B w x) (hb : B' ≤ B) : UvP B' w x := by
  obtain ⟨q, h1, h2, h3⟩ := h.s
  exact ⟨rl_own_le h.p hb, ⟨q, h1, rl_own_le h2 hb, fun p hp => rl_own_le (h3 p hp) hb⟩, rl_own_le h.t hb, h.f, h.l⟩
def copyT (X B3 : Nat) (ua un : Int) (a1 : Option Addr) (d1 : Nat) (sa : Option Addr) (ns sc : Nat) (a3 : Option Addr) (d3 : Nat) (ps ts : List Wr.Id) (tQ : Nat) (vQ : Value) (WQ : World) : Prop :=
  match tQ with
  | 24 => vQ = .pointer (some ⟨X, 0, none⟩)
  | 25 => vQ = .agg #[.int .i64 ua, .int .i64 un]
  | 26 => vQ = .pointer (some ⟨X, 2, none⟩)
  | 27 => vQ = .slice a1 ps.length d1
  | 28 => WQ.ownsRow B3 26 2 vQ ps.length (ps.map idCells).flatten
  | 29 => vQ = .slice sa ns sc
  | 30 => vQ = .pointer (some ⟨X, 4, none⟩)
  | 31 => vQ = .slice a3 ts.length d3
  | 32 => WQ.ownsRow B3 26 2 vQ ts.length (ts.map idCells).flatten
  | 33 => ∃ v1 v2, vQ = .agg #[.int .i64 ua, .int .i64 un, v1, .slice sa ns sc, v2] ∧ WQ.ownsRow B3 26 2 v1 ps.length (ps.map idCells).flatten ∧ WQ.ownsRow B3 26 2 v2 ts.length (ts.map idCells).flatten
  | _ => True
theorem copyT_mono (X B3 : Nat) (ua un : Int) (a1 : Option Addr) (d1 : Nat) (sa : Option Addr) (ns sc : Nat) (a3 : Option Addr) (d3 : Nat) (ps ts : List Wr.Id) (tQ : Nat) (vQ : Value) (W W' : World) (hb : Below W.heap.size W W') (h : copyT X B3 ua un a1 d1 sa ns sc a3 d3 ps ts tQ vQ W) : copyT X B3 ua un a1 d1 sa ns sc a3 d3 ps ts tQ vQ W' := by
  revert h
  unfold copyT
  split <;> (intro h; first | exact h | exact (ownsRow_below h hb) | exact (h.elim fun v1 h => h.elim fun v2 h => ⟨v1, v2, h.1, ownsRow_below h.2.1 hb, ownsRow_below h.2.2 hb⟩))

set_option maxRecDepth 100000 in
set_option maxHeartbeats 4000000 in
theorem Copy_any (x : Uv) (w : World) (hx : UvOk w x) (hl : x.u.ps.length ≤ 6 ∧ x.u.says.length ≤ 6 ∧ x.u.ts.length ≤ 6) (hf : ∀ f, f ∈ x.u.says → f.args.length ≤ 3) :
    Calls Tryz.prog 59 #[uvVal x] w fun e w' => ∃ x' : Uv, e = .returned (uvVal x') ∧ x'.u = x.u ∧ UvP w.heap.size w' x' ∧ Below w.heap.size w w' := by
  have HX0 : Hid (UvOk w x) := hx
  have HFA : Hid (∀ f, f ∈ x.u.says → f.args.length ≤ 3) := hf
  have HL : Hid (x.u.ps.length ≤ 9223372036854775807 ∧ x.u.says.length ≤ 9223372036854775807 ∧ x.u.ts.length ≤ 9223372036854775807) := hx.l
  have HFF : Hid (∀ f, f ∈ x.u.says → FFit f) := hx.f
  obtain ⟨a1, d1, e1, _⟩ := hx.p
  obtain ⟨a2, d2, e2, hc2, hA2⟩ := hx.s
  obtain ⟨a3, d3, e3, _⟩ := hx.t
  obtain ⟨⟨⟨ua, un⟩, ps, says, ts⟩, vp, vs, vt⟩ := x
  dsimp only at *
  subst e1 e2 e3
  obtain ⟨q, hq1, hq2, hq3⟩ := facts_fv hA2 hx.f
  have HQ1 : Hid (q.map (·.1) = says) := hq1
  have HQ2 : Hid (∀ p, p ∈ q → FvOk w p) := hq2
  have HQ3 : Hid (CellsAt w a2 (q.map fcCells).flatten) := by
    rcases hq3 with h | h
    · left
      have : q = [] := List.eq_nil_of_length_eq_zero (by have := congrArg List.length hq1; rw [List.length_map, h] at this; exact this)
      rw [this]; rfl
    · exact .inr h
  have HQL : Hid (q.length = says.length) := by have := congrArg List.length hq1; rw [List.length_map] at this; exact this
  have HC2 : Hid (a2 = none → d2 = 0) := hc2.2
  have HC3 : Hid (says.length ≤ d2) := hc2.1
  clear hx hf hA2 hc2 hq1 hq2 hq3
  have HB1 : Hid (Below w.heap.size w ((w.alloc (.cells #[.int .i64 ua, .int .i64 un, .slice a1 ps.length d1, .slice a2 says.length d2, .slice a3 ts.length d3] 30)).alloc (.cells #[.int .i64 0, .int .i64 0, .slice none 0 0, .slice none 0 0, .slice none 0 0] 30))) := ((Below.refl _ _).alloc (Nat.le_refl _) _).alloc (by simp) _
  have hX1 : ((w.alloc (.cells #[.int .i64 ua, .int .i64 un, .slice a1 ps.length d1, .slice a2 says.length d2, .slice a3 ts.length d3] 30)).alloc (.cells #[.int .i64 0, .int .i64 0, .slice none 0 0, .slice none 0 0, .slice none 0 0] 30)).heap[w.heap.size]? = some (.cells #[.int .i64 ua, .int .i64 un, .slice a1 ps.length d1, .slice a2 says.length d2, .slice a3 ts.length d3] 30) := by
    rw [Lib.alloc_old _ _ _ (by simp)]
    exact rl_new w _
  have hZ1 : ((w.alloc (.cells #[.int .i64 ua, .int .i64 un, .slice a1 ps.length d1, .slice a2 says.length d2, .slice a3 ts.length d3] 30)).alloc (.cells #[.int .i64 0, .int .i64 0, .slice none 0 0, .slice none 0 0, .slice none 0 0] 30)).heap[w.heap.size + 1]? = some (.cells #[.int .i64 0, .int .i64 0, .slice none 0 0, .slice none 0 0, .slice none 0 0] 30) := by
    have := rl_new (w.alloc (.cells #[.int .i64 ua, .int .i64 un, .slice a1 ps.length d1, .slice a2 says.length d2, .slice a3 ts.length d3] 30)) (.cells #[.int .i64 0, .int .i64 0, .slice none 0 0, .slice none 0 0, .slice none 0 0] 30)
    rw [World.size_alloc] at this
    exact this
  have HX1 : Hid (((w.alloc (.cells #[.int .i64 ua, .int .i64 un, .slice a1 ps.length d1, .slice a2 says.length d2, .slice a3 ts.length d3] 30)).alloc (.cells #[.int .i64 0, .int .i64 0, .slice none 0 0, .slice none 0 0, .slice none 0 0] 30)).heap[w.heap.size]? = some (.cells #[.int .i64 ua, .int .i64 un, .slice a1 ps.length d1, .slice a2 says.length d2, .slice a3 ts.length d3] 30)) := hX1
  have HZ1 : Hid (((w.alloc (.cells #[.int .i64 ua, .int .i64 un, .slice a1 ps.length d1, .slice a2 says.length d2, .slice a3 ts.length d3] 30)).alloc (.cells #[.int .i64 0, .int .i64 0, .slice none 0 0, .slice none 0 0, .slice none 0 0] 30)).heap[w.heap.size + 1]? = some (.cells #[.int .i64 0, .int .i64 0, .slice none 0 0, .slice none 0 0, .slice none 0 0] 30)) := hZ1
  have HSZ : Hid (((w.alloc (.cells #[.int .i64 ua, .int .i64 un, .slice a1 ps.length d1, .slice a2 says.length d2, .slice a3 ts.length d3] 30)).alloc (.cells #[.int .i64 0, .int .i64 0, .slice none 0 0, .slice none 0 0, .slice none 0 0] 30)).heap.size = w.heap.size + 2) := by show _ = _; simp
  clear hX1 hZ1
  go_enter Tryz.func59, Tryz.ntmps59
  go_upto_region 1 with fail
  generalize ((w.alloc (.cells #[.int .i64 ua, .int .i64 un, .slice a1 ps.length d1, .slice a2 says.length d2, .slice a3 ts.length d3] 30)).alloc (.cells #[.int .i64 0, .int .i64 0, .slice none 0 0, .slice none 0 0, .slice none 0 0] 30)) = w1 at *
  have c3 : w1.cell? ⟨w.heap.size, 3, none⟩ = some (.slice a2 says.length d2) := by rw [Lib.cell_of_heap HX1.out]; rfl
  have HCF : Hid (Calls Tryz.prog 94 #[.slice a2 says.length d2] w1 fun e w' => ∃ v', e = .returned v' ∧ w'.ownsRow w1.heap.size 84 2 v' says.length (q.map fcCells).flatten ∧ Below w1.heap.size w1 w') :=
    cloneF_any says.length _ a2 d2 w1 (by
      rcases HQ3.out with h | ⟨b, off, h, hc⟩
      · exact .inl h
      · exact .inr ⟨b, off, h, fun j u hj => cell_below HB1.out (hc j u hj)⟩) (by rw [fc_length, HQL.out]) (fun u hu => by
      obtain ⟨c, hc, hu⟩ := List.mem_flatten.mp hu
      obtain ⟨p, hp, rfl⟩ := List.mem_map.mp hc
      obtain ⟨a9, c9, hp9⟩ := fv_slice (HQ2.out p hp)
      simp [fcCells, hp9] at hu
      rcases hu with rfl | rfl <;> rfl) (by omega) (fun h => by have h1 := HC2.out h; have h2 := HC3.out; omega)
  go_upto_region 2 with (go_at_call 94; refine Calls.mono HCF.out ?_; rintro e w2 ⟨v2, rfl, hrow2, hb2⟩; obtain ⟨sa, sc, rfl⟩ := own_slice hrow2)
  clear c3 HCF HQ3
  go_wp2_with fail
  go_loopw [10] (fun i wr => ∃ (m : Nat) (R : List Fv), m ≤ says.length ∧ i = .int .i64 m ∧ R.length = says.length ∧ wr.ownsRow w1.heap.size 84 2 (.slice sa says.length sc) says.length (R.map fcCells).flatten ∧ R.map (·.1) = q.map (·.1) ∧ (∀ j, m ≤ j → R[j]? = q[j]?) ∧ (∀ j p, j < m → R[j]? = some p → wr.ownsRow w1.heap.size 3 1 p.2 p.1.args.length (p.1.args.map (Value.int .i64))) ∧ Below w1.heap.size w1 wr) (fun i _ => says.length - (intOf i).toNat)
  case atStart => exact ⟨0, q, Nat.zero_le _, rfl, HQL.out, hrow2, rfl, fun _ _ => rfl, fun j p hj => absurd hj (by omega), hb2⟩
  case round =>
  clear hrow2 hb2
  obtain ⟨m, R, hm, rfl, hRl, hrow, hmap, hrest, hargs, hb⟩ := hrel
  have HRL : Hid (R.length = says.length) := hRl
  have HMAP : Hid (R.map (·.1) = q.map (·.1)) := hmap
  have HREST : Hid (∀ j, m ≤ j → R[j]? = q[j]?) := hrest
  have HARGS : Hid (∀ j p, j < m → R[j]? = some p → wr.ownsRow w1.heap.size 3 1 p.2 p.1.args.length (p.1.args.map (Value.int .i64))) := hargs
  clear hmap hrest hargs hRl
  by_cases hlt : m < says.length
  · obtain ⟨x, hx, hxm⟩ : ∃ x, q[m]? = some x ∧ x ∈ q := ⟨q[m]'(by rw [HQL.out]; exact hlt), List.getElem?_eq_getElem _, List.getElem_mem _⟩
    have hRx : R[m]? = some x := (HREST.out m (Nat.le_refl _)).trans hx
    obtain ⟨g, rfl⟩ : ∃ g, sa = some ⟨g, 0, none⟩ := by
      rcases ownsRow_forms9 hrow with ⟨_, h0⟩ | ⟨g, c, hv⟩
      · omega
      · injection hv with hv
        exact ⟨g, hv⟩
    have hrow : FRow wr w1.heap.size g sc R := by
      unfold FRow
      rw [HRL.out]
      exact hrow
    obtain ⟨c0, c1⟩ := hrow.cell hRx
    obtain ⟨xa, xc, hxv⟩ := fv_slice (HQ2.out x hxm)
    have HIX : Hid (IntsV w x.2 x.1.args ∧ x.1.args.length ≤ 1048576) := ⟨(HQ2.out x hxm).1, Nat.le_trans (HFA.out _ (HQ1.out ▸ List.mem_map_of_mem hxm)) (by decide)⟩
    have HXV : Hid (x.2 = .slice xa x.1.args.length xc) := hxv
    rw [hxv] at c1
    have HRX : Hid (R[m]? = some x ∧ q[m]? = some x) := ⟨hRx, hx⟩
    clear hRx hx hxm hxv
    have f1 := hrow.frozen (m * 2 + 1)
    have HBW : Hid (Below w.heap.size w wr) := HB1.out.trans (hb.mono HB1.out.size)
    have HCI : Hid (Calls Tryz.prog 95 #[.slice xa x.1.args.length xc] wr fun e w' => ∃ v', e = .returned v' ∧ w'.ownsRow wr.heap.size 3 1 v' x.1.args.length (x.1.args.map (Value.int .i64)) ∧ Below wr.heap.size wr w') := cloneI_any x.1.args _ wr (by have h3 := intsV_below HIX.out.1 HBW.out; rw [HXV.out] at h3; exact h3) HIX.out.2
    go_wp2_with fail
    refine Calls.mono HCI.out ?_
    rintro e w7 ⟨v7, rfl, hown7, hb7⟩
    obtain ⟨a7, c7, rfl⟩ := own_slice hown7
    have hrow7 := hrow.keep (hb7.block g hrow.lt.2)
    have hput := hrow7.put1 HRX.out.1 (.slice a7 x.1.args.length c7)
    obtain ⟨d0, d1⟩ := hrow7.cell HRX.out.1
    rw [HXV.out] at d1
    have df1 := hrow7.frozen (m * 2 + 1)
    have hglt := hrow.lt
    have hb8 : Below w1.heap.size w1 (w7.setCell ⟨g, m * 2 + 1, none⟩ (.slice a7 x.1.args.length c7)) := (hb.trans (hb7.mono hb.size)).grown (grown_set _ _ _ _) (Nat.le_trans hb.size hb7.size) (fun k e => by cases e; omega)
    have HA2 : Hid (∀ j p, j < m + 1 → (R.set m (x.1, Value.slice a7 x.1.args.length c7))[j]? = some p → (w7.setCell ⟨g, m * 2 + 1, none⟩ (.slice a7 x.1.args.length c7)).ownsRow w1.heap.size 3 1 p.2 p.1.args.length (p.1.args.map (Value.int .i64))) := by
      intro j p hj hjp
      rw [List.getElem?_set] at hjp
      by_cases hjm : m = j
      · rw [if_pos hjm, if_pos (by rw [HRL.out]; omega)] at hjp
        obtain rfl : (x.1, Value.slice a7 x.1.args.length c7) = p := by simpa using hjp
        exact own3_set (rl_own_le hown7 hb.size) hrow7 _ _
      · rw [if_neg hjm] at hjp
        exact own3_set (ownsRow_below (HARGS.out j p (by omega) hjp) hb7) hrow7 _ _
    have HM2 : Hid ((R.set m (x.1, Value.slice a7 x.1.args.length c7)).map (·.1) = q.map (·.1)) := by
      show _ = _
      rw [List.map_set, HMAP.out]
      apply List.ext_getElem?
      intro t
      rw [List.getElem?_set]
      split
      · rename_i ht
        subst ht
        rw [if_pos (by rw [List.length_map, HQL.out]; exact hlt), List.getElem?_map, HRX.out.2]
        rfl
      · rfl
    have HR2 : Hid (∀ j, m + 1 ≤ j → (R.set m (x.1, Value.slice a7 x.1.args.length c7))[j]? = q[j]?) := fun j hj => by
      rw [List.getElem?_set, if_neg (by omega)]
      exact HREST.out j (by omega)
    have HPUT : Hid ((w7.setCell ⟨g, m * 2 + 1, none⟩ (.slice a7 x.1.args.length c7)).ownsRow w1.heap.size 84 2 (.slice (some ⟨g, 0, none⟩) says.length sc) says.length ((R.set m (x.1, Value.slice a7 x.1.args.length c7)).map fcCells).flatten) := by
      have h9 := hput
      unfold FRow at h9
      rw [List.length_set, HRL.out] at h9
      exact h9
    clear hrow hown7 hb7 hrow7 hb HARGS HMAP HREST c0 c1 f1 hput HCI
    go_wp2_with fail
    go_roundw
    case rel => exact ⟨m + 1, R.set m (x.1, Value.slice a7 x.1.args.length c7), hlt, by go_num, by rw [List.length_set]; exact HRL.out, HPUT.out, HM2.out, HR2.out, HA2.out, hb8⟩
    case measure => simp [intOf]; omega
  · have hdd : decide (m < says.length) = false := decide_eq_false hlt
    obtain rfl : m = says.length := by omega
    have HFP : Hid (FactsP w1.heap.size wr (.slice sa says.length sc) says) := ⟨R, HMAP.out.trans HQ1.out, by rw [HRL.out]; exact hrow, fun p hp => by
      obtain ⟨j, hj⟩ := List.mem_iff_getElem?.mp hp
      exact HARGS.out j p (by have := (List.getElem?_eq_some_iff.mp hj).1; rw [HRL.out] at this; exact this) hj⟩
    have HB : Hid (Below w.heap.size w wr) := HB1.out.trans (hb.mono HB1.out.size)
    have hsw : w.heap.size + 2 ≤ wr.heap.size := by have h1 := hb.size; have h2 := HSZ.out; omega
    have hs1 : w.heap.size + 2 ≤ w1.heap.size := by have h2 := HSZ.out; omega
    have HXC : Hid (∀ z, Below wr.heap.size wr z → z.cell? ⟨w.heap.size, 0, none⟩ = some (.int .i64 ua) ∧ z.cell? ⟨w.heap.size, 1, none⟩ = some (.int .i64 un) ∧ z.cell? ⟨w.heap.size, 2, none⟩ = some (.slice a1 ps.length d1) ∧ z.cell? ⟨w.heap.size, 3, none⟩ = some (.slice a2 says.length d2) ∧ z.cell? ⟨w.heap.size, 4, none⟩ = some (.slice a3 ts.length d3)) := fun z hz => by
      have h1 := hb.trans (hz.mono hb.size)
      have h2 := (h1.block _ (Array.getElem?_eq_some_iff.1 HX1.out).1).trans HX1.out
      exact ⟨by rw [Lib.cell_of_heap h2]; rfl, by rw [Lib.cell_of_heap h2]; rfl, by rw [Lib.cell_of_heap h2]; rfl, by rw [Lib.cell_of_heap h2]; rfl, by rw [Lib.cell_of_heap h2]; rfl⟩
    have HXZ : Hid (∀ z, Below wr.heap.size wr z → z.heap[w.heap.size + 1]? = some (.cells #[.int .i64 0, .int .i64 0, .slice none 0 0, .slice none 0 0, .slice none 0 0] 30)) := fun z hz => by
      have h1 := hb.trans (hz.mono hb.size)
      exact (h1.block _ (Array.getElem?_eq_some_iff.1 HZ1.out).1).trans HZ1.out
    have HP : Hid (∀ z, Below wr.heap.size wr z → Calls Tryz.prog 96 #[.slice a1 ps.length d1] z fun e w' => ∃ v', e = .returned v' ∧ w'.ownsRow wr.heap.size 26 2 v' ps.length (ps.map idCells).flatten ∧ Below z.heap.size z w') := fun z hz => by
      obtain ⟨_, _, e9, hc, hA⟩ := idsV_below HX0.out.p (HB.out.trans (hz.mono HB.out.size))
      cases e9
      refine (cloneD_any ps.length _ a1 d1 z (ids_cells hA) (ids_flat ps) (ids_one ps) (by omega) (fun h => by have h1 := hc.2 h; have h2 := hc.1; omega)).mono ?_
      rintro e w' ⟨v', h1, h2, h3⟩
      exact ⟨v', h1, rl_own_le h2 hz.size, h3⟩
    have HT : Hid (∀ z, Below wr.heap.size wr z → Calls Tryz.prog 96 #[.slice a3 ts.length d3] z fun e w' => ∃ v', e = .returned v' ∧ w'.ownsRow wr.heap.size 26 2 v' ts.length (ts.map idCells).flatten ∧ Below z.heap.size z w') := fun z hz => by
      obtain ⟨_, _, e9, hc, hA⟩ := idsV_below HX0.out.t (HB.out.trans (hz.mono HB.out.size))
      cases e9
      refine (cloneD_any ts.length _ a3 d3 z (ids_cells hA) (ids_flat ts) (ids_one ts) (by omega) (fun h => by have h1 := hc.2 h; have h2 := hc.1; omega)).mono ?_
      rintro e w' ⟨v', h1, h2, h3⟩
      exact ⟨v', h1, rl_own_le h2 hz.size, h3⟩
    clear HARGS HREST HMAP HQ1 HQ2 HX0 HX1 HZ1 HFA hrow hb HB1
    go_upto_region 7 with fail
    refine wp_region_tabL (copyT w.heap.size wr.heap.size ua un a1 d1 sa says.length sc a3 d3 ps ts) _ rfl (by kernel_rfl) (by kernel_rfl) (by kernel_rfl) (copyT_mono _ _ _ _ _ _ _ _ _ _ _ _ _) ?hop ?hlast
    case hop =>
      refine AllOps.cons (fun a y h => ?_) ?_
      · have e1 : a.eval (.tmp 1) = (.pointer (some ⟨w.heap.size, 0, none⟩) : Value) := h.old 1 (by kernel_rfl)
        refine opOk_val (v := .pointer (some ⟨w.heap.size, 0, none⟩)) (w' := y) (wanted_none rfl) ?_ (fun t ht => by cases ht; exact rfl) (Below.refl _ _)
        have ec : ∀ v, a.eval (.const v) = v := fun _ => rfl
        generalize a.eval = ev at *
        clear h
        go_simp
      refine AllOps.cons (fun a y h => ?_) ?_
      · have e24 : a.eval (.tmp 24) = (.pointer (some ⟨w.heap.size, 0, none⟩) : Value) := h.of 24 (by kernel_rfl)
        obtain ⟨c0, c1, c2, c3, c4⟩ := HXC.out y h.below
        refine opOk_val (v := .agg #[.int .i64 ua, .int .i64 un]) (w' := y) (wanted_none rfl) ?_ (fun t ht => by cases ht; exact rfl) (Below.refl _ _)
        have ec : ∀ v, a.eval (.const v) = v := fun _ => rfl
        generalize a.eval = ev at *
        clear h
        go_simp
      refine AllOps.cons (fun a y h => ?_) ?_
      · have e1 : a.eval (.tmp 1) = (.pointer (some ⟨w.heap.size, 0, none⟩) : Value) := h.old 1 (by kernel_rfl)
        refine opOk_val (v := .pointer (some ⟨w.heap.size, 2, none⟩)) (w' := y) (wanted_none rfl) ?_ (fun t ht => by cases ht; exact rfl) (Below.refl _ _)
        have ec : ∀ v, a.eval (.const v) = v := fun _ => rfl
        generalize a.eval = ev at *
        clear h
        go_simp
      refine AllOps.cons (fun a y h => ?_) ?_
      · have e26 : a.eval (.tmp 26) = (.pointer (some ⟨w.heap.size, 2, none⟩) : Value) := h.of 26 (by kernel_rfl)
        obtain ⟨c0, c1, c2, c3, c4⟩ := HXC.out y h.below
        refine opOk_val (v := .slice a1 ps.length d1) (w' := y) (wanted_none rfl) ?_ (fun t ht => by cases ht; exact rfl) (Below.refl _ _)
        have ec : ∀ v, a.eval (.const v) = v := fun _ => rfl
        generalize a.eval = ev at *
        clear h
        go_simp
      refine AllOps.cons (fun a y h => ?_) ?_
      · have e27 : a.eval (.tmp 27) = (.slice a1 ps.length d1 : Value) := h.of 27 (by kernel_rfl)
        refine opOk_call (f := 96) (args := #[.slice a1 ps.length d1]) (wanted_none rfl) ?_ ?_
        · have ec : ∀ v, a.eval (.const v) = v := fun _ => rfl
          have ef : ∀ f, a.eval (.func f) = .func (.func f) #[] #[] := fun _ => rfl
          generalize a.eval = ev at *
          clear h
          go_simp
        · refine (HP.out y h.below).mono ?_
          rintro e w' ⟨v', rfl, ho, hb⟩
          exact ⟨v', rfl, fun t ht => by cases ht; exact ho, hb⟩
      refine AllOps.cons (fun a y h => ?_) ?_
      · have e3 : a.eval (.tmp 3) = (.slice sa says.length sc : Value) := h.old 3 (by kernel_rfl)
        refine opOk_val (v := .slice sa says.length sc) (w' := y) (wanted_none rfl) ?_ (fun t ht => by cases ht; exact rfl) (Below.refl _ _)
        have ec : ∀ v, a.eval (.const v) = v := fun _ => rfl
        generalize a.eval = ev at *
        clear h
        go_simp
      refine AllOps.cons (fun a y h => ?_) ?_
      · have e1 : a.eval (.tmp 1) = (.pointer (some ⟨w.heap.size, 0, none⟩) : Value) := h.old 1 (by kernel_rfl)
        refine opOk_val (v := .pointer (some ⟨w.heap.size, 4, none⟩)) (w' := y) (wanted_none rfl) ?_ (fun t ht => by cases ht; exact rfl) (Below.refl _ _)
        have ec : ∀ v, a.eval (.const v) = v := fun _ => rfl
        generalize a.eval = ev at *
        clear h
        go_simp
      refine AllOps.cons (fun a y h => ?_) ?_
      · have e30 : a.eval (.tmp 30) = (.pointer (some ⟨w.heap.size, 4, none⟩) : Value) := h.of 30 (by kernel_rfl)
        obtain ⟨c0, c1, c2, c3, c4⟩ := HXC.out y h.below
        refine opOk_val (v := .slice a3 ts.length d3) (w' := y) (wanted_none rfl) ?_ (fun t ht => by cases ht; exact rfl) (Below.refl _ _)
        have ec : ∀ v, a.eval (.const v) = v := fun _ => rfl
        generalize a.eval = ev at *
        clear h
        go_simp
      refine AllOps.cons (fun a y h => ?_) ?_
      · have e31 : a.eval (.tmp 31) = (.slice a3 ts.length d3 : Value) := h.of 31 (by kernel_rfl)
        refine opOk_call (f := 96) (args := #[.slice a3 ts.length d3]) (wanted_none rfl) ?_ ?_
        · have ec : ∀ v, a.eval (.const v) = v := fun _ => rfl
          have ef : ∀ f, a.eval (.func f) = .func (.func f) #[] #[] := fun _ => rfl
          generalize a.eval = ev at *
          clear h
          go_simp
        · refine (HT.out y h.below).mono ?_
          rintro e w' ⟨v', rfl, ho, hb⟩
          exact ⟨v', rfl, fun t ht => by cases ht; exact ho, hb⟩
      refine AllOps.cons (fun a y h => ?_) ?_
      · have e25 : a.eval (.tmp 25) = (.agg #[.int .i64 ua, .int .i64 un] : Value) := h.of 25 (by kernel_rfl)
        have t28 : y.ownsRow wr.heap.size 26 2 (a.eval (.tmp 28)) ps.length (ps.map idCells).flatten := h.of 28 (by kernel_rfl)
        have e29 : a.eval (.tmp 29) = (.slice sa says.length sc : Value) := h.of 29 (by kernel_rfl)
        have t32 : y.ownsRow wr.heap.size 26 2 (a.eval (.tmp 32)) ts.length (ts.map idCells).flatten := h.of 32 (by kernel_rfl)
        obtain ⟨p1, k1, q28⟩ := own_slice t28
        obtain ⟨p3, k3, q32⟩ := own_slice t32
        refine opOk_val (v := .agg #[.int .i64 ua, .int .i64 un, .slice p1 ps.length k1, .slice sa says.length sc, .slice p3 ts.length k3]) (w' := y) (wanted_none rfl) ?_ (fun t ht => by cases ht; exact ⟨_, _, rfl, q28 ▸ t28, q32 ▸ t32⟩) (Below.refl _ _)
        have ec : ∀ v, a.eval (.const v) = v := fun _ => rfl
        generalize a.eval = ev at *
        clear h
        go_simp
      exact AllOps.nil
    case hlast =>
      rintro ⟨tm, df⟩ y hI
      obtain ⟨v1, v2, e33, o1, o2⟩ : ∃ v1 v2, (Act.eval ⟨tm, df⟩ (.tmp 33)) = .agg #[.int .i64 ua, .int .i64 un, v1, .slice sa says.length sc, v2] ∧ y.ownsRow wr.heap.size 26 2 v1 ps.length (ps.map idCells).flatten ∧ y.ownsRow wr.heap.size 26 2 v2 ts.length (ts.map idCells).flatten := hI.all 9 _ 33 (by decide) rfl rfl
      have e2 : Act.eval ⟨tm, df⟩ (.tmp 2) = .pointer (some ⟨w.heap.size + 1, 0, none⟩) := hI.still 2 (by decide)
      obtain ⟨p1, k1, rfl⟩ := own_slice o1
      obtain ⟨p3, k3, rfl⟩ := own_slice o2
      have sk0 := (HXZ.out y hI.below)
      have sz0 : (y).cell? ⟨w.heap.size + 1, 0, none⟩ = some (.int .i64 0) := by rw [Lib.cell_of_heap sk0]; rfl
      have sy0 := Lib.frozen_of_heap sk0 0
      have sk1 : ((y).setCell ⟨w.heap.size + 1, 0, none⟩ (.int .i64 ua)).heap[w.heap.size + 1]? = some (.cells #[.int .i64 ua, .int .i64 0, .slice none 0 0, .slice none 0 0, .slice none 0 0] 30) := by rw [Lib.heap_setCell_same sk0]; rfl
      have sz1 : ((y).setCell ⟨w.heap.size + 1, 0, none⟩ (.int .i64 ua)).cell? ⟨w.heap.size + 1, 1, none⟩ = some (.int .i64 0) := by rw [Lib.cell_of_heap sk1]; rfl
      have sy1 := Lib.frozen_of_heap sk1 1
      have sk2 : (((y).setCell ⟨w.heap.size + 1, 0, none⟩ (.int .i64 ua)).setCell ⟨w.heap.size + 1, 1, none⟩ (.int .i64 un)).heap[w.heap.size + 1]? = some (.cells #[.int .i64 ua, .int .i64 un, .slice none 0 0, .slice none 0 0, .slice none 0 0] 30) := by rw [Lib.heap_setCell_same sk1]; rfl
      have sz2 : (((y).setCell ⟨w.heap.size + 1, 0, none⟩ (.int .i64 ua)).setCell ⟨w.heap.size + 1, 1, none⟩ (.int .i64 un)).cell? ⟨w.heap.size + 1, 2, none⟩ = some (.slice none 0 0) := by rw [Lib.cell_of_heap sk2]; rfl
      have sy2 := Lib.frozen_of_heap sk2 2
      have sk3 : ((((y).setCell ⟨w.heap.size + 1, 0, none⟩ (.int .i64 ua)).setCell ⟨w.heap.size + 1, 1, none⟩ (.int .i64 un)).setCell ⟨w.heap.size + 1, 2, none⟩ (.slice p1 ps.length k1)).heap[w.heap.size + 1]? = some (.cells #[.int .i64 ua, .int .i64 un, .slice p1 ps.length k1, .slice none 0 0, .slice none 0 0] 30) := by rw [Lib.heap_setCell_same sk2]; rfl
      have sz3 : ((((y).setCell ⟨w.heap.size + 1, 0, none⟩ (.int .i64 ua)).setCell ⟨w.heap.size + 1, 1, none⟩ (.int .i64 un)).setCell ⟨w.heap.size + 1, 2, none⟩ (.slice p1 ps.length k1)).cell? ⟨w.heap.size + 1, 3, none⟩ = some (.slice none 0 0) := by rw [Lib.cell_of_heap sk3]; rfl
      have sy3 := Lib.frozen_of_heap sk3 3
      have sk4 : (((((y).setCell ⟨w.heap.size + 1, 0, none⟩ (.int .i64 ua)).setCell ⟨w.heap.size + 1, 1, none⟩ (.int .i64 un)).setCell ⟨w.heap.size + 1, 2, none⟩ (.slice p1 ps.length k1)).setCell ⟨w.heap.size + 1, 3, none⟩ (.slice sa says.length sc)).heap[w.heap.size + 1]? = some (.cells #[.int .i64 ua, .int .i64 un, .slice p1 ps.length k1, .slice sa says.length sc, .slice none 0 0] 30) := by rw [Lib.heap_setCell_same sk3]; rfl
      have sz4 : (((((y).setCell ⟨w.heap.size + 1, 0, none⟩ (.int .i64 ua)).setCell ⟨w.heap.size + 1, 1, none⟩ (.int .i64 un)).setCell ⟨w.heap.size + 1, 2, none⟩ (.slice p1 ps.length k1)).setCell ⟨w.heap.size + 1, 3, none⟩ (.slice sa says.length sc)).cell? ⟨w.heap.size + 1, 4, none⟩ = some (.slice none 0 0) := by rw [Lib.cell_of_heap sk4]; rfl
      have sy4 := Lib.frozen_of_heap sk4 4
      have sk5 : ((((((y).setCell ⟨w.heap.size + 1, 0, none⟩ (.int .i64 ua)).setCell ⟨w.heap.size + 1, 1, none⟩ (.int .i64 un)).setCell ⟨w.heap.size + 1, 2, none⟩ (.slice p1 ps.length k1)).setCell ⟨w.heap.size + 1, 3, none⟩ (.slice sa says.length sc)).setCell ⟨w.heap.size + 1, 4, none⟩ (.slice p3 ts.length k3)).heap[w.heap.size + 1]? = some (.cells #[.int .i64 ua, .int .i64 un, .slice p1 ps.length k1, .slice sa says.length sc, .slice p3 ts.length k3] 30) := by rw [Lib.heap_setCell_same sk4]; rfl
      refine wpOp_skip (w' := (((((y).setCell ⟨w.heap.size + 1, 0, none⟩ (.int .i64 ua)).setCell ⟨w.heap.size + 1, 1, none⟩ (.int .i64 un)).setCell ⟨w.heap.size + 1, 2, none⟩ (.slice p1 ps.length k1)).setCell ⟨w.heap.size + 1, 3, none⟩ (.slice sa says.length sc)).setCell ⟨w.heap.size + 1, 4, none⟩ (.slice p3 ts.length k3)) rfl (wanted_none rfl) rfl ?hr ?_
      case hr =>
        show Sem.run Tryz.prog (execOp (Act.eval ⟨tm, df⟩) _) y = _
        generalize Act.eval ⟨tm, df⟩ = ev at *
        clear hI
        go_simp
      have HGR : Hid (y.grownBy ((((((y).setCell ⟨w.heap.size + 1, 0, none⟩ (.int .i64 ua)).setCell ⟨w.heap.size + 1, 1, none⟩ (.int .i64 un)).setCell ⟨w.heap.size + 1, 2, none⟩ (.slice p1 ps.length k1)).setCell ⟨w.heap.size + 1, 3, none⟩ (.slice sa says.length sc)).setCell ⟨w.heap.size + 1, 4, none⟩ (.slice p3 ts.length k3)) (some (w.heap.size + 1))) := ((((grown_set y _ 0 _).trans_row (grown_set _ _ 1 _)).trans_row (grown_set _ _ 2 _)).trans_row (grown_set _ _ 3 _)).trans_row (grown_set _ _ 4 _)
      have HBF : Hid (Below w.heap.size w ((((((y).setCell ⟨w.heap.size + 1, 0, none⟩ (.int .i64 ua)).setCell ⟨w.heap.size + 1, 1, none⟩ (.int .i64 un)).setCell ⟨w.heap.size + 1, 2, none⟩ (.slice p1 ps.length k1)).setCell ⟨w.heap.size + 1, 3, none⟩ (.slice sa says.length sc)).setCell ⟨w.heap.size + 1, 4, none⟩ (.slice p3 ts.length k3))) := ((HB.out.trans (hI.below.mono HB.out.size))).grown HGR.out (Nat.le_trans HB.out.size hI.below.size) (fun j e => by cases e; omega)
      have HPS : Hid _ := rl_own_le (base' := w.heap.size) (o1.kept HGR.out (.inr (fun e => by have := (o1.lt _ e).1; omega))) (by omega)
      have HTS : Hid _ := rl_own_le (base' := w.heap.size) (o2.kept HGR.out (.inr (fun e => by have := (o2.lt _ e).1; omega))) (by omega)
      have HSS : Hid (FactsP w1.heap.size ((((((y).setCell ⟨w.heap.size + 1, 0, none⟩ (.int .i64 ua)).setCell ⟨w.heap.size + 1, 1, none⟩ (.int .i64 un)).setCell ⟨w.heap.size + 1, 2, none⟩ (.slice p1 ps.length k1)).setCell ⟨w.heap.size + 1, 3, none⟩ (.slice sa says.length sc)).setCell ⟨w.heap.size + 1, 4, none⟩ (.slice p3 ts.length k3)) (.slice sa says.length sc) says) := factsP_grown (factsP_below HFP.out hI.below) HGR.out (by omega)
      have d0 : ((((((y).setCell ⟨w.heap.size + 1, 0, none⟩ (.int .i64 ua)).setCell ⟨w.heap.size + 1, 1, none⟩ (.int .i64 un)).setCell ⟨w.heap.size + 1, 2, none⟩ (.slice p1 ps.length k1)).setCell ⟨w.heap.size + 1, 3, none⟩ (.slice sa says.length sc)).setCell ⟨w.heap.size + 1, 4, none⟩ (.slice p3 ts.length k3)).cell? ⟨w.heap.size + 1, 0, none⟩ = some (.int .i64 ua) := by rw [Lib.cell_of_heap sk5]; rfl
      have d1 : ((((((y).setCell ⟨w.heap.size + 1, 0, none⟩ (.int .i64 ua)).setCell ⟨w.heap.size + 1, 1, none⟩ (.int .i64 un)).setCell ⟨w.heap.size + 1, 2, none⟩ (.slice p1 ps.length k1)).setCell ⟨w.heap.size + 1, 3, none⟩ (.slice sa says.length sc)).setCell ⟨w.heap.size + 1, 4, none⟩ (.slice p3 ts.length k3)).cell? ⟨w.heap.size + 1, 1, none⟩ = some (.int .i64 un) := by rw [Lib.cell_of_heap sk5]; rfl
      have d2 : ((((((y).setCell ⟨w.heap.size + 1, 0, none⟩ (.int .i64 ua)).setCell ⟨w.heap.size + 1, 1, none⟩ (.int .i64 un)).setCell ⟨w.heap.size + 1, 2, none⟩ (.slice p1 ps.length k1)).setCell ⟨w.heap.size + 1, 3, none⟩ (.slice sa says.length sc)).setCell ⟨w.heap.size + 1, 4, none⟩ (.slice p3 ts.length k3)).cell? ⟨w.heap.size + 1, 2, none⟩ = some (.slice p1 ps.length k1) := by rw [Lib.cell_of_heap sk5]; rfl
      have d3 : ((((((y).setCell ⟨w.heap.size + 1, 0, none⟩ (.int .i64 ua)).setCell ⟨w.heap.size + 1, 1, none⟩ (.int .i64 un)).setCell ⟨w.heap.size + 1, 2, none⟩ (.slice p1 ps.length k1)).setCell ⟨w.heap.size + 1, 3, none⟩ (.slice sa says.length sc)).setCell ⟨w.heap.size + 1, 4, none⟩ (.slice p3 ts.length k3)).cell? ⟨w.heap.size + 1, 3, none⟩ = some (.slice sa says.length sc) := by rw [Lib.cell_of_heap sk5]; rfl
      have d4 : ((((((y).setCell ⟨w.heap.size + 1, 0, none⟩ (.int .i64 ua)).setCell ⟨w.heap.size + 1, 1, none⟩ (.int .i64 un)).setCell ⟨w.heap.size + 1, 2, none⟩ (.slice p1 ps.length k1)).setCell ⟨w.heap.size + 1, 3, none⟩ (.slice sa says.length sc)).setCell ⟨w.heap.size + 1, 4, none⟩ (.slice p3 ts.length k3)).cell? ⟨w.heap.size + 1, 4, none⟩ = some (.slice p3 ts.length k3) := by rw [Lib.cell_of_heap sk5]; rfl
      have hszE := hI.size
      have hstE := hI.still
      obtain rfl : df = [] := hI.defers
      clear hI o1 o2 e33 e2 sk0 sk1 sk2 sk3 sk4 sk5 sz0 sz1 sz2 sz3 sz4 sy0 sy1 sy2 sy3 sy4
      generalize (((((y).setCell ⟨w.heap.size + 1, 0, none⟩ (.int .i64 ua)).setCell ⟨w.heap.size + 1, 1, none⟩ (.int .i64 un)).setCell ⟨w.heap.size + 1, 2, none⟩ (.slice p1 ps.length k1)).setCell ⟨w.heap.size + 1, 3, none⟩ (.slice sa says.length sc)).setCell ⟨w.heap.size + 1, 4, none⟩ (.slice p3 ts.length k3) = yf at *
      show Exit.then _ _ Exit.normal ⟨tm, []⟩ yf
      have hF8 := tmps_fold [24, 25, 26, 27, 28, 29, 30, 31, 32, 33] tm _ hszE hstE
      clear hszE hstE
      simp only [List.foldl_cons, List.foldl_nil] at hF8
      generalize tm.getD 24 undef = x24 at hF8
      generalize tm.getD 25 undef = x25 at hF8
      generalize tm.getD 26 undef = x26 at hF8
      generalize tm.getD 27 undef = x27 at hF8
      generalize tm.getD 28 undef = x28 at hF8
      generalize tm.getD 29 undef = x29 at hF8
      generalize tm.getD 30 undef = x30 at hF8
      generalize tm.getD 31 undef = x31 at hF8
      generalize tm.getD 32 undef = x32 at hF8
      generalize tm.getD 33 undef = x33 at hF8
      simp only [List.setIfInBounds_toArray, List.set_cons_zero, List.set_cons_succ] at hF8
      subst hF8
      go_wp2_with fail
      refine bodyPost_ret (v := .agg #[.int .i64 ua, .int .i64 un, .slice p1 ps.length k1, .slice sa says.length sc, .slice p3 ts.length k3]) (by simp [results, Tryz.results59, go_sem, d0, d1, d2, d3, d4]) rfl ?_
      exact ⟨⟨⟨⟨ua, un⟩, ps, says, ts⟩, .slice p1 ps.length k1, .slice sa says.length sc, .slice p3 ts.length k3⟩, rfl, rfl, ⟨HPS.out, factsP_le HSS.out (by omega), HTS.out, HFF.out, HL.out⟩, HBF.out⟩
end Go.Proofs.YtmfaodapofamfaaGreat

/- Package update: Copies. -/
namespace Go.Proofs.YtmfaodapofamfaaGreat
open Go.RowKit

theorem cell_set_ne {w : World} {g o o' : Nat} (u : Value) (h : o ≠ o') : (w.setCell ⟨g, o, none⟩ u).cell? ⟨g, o', none⟩ = w.cell? ⟨g, o', none⟩ := by
  apply World.cell?_setCell_other
  intro e
  exact h (by injection e)
theorem set_app (y : Uv) (F : List Value) (k : Nat) (u : Value) : (uvCells y ++ F).set (k + 5) u = uvCells y ++ F.set k u := rfl
theorem flat5_set : ∀ (q : List Uv) (m : Nat) (x : Uv), m < q.length → ((q.set m x).map uvCells).flatten = ((((((q.map uvCells).flatten.set (m * 5) (.int .i64 x.u.id.a)).set (m * 5 + 1) (.int .i64 x.u.id.n)).set (m * 5 + 2) x.p).set (m * 5 + 3) x.s).set (m * 5 + 4) x.t)
  | [], m, x, h => absurd h (by simp)
  | y :: r, 0, x, _ => rfl
  | y :: r, m + 1, x, h => by
    have ih := flat5_set r m x (by simpa using h)
    have e0 : (m + 1) * 5 = m * 5 + 5 := by omega
    have e : ∀ i, m * 5 + 5 + i = (m * 5 + i) + 5 := fun i => by omega
    show uvCells y ++ ((r.set m x).map uvCells).flatten = ((((((uvCells y ++ (r.map uvCells).flatten).set ((m + 1) * 5) (.int .i64 x.u.id.a)).set ((m + 1) * 5 + 1) (.int .i64 x.u.id.n)).set ((m + 1) * 5 + 2) x.p).set ((m + 1) * 5 + 3) x.s).set ((m + 1) * 5 + 4) x.t)
    rw [ih, e0, e, e, e, e, set_app, set_app, set_app, set_app, set_app]
theorem row_in {w : World} {B g cap : Nat} {q : List Uv} (h : URow w B (.slice (some ⟨g, 0, none⟩) q.length cap) q) {m : Nat} (hm : m < q.length) : UpIn w g (m * 5) (uvD q m) := by
  have key : ∀ j, j < 5 → w.cell? ⟨g, m * 5 + j, none⟩ = (uvCells (uvD q m))[j]? := fun j hj => by
    rw [World.ownsRow.cellAt h (m * 5 + j) (by omega), flat5_get q m j hm hj]
  exact ⟨key 0 (by omega), key 1 (by omega), key 2 (by omega), key 3 (by omega), key 4 (by omega)⟩
theorem uvD_of {q : List Uv} {m : Nat} {x : Uv} (h : q[m]? = some x) : uvD q m = x := by
  unfold uvD
  rw [List.getD_eq_getElem?_getD, h]
  rfl
theorem get_uvD {q : List Uv} {m : Nat} (h : m < q.length) : q[m]? = some (uvD q m) := by
  unfold uvD
  rw [List.getD_eq_getElem?_getD, List.getElem?_eq_getElem h]
  rfl
/-- An update that Copy may be handed. -/
structure Few (u : Wr.Up) : Prop where
  l : u.ps.length ≤ 6 ∧ u.says.length ≤ 6 ∧ u.ts.length ≤ 6
  f : ∀ f, f ∈ u.says → f.args.length ≤ 3
theorem few_of {u : Wr.Up} (h : Wr.check u = 0) : Few u := by
  have r := Wr.right_of h
  refine ⟨⟨r.ps, r.says, r.ts⟩, fun f hf => ?_⟩
  have := r.fs f hf
  unfold Wr.factOk at this
  rw [Bool.and_eq_true, decide_eq_true_eq] at this
  exact this.1.2.2
set_option maxRecDepth 100000 in
set_option maxHeartbeats 4000000 in
theorem Copies_any (q : List Uv) (v : Value) (w : World) (hV : UpsV w v q) (hok : ∀ x, x ∈ q → UvOk w x) (hfew : ∀ x, x ∈ q → Few x.u) (hl : q.length ≤ 1000) :
    Calls Tryz.prog 74 #[v] w fun e w' => ∃ (R : List Uv) (v' : Value), e = .returned v' ∧ URow w' w.heap.size v' R ∧ ups R = ups q ∧ (∀ x, x ∈ R → UvP w.heap.size w' x) ∧ Below w.heap.size w w' := by
  have HO : Hid (∀ x, x ∈ q → UvOk w x ∧ Few x.u) := fun x hx => ⟨hok x hx, hfew x hx⟩
  have HC : Hid (Calls Tryz.prog 80 #[v] w fun e w' => ∃ v', e = .returned v' ∧ URow w' w.heap.size v' q ∧ Below w.heap.size w w') := cloneUps_any q v w hV hok hl
  obtain ⟨av, cv, rfl, _⟩ := hV
  clear hok hfew
  go_enter Tryz.func74, Tryz.ntmps74
  go_upto_region 2 with (go_at_call 80; refine Calls.mono HC.out ?_; rintro e w1 ⟨v1, rfl, hrow1, hb1⟩; obtain ⟨ar, cr, rfl⟩ := own_slice hrow1)
  clear HC
  go_wp2_with fail
  go_loopw [9] (fun i wr => ∃ (m : Nat) (R : List Uv), m ≤ q.length ∧ i = .int .i64 m ∧ R.length = q.length ∧ wr.ownsRow w.heap.size 30 5 (.slice ar q.length cr) q.length (R.map uvCells).flatten ∧ Hid (ups R = ups q) ∧ Hid (∀ j, m ≤ j → R[j]? = q[j]?) ∧ Hid (∀ j p, j < m → R[j]? = some p → UvP w1.heap.size wr p) ∧ Below w.heap.size w wr ∧ w1.heap.size ≤ wr.heap.size) (fun i _ => q.length - (intOf i).toNat)
  case atStart => exact ⟨0, q, Nat.zero_le _, rfl, rfl, hrow1, rfl, fun _ _ => rfl, fun j p hj => absurd hj (by omega), hb1, Nat.le_refl _⟩
  case round =>
  have hrow0 := hrow1
  have hszw : Hid (w.heap.size ≤ w1.heap.size) := hb1.size
  clear hrow1 hb1
  obtain ⟨m, R, hm, rfl, hRl, hrow, HU, HREST, HARGS, hb, hsz⟩ := hrel
  have HRL : Hid (R.length = q.length) := hRl
  clear hRl
  by_cases hlt : m < q.length
  · obtain ⟨g, rfl⟩ : ∃ g, ar = some ⟨g, 0, none⟩ := by
      rcases ownsRow_forms9 hrow with ⟨_, h0⟩ | ⟨g, c, hv⟩
      · omega
      · injection hv with hv
        exact ⟨g, hv⟩
    have hglt : g < w1.heap.size := (hrow0.lt g rfl).2
    have hgle : w.heap.size ≤ g := (hrow0.lt g rfl).1
    clear hrow0
    have hrow : URow wr w.heap.size (.slice (some ⟨g, 0, none⟩) R.length cr) R := by
      show World.ownsRow _ _ _ _ _ _ _
      rw [HRL.out]
      exact hrow
    have hxq : R[m]? = some (uvD q m) := (HREST.out m (Nat.le_refl _)).trans (get_uvD hlt)
    have hin := row_in hrow (m := m) (by rw [HRL.out]; exact hlt)
    rw [uvD_of hxq] at hin
    have hmem := uvD_mem q m hlt
    have HX : Hid (UvOk wr (uvD q m) ∧ Few (uvD q m).u) := ⟨(HO.out _ hmem).1.below hb, (HO.out _ hmem).2⟩
    have HXQ : Hid (R[m]? = some (uvD q m) ∧ q[m]? = some (uvD q m)) := ⟨hxq, get_uvD hlt⟩
    clear hxq hmem
    generalize uvD q m = x at *
    have HCC : Hid (∀ z, Below wr.heap.size wr z → Calls Tryz.prog 59 #[uvVal x] z fun e w' => ∃ x' : Uv, e = .returned (uvVal x') ∧ x'.u = x.u ∧ UvP z.heap.size w' x' ∧ Below z.heap.size z w') := fun z hz => Copy_any x z (HX.out.1.below hz) HX.out.2.l HX.out.2.f
    obtain ⟨a1, n1, d1, a2, n2, d2, a3, n3, d3, e1, e2, e3⟩ := HX.out.1.forms
    have HXX : Hid (∃ y : Uv, y = x) := ⟨x, rfl⟩
    obtain ⟨⟨⟨ua, un⟩, ps, says, ts⟩, vp, vs, vt⟩ := x
    dsimp only at *
    subst e1 e2 e3
    obtain ⟨c0, c1, c2, c3, c4⟩ := id hin
    dsimp only at c0 c1 c2 c3 c4
    have HBN : Hid (Below wr.heap.size wr (wr.alloc (.cells #[.int .i64 ua, .int .i64 un, .slice a1 n1 d1, .slice a2 n2 d2, .slice a3 n3 d3] 30))) := (Below.refl _ _).alloc (Nat.le_refl _) _
    go_wp2_with fail
    refine Calls.mono (HCC.out _ HBN.out) ?_
    rintro e w7 ⟨x', rfl, hxu, hxp, hb7⟩
    have hb7 := HBN.out.trans (hb7.mono HBN.out.size)
    have hxp : UvP w1.heap.size w7 x' := hxp.le (by have := HBN.out.size; omega)
    obtain ⟨p1, l1, k1, p2, l2, k2, p3, l3, k3, f1, f2, f3⟩ := hxp.ok.forms
    have HXP : Hid (UvP w1.heap.size w7 x' ∧ x'.u = _) := ⟨hxp, hxu⟩
    clear hxp hxu HX HXX c0 c1 c2 c3 c4
    obtain ⟨⟨⟨xa, xn⟩, ps', says', ts'⟩, vp', vs', vt'⟩ := x'
    dsimp only at *
    subst f1 f2 f3
    have hr7 := (Kc.below hb7).up hin
    have hrow7 := ownsRow_below hrow hb7
    dsimp only [UpIn] at hr7
    have rz0 : (w7).cell? ⟨g, m * 5, none⟩ = some (.int .i64 ua) := by exact hr7.1
    have ry0 : (w7).frozen? ⟨g, m * 5, none⟩ = false := by exact World.ownsRow.frozenAt hrow7 _
    have rz1 : ((w7).setCell ⟨g, m * 5, none⟩ (.int .i64 xa)).cell? ⟨g, m * 5 + 1, none⟩ = some (.int .i64 un) := by rw [cell_set_ne _ (by omega)]; exact hr7.2.1
    have ry1 : ((w7).setCell ⟨g, m * 5, none⟩ (.int .i64 xa)).frozen? ⟨g, m * 5 + 1, none⟩ = false := by rw [World.frozen?_setCell]; exact World.ownsRow.frozenAt hrow7 _
    have rz2 : (((w7).setCell ⟨g, m * 5, none⟩ (.int .i64 xa)).setCell ⟨g, m * 5 + 1, none⟩ (.int .i64 xn)).cell? ⟨g, m * 5 + 2, none⟩ = some (.slice a1 n1 d1) := by rw [cell_set_ne _ (by omega)]; rw [cell_set_ne _ (by omega)]; exact hr7.2.2.1
    have ry2 : (((w7).setCell ⟨g, m * 5, none⟩ (.int .i64 xa)).setCell ⟨g, m * 5 + 1, none⟩ (.int .i64 xn)).frozen? ⟨g, m * 5 + 2, none⟩ = false := by rw [World.frozen?_setCell]; rw [World.frozen?_setCell]; exact World.ownsRow.frozenAt hrow7 _
    have rz3 : ((((w7).setCell ⟨g, m * 5, none⟩ (.int .i64 xa)).setCell ⟨g, m * 5 + 1, none⟩ (.int .i64 xn)).setCell ⟨g, m * 5 + 2, none⟩ (.slice p1 l1 k1)).cell? ⟨g, m * 5 + 3, none⟩ = some (.slice a2 n2 d2) := by rw [cell_set_ne _ (by omega)]; rw [cell_set_ne _ (by omega)]; rw [cell_set_ne _ (by omega)]; exact hr7.2.2.2.1
    have ry3 : ((((w7).setCell ⟨g, m * 5, none⟩ (.int .i64 xa)).setCell ⟨g, m * 5 + 1, none⟩ (.int .i64 xn)).setCell ⟨g, m * 5 + 2, none⟩ (.slice p1 l1 k1)).frozen? ⟨g, m * 5 + 3, none⟩ = false := by rw [World.frozen?_setCell]; rw [World.frozen?_setCell]; rw [World.frozen?_setCell]; exact World.ownsRow.frozenAt hrow7 _
    have rz4 : (((((w7).setCell ⟨g, m * 5, none⟩ (.int .i64 xa)).setCell ⟨g, m * 5 + 1, none⟩ (.int .i64 xn)).setCell ⟨g, m * 5 + 2, none⟩ (.slice p1 l1 k1)).setCell ⟨g, m * 5 + 3, none⟩ (.slice p2 l2 k2)).cell? ⟨g, m * 5 + 4, none⟩ = some (.slice a3 n3 d3) := by rw [cell_set_ne _ (by omega)]; rw [cell_set_ne _ (by omega)]; rw [cell_set_ne _ (by omega)]; rw [cell_set_ne _ (by omega)]; exact hr7.2.2.2.2
    have ry4 : (((((w7).setCell ⟨g, m * 5, none⟩ (.int .i64 xa)).setCell ⟨g, m * 5 + 1, none⟩ (.int .i64 xn)).setCell ⟨g, m * 5 + 2, none⟩ (.slice p1 l1 k1)).setCell ⟨g, m * 5 + 3, none⟩ (.slice p2 l2 k2)).frozen? ⟨g, m * 5 + 4, none⟩ = false := by rw [World.frozen?_setCell]; rw [World.frozen?_setCell]; rw [World.frozen?_setCell]; rw [World.frozen?_setCell]; exact World.ownsRow.frozenAt hrow7 _
    have hput : URow ((((((w7).setCell ⟨g, m * 5, none⟩ (.int .i64 xa)).setCell ⟨g, m * 5 + 1, none⟩ (.int .i64 xn)).setCell ⟨g, m * 5 + 2, none⟩ (.slice p1 l1 k1)).setCell ⟨g, m * 5 + 3, none⟩ (.slice p2 l2 k2)).setCell ⟨g, m * 5 + 4, none⟩ (.slice p3 l3 k3)) w.heap.size (.slice (some ⟨g, 0, none⟩) R.length cr) (R.set m ⟨⟨⟨xa, xn⟩, ps', says', ts'⟩, .slice p1 l1 k1, .slice p2 l2 k2, .slice p3 l3 k3⟩) := by
      show World.ownsRow _ _ _ _ _ _ _
      rw [List.length_set, flat5_set R m _ (by rw [HRL.out]; exact hlt)]
      exact (World.ownsRow.stored (World.ownsRow.stored (World.ownsRow.stored (World.ownsRow.stored (World.ownsRow.stored hrow7 (m * 5) _).1 (m * 5 + 1) _).1 (m * 5 + 2) _).1 (m * 5 + 3) _).1 (m * 5 + 4) _).1
    have HGR : Hid (w7.grownBy ((((((w7).setCell ⟨g, m * 5, none⟩ (.int .i64 xa)).setCell ⟨g, m * 5 + 1, none⟩ (.int .i64 xn)).setCell ⟨g, m * 5 + 2, none⟩ (.slice p1 l1 k1)).setCell ⟨g, m * 5 + 3, none⟩ (.slice p2 l2 k2)).setCell ⟨g, m * 5 + 4, none⟩ (.slice p3 l3 k3)) (some g)) := ((((grown_set w7 _ _ _).trans_row (grown_set _ _ _ _)).trans_row (grown_set _ _ _ _)).trans_row (grown_set _ _ _ _)).trans_row (grown_set _ _ _ _)
    have hsz7 := hb7.size
    have HB8 : Hid (Below w.heap.size w ((((((w7).setCell ⟨g, m * 5, none⟩ (.int .i64 xa)).setCell ⟨g, m * 5 + 1, none⟩ (.int .i64 xn)).setCell ⟨g, m * 5 + 2, none⟩ (.slice p1 l1 k1)).setCell ⟨g, m * 5 + 3, none⟩ (.slice p2 l2 k2)).setCell ⟨g, m * 5 + 4, none⟩ (.slice p3 l3 k3))) := (hb.trans (hb7.mono hb.size)).grown HGR.out (Nat.le_trans hb.size hb7.size) (fun k e => by cases e; omega)
    have HS8 : Hid (w1.heap.size ≤ ((((((w7).setCell ⟨g, m * 5, none⟩ (.int .i64 xa)).setCell ⟨g, m * 5 + 1, none⟩ (.int .i64 xn)).setCell ⟨g, m * 5 + 2, none⟩ (.slice p1 l1 k1)).setCell ⟨g, m * 5 + 3, none⟩ (.slice p2 l2 k2)).setCell ⟨g, m * 5 + 4, none⟩ (.slice p3 l3 k3)).heap.size) := Nat.le_trans hsz (Nat.le_trans hsz7 HGR.out.size)
    have HPUT : Hid (((((((w7).setCell ⟨g, m * 5, none⟩ (.int .i64 xa)).setCell ⟨g, m * 5 + 1, none⟩ (.int .i64 xn)).setCell ⟨g, m * 5 + 2, none⟩ (.slice p1 l1 k1)).setCell ⟨g, m * 5 + 3, none⟩ (.slice p2 l2 k2)).setCell ⟨g, m * 5 + 4, none⟩ (.slice p3 l3 k3)).ownsRow w.heap.size 30 5 (.slice (some ⟨g, 0, none⟩) q.length cr) q.length ((R.set m ⟨⟨⟨xa, xn⟩, ps', says', ts'⟩, .slice p1 l1 k1, .slice p2 l2 k2, .slice p3 l3 k3⟩).map uvCells).flatten) := by
      have h9 := hput
      unfold URow at h9
      rw [List.length_set, HRL.out] at h9
      exact h9
    have HA2 : Hid (∀ j p, j < m + 1 → (R.set m ⟨⟨⟨xa, xn⟩, ps', says', ts'⟩, .slice p1 l1 k1, .slice p2 l2 k2, .slice p3 l3 k3⟩)[j]? = some p → UvP w1.heap.size ((((((w7).setCell ⟨g, m * 5, none⟩ (.int .i64 xa)).setCell ⟨g, m * 5 + 1, none⟩ (.int .i64 xn)).setCell ⟨g, m * 5 + 2, none⟩ (.slice p1 l1 k1)).setCell ⟨g, m * 5 + 3, none⟩ (.slice p2 l2 k2)).setCell ⟨g, m * 5 + 4, none⟩ (.slice p3 l3 k3)) p) := by
      intro j p hj hjp
      rw [List.getElem?_set] at hjp
      by_cases hjm : m = j
      · rw [if_pos hjm, if_pos (by rw [HRL.out]; omega)] at hjp
        have hjp := Option.some.inj hjp
        subst hjp
        exact HXP.out.1.grown HGR.out hglt
      · rw [if_neg hjm] at hjp
        exact ((HARGS.out j p (by omega) hjp).below hb7).grown HGR.out hglt
    have HM2 : Hid (ups (R.set m ⟨⟨⟨xa, xn⟩, ps', says', ts'⟩, .slice p1 l1 k1, .slice p2 l2 k2, .slice p3 l3 k3⟩) = ups q) := by
      show _ = _
      have h9 := HU.out
      unfold ups at h9 ⊢
      rw [List.map_set, h9]
      apply List.ext_getElem?
      intro t
      rw [List.getElem?_set]
      split
      · rename_i ht
        subst ht
        rw [if_pos (by rw [List.length_map]; exact hlt), List.getElem?_map, HXQ.out.2]
        exact congrArg some HXP.out.2
      · rfl
    have HR2 : Hid (∀ j, m + 1 ≤ j → (R.set m ⟨⟨⟨xa, xn⟩, ps', says', ts'⟩, .slice p1 l1 k1, .slice p2 l2 k2, .slice p3 l3 k3⟩)[j]? = q[j]?) := fun j hj => by
      rw [List.getElem?_set, if_neg (by omega)]
      exact HREST.out j (by omega)
    clear hrow hb hb7 hrow7 HARGS HU HREST hput HCC hin hr7 hsz7
    go_wp2_with fail
    go_roundw
    case rel => exact ⟨m + 1, R.set m ⟨⟨⟨xa, xn⟩, ps', says', ts'⟩, .slice p1 l1 k1, .slice p2 l2 k2, .slice p3 l3 k3⟩, hlt, by go_num, by rw [List.length_set]; exact HRL.out, HPUT.out, HM2.out, HR2.out, HA2.out, HB8.out, HS8.out⟩
    case measure => simp [intOf]; omega
  · have hdd : decide (m < q.length) = false := decide_eq_false hlt
    obtain rfl : m = q.length := by omega
    have HR : Hid (URow wr w.heap.size (.slice ar q.length cr) R) := by
      show World.ownsRow _ _ _ _ _ _ _
      rw [HRL.out]
      exact hrow
    have HP : Hid (∀ x, x ∈ R → UvP w.heap.size wr x) := fun p hp => by
      obtain ⟨j, hj⟩ := List.mem_iff_getElem?.mp hp
      exact (HARGS.out j p (by have := (List.getElem?_eq_some_iff.mp hj).1; rw [HRL.out] at this; exact this) hj).le hszw.out
    clear hrow HARGS HREST hrow0
    go_wp2_with fail
    go_ret
    exact ⟨R, _, rfl, HR.out, HU.out, HP.out, hb⟩
end Go.Proofs.YtmfaodapofamfaaGreat

/- AppendSeq, Collect, SortedFunc, copies. -/
namespace Go.Proofs.YtmfaodapofamfaaGreat
open Go.RowKit Go.Shelf Go.Maps
attribute [local go_sem] Oper.semAt_some

theorem cells_own {β : Type} (B : Nat) (o : β → Obj) (ho : ∀ s, (o s).isCells = true) : Own (fun s W => W.heap[B]? = some (o s)) := fun s X Y row hs hg hrow =>
  (hg.block B (Array.getElem?_eq_some_iff.1 hs).1 (fun e' => by obtain ⟨o', ho', hc⟩ := hrow B e'.symm; rw [hs] at ho'; cases ho'; rw [ho s] at hc; cases hc)).trans hs
set_option maxRecDepth 100000 in
set_option maxHeartbeats 4000000 in
theorem appendSeq_any (gf : Nat) (lb : Array Value) (eg : ∀ args w, (callFunc gf args).run Tryz.prog w = .ok (.enter gf args) w) (c : List Uv) (hl : c.length ≤ 1000) (w : World) (hok : ∀ x, x ∈ c → UvOk w x)
    (Kp : World → World → Prop) (hKt : ∀ {A B C : World}, Kp A B → Kp B C → Kp A C) (hKb : ∀ (W : World) (l : Nat) (o o' : Obj), w.heap.size ≤ l → W.heap[l]? = some o → o.isCells = false → o.isWalk = false → Kp W (W.putObj l o')) (hKo : ∀ A B : World, KeepsOthers A B → Below w.heap.size A B → Kp A B)
    (S Sp : List (UvIn c) → Prop) (hS : ∀ xs, S xs → (xs.map (·.1)).Perm c) (hseq : ∀ z, Below w.heap.size w z → SeqStopsK Fence.wide 2 Tryz.prog gf lb (fun x : UvIn c => inEnc x) Kp S Sp c.length z) :
    Calls Tryz.prog 115 #[.slice none 0 0, .func (.func gf) #[] lb] w fun e w' => ∃ (v : Value) (q : List Uv), e = .returned v ∧ q.Perm c ∧ URow w' w.heap.size v q ∧ Below w.heap.size w w' := by
  obtain ⟨i0, hi, hz0, hz1, hz2⟩ := info_parts up_info
  refine (callsIn_wide (n := 3)).1 ?_
  refine callsIn_of_wp_marks Tryz.func115 rfl trivial ?_ rfl
  simp only [Tryz.ntmps115, List.size_toArray, List.length_cons, List.length_nil, Nat.reduceAdd, Nat.reduceSub, Array.replicate_succ, Array.replicate_zero, List.push_toArray, List.append_toArray, List.nil_append, List.cons_append]
  have hB0 : Below w.heap.size w (w.alloc (.cells #[.slice none 0 0] 22)) := (Below.refl _ _).alloc (Nat.le_refl _) _
  have bS0 := Boxed.new w 22 (.slice none 0 0)
  have hs0 : (w.alloc (.cells #[.slice none 0 0] 22)).heap.size = w.heap.size + 1 := by simp
  gi_wp2
  generalize w.alloc (.cells #[.slice none 0 0] 22) = W0 at *
  refine wpIn_rangeFunc_ownH rfl (by decide) (gf := gf) (lb := lb) rfl trivial eg
    (hseq W0 hB0) hKt (fun W l o o' h1 h2 h3 h4 => hKb W l o o' (by omega) h2 h3 h4) (Below.refl _ _) (fun _ => rfl)
    (fun (pre : List (UvIn c)) W => (∃ v, Boxed W w.heap.size 22 v ∧ W.ownsRow w.heap.size 30 5 v pre.length ((pre.map (·.1)).map uvCells).flatten ∧ True) ∧ Below w.heap.size w W)
    (fun _ _ _ => False)
    (OwnFrom.and (Own.from (holdsRow_own w.heap.size w.heap.size 22 30 5 (fun pre : List (UvIn c) => pre.length) (fun pre : List (UvIn c) => ((pre.map (·.1)).map uvCells).flatten) (fun _ _ => True)) _) (ownFrom_below (Nat.le_refl _) (by omega)))
    (fun _ _ _ _ _ hs _ _ => hs)
    ⟨⟨_, bS0, World.ownsRow_nil _ _ _ _, trivial⟩, hB0⟩
    (fun x a' W => ∃ Bx, W.heap[Bx]? = some (.cells (uvCells x.1).toArray 30) ∧ a' = { tmps := #[.slice none 0 0, .func (.func gf) #[] lb, .pointer (some ⟨w.heap.size, 0, none⟩), undef, .slice none 0 0, .pointer (some ⟨Bx, 0, none⟩), .func (.func gf) #[] lb, uvVal x.1, undef, undef, undef, undef, undef], defers := [] })
    (fun x a' _ X Y row hs hg hr => by obtain ⟨Bx, h2, h3⟩ := hs; exact ⟨Bx, cells_own Bx (fun (_ : Unit) => Obj.cells (uvCells x.1).toArray 30) (fun _ => rfl) () X Y row h2 hg (fun r e => (hr r e).2), h3⟩)
    ?assign ?body ?done ?stop
  case assign =>
    rintro l pre x W K ⟨⟨v1, bS1, hr1, _⟩, hB1⟩ hK
    have hok1 := hok x.1 x.2
    obtain ⟨⟨⟨⟨ua, un⟩, ps, says, ts⟩, vp, vs, vt⟩, hx⟩ := x
    obtain ⟨a1, n1, d1, a2, n2, d2, a3, n3, d3, e1, e2, e3⟩ := hok1.forms
    dsimp only at *
    subst e1 e2 e3
    gi_wp2
    have hBW := (Below.refl w.heap.size W).alloc hB1.size (.cells #[.int .i64 ua, .int .i64 un, .slice a1 n1 d1, .slice a2 n2 d2, .slice a3 n3 d3] 30)
    exact hK _ _ ((KeepsOthers.alloc _ _).from _) (hKo _ _ (KeepsOthers.alloc _ _) hBW) ⟨⟨v1, bS1.alloc _, hr1.alloc _, trivial⟩, hB1.alloc hB1.size _⟩ ⟨W.heap.size, rl_new W _, rfl⟩
  case body =>
    rintro l pre x a' W hl' ⟨r, hr⟩ ⟨⟨v1, bS1, hr1, _⟩, hB1⟩ ⟨Bx, hX, rfl⟩ hlt
    have hok1 := hok x.1 x.2
    obtain ⟨⟨⟨⟨ua, un⟩, ps, says, ts⟩, vp, vs, vt⟩, hx⟩ := x
    obtain ⟨a1, n1, d1, a2, n2, d2, a3, n3, d3, e1, e2, e3⟩ := hok1.forms
    dsimp only at *
    subst e1 e2 e3
    have c0 : W.cell? ⟨Bx, 0, none⟩ = some (.int .i64 ua) := by rw [Lib.cell_of_heap hX]; rfl
    have c1 : W.cell? ⟨Bx, 1, none⟩ = some (.int .i64 un) := by rw [Lib.cell_of_heap hX]; rfl
    have c2 : W.cell? ⟨Bx, 2, none⟩ = some (.slice a1 n1 d1) := by rw [Lib.cell_of_heap hX]; rfl
    have c3 : W.cell? ⟨Bx, 3, none⟩ = some (.slice a2 n2 d2) := by rw [Lib.cell_of_heap hX]; rfl
    have c4 : W.cell? ⟨Bx, 4, none⟩ = some (.slice a3 n3 d3) := by rw [Lib.cell_of_heap hX]; rfl
    obtain ⟨av, cv, rfl⟩ := own_slice hr1
    have cS := bS1.cell
    have hsW := hB1.size
    have h1' : 1 ≤ 3 - 1 - 1 := by decide
    gi_wp2_with (first
      | (gi_at_builtin; refine wpListIn_append_own _ rfl _ _ 22 rfl w.heap.size 30 i0 _ 5 88 Tryz.underlying22 hi hz0 hz1 hz2 rfl (by decide) _ _ _ rfl (hr1.alloc _) ⟨W.heap.size, 0, none⟩ 1 1 [.int .i64 ua, .int .i64 un, .slice a1 n1 d1, .slice a2 n2 d2, .slice a3 n3 d3] rfl rfl (news5 W _ _ _ _ _ 30) (by intro u hu; simp at hu; rcases hu with rfl | rfl | rfl | rfl | rfl <;> rfl) (by unfold maxLen; omega) (by omega) (by simp; omega) ?_; intro v' w1 hown' hgrow _; obtain ⟨g', cap', rfl⟩ := ownsRow_succ hown'; obtain ⟨hv1, hv2, hr2, hk2, hb2⟩ := bS1.appended (by decide) hr1 hsW (Nat.le_refl _) hown' hgrow; have hc1 := hv1.cell; have hf1 := hv1.frozen)
      | gi_in)
    refine ⟨hk2.from _, hKo _ _ hk2 hb2, ⟨_, hv2, ?_, trivial⟩, hB1.trans hb2⟩
    simp only [List.length_append, List.length_cons, List.length_nil, List.map_append, List.map_cons, List.map_nil, List.flatten_append, List.flatten_cons, List.flatten_nil, List.append_nil]
    exact hr2
  case done =>
    rintro D xs W hD hSx ⟨⟨v1, bS1, hr1, _⟩, hB1⟩ hK
    obtain ⟨av, cv, rfl⟩ := own_slice hr1
    have cS := bS1.cell
    gi_wp2
    refine ⟨by simp, .inl ⟨_, _, rfl, run_takeDeferred hK, ?_⟩⟩
    refine ⟨_, results_tmp rfl _ _ _, _, xs.map (·.1), rfl, hS xs hSx, ?_, ?_⟩
    · have := ownsRow_putObj hr1 (.deferred none) hK rfl
      show World.ownsRow _ _ _ _ _ _ _
      rw [List.length_map]
      exact this
    · exact hB1.trans (belowK_b (w := w) (Nat.le_refl _) W D _ _ (by omega) hK rfl rfl)
  case stop =>
    rintro D c' pre W _ _ h _
    exact h.elim
end Go.Proofs.YtmfaodapofamfaaGreat

/- Collect, SortedFunc, copies: updates of an iterator, sorted, copied. -/
namespace Go.Proofs.YtmfaodapofamfaaGreat
open Go.RowKit Go.Shelf Go.Maps

/-- A function that gives these updates, in some order. -/
structure SeqU (gf : Nat) (lb : Array Value) (c : List Uv) (w : World) : Prop where
  eg : ∀ args w, (callFunc gf args).run Tryz.prog w = .ok (.enter gf args) w
  seq : ∃ (Kp : World → World → Prop) (S Sp : List (UvIn c) → Prop), (∀ {A B C : World}, Kp A B → Kp B C → Kp A C) ∧ (∀ (W : World) (l : Nat) (o o' : Obj), w.heap.size ≤ l → W.heap[l]? = some o → o.isCells = false → o.isWalk = false → Kp W (W.putObj l o')) ∧ (∀ A B : World, KeepsOthers A B → Below w.heap.size A B → Kp A B) ∧
    (∀ xs, S xs → (xs.map (·.1)).Perm c) ∧ (∀ z, Below w.heap.size w z → SeqStopsK Fence.wide 2 Tryz.prog gf lb (fun x : UvIn c => inEnc x) Kp S Sp c.length z)
theorem rise_sorted : ∀ {l : List Wr.Up}, l.Pairwise (fun a b => ¬ Dg.uOrd b a < 0) → (l.map Wr.Up.id).Nodup → Wr.rise Dg.uOrd l = true
  | [], _, _ => rfl
  | a :: r, h, hn => by
    rw [List.pairwise_cons] at h
    rw [List.map_cons, List.nodup_cons] at hn
    refine Dg.rise_cons.mpr ⟨fun v hv => ?_, rise_sorted h.2 hn.2⟩
    exact Dg.uOrd_total (h.1 v hv) (fun e => hn.1 (e ▸ List.mem_map.mpr ⟨v, hv, rfl⟩))
set_option maxRecDepth 100000 in
set_option maxHeartbeats 2000000 in
theorem collect_any (gf : Nat) (lb : Array Value) (c : List Uv) (hl : c.length ≤ 1000) (w : World) (hok : ∀ x, x ∈ c → UvOk w x) (hs : SeqU gf lb c w) :
    Calls Tryz.prog 106 #[.func (.func gf) #[] lb] w fun e w' => ∃ (v : Value) (q : List Uv), e = .returned v ∧ q.Perm c ∧ URow w' w.heap.size v q ∧ Below w.heap.size w w' := by
  obtain ⟨eg, Kp, S, Sp, h1, h2, h3, h4, h5⟩ := hs
  have HC : Hid (Calls Tryz.prog 115 #[.slice none 0 0, .func (.func gf) #[] lb] w fun e w' => ∃ (v : Value) (q : List Uv), e = .returned v ∧ q.Perm c ∧ URow w' w.heap.size v q ∧ Below w.heap.size w w') := appendSeq_any gf lb eg c hl w hok Kp h1 h2 h3 S Sp h4 h5
  clear h1 h2 h3 h4 h5 hok eg
  go_enter Tryz.func106, Tryz.ntmps106
  go_wp2_with (go_at_call 115; refine Calls.mono HC.out ?_; rintro e z1 ⟨v1, q1, rfl, hp1, hr1, hb1⟩; obtain ⟨a1, c1, rfl⟩ := own_slice hr1)
  go_ret
  exact ⟨_, q1, rfl, hp1, hr1, hb1⟩
set_option maxRecDepth 100000 in
set_option maxHeartbeats 2000000 in
theorem sorted_any (gf : Nat) (lb : Array Value) (c : List Uv) (hl : c.length ≤ 1000) (w : World) (hok : ∀ x, x ∈ c → UvOk w x) (hnd : ((ups c).map Wr.Up.id).Nodup) (hs : SeqU gf lb c w) :
    Calls Tryz.prog 75 #[.func (.func gf) #[] lb, .func (.func 76) #[] #[]] w fun e w' => ∃ (v : Value) (q : List Uv), e = .returned v ∧ q.Perm c ∧ Wr.rise Dg.uOrd (ups q) = true ∧ URow w' w.heap.size v q ∧ Below w.heap.size w w' := by
  have HC : Hid (Calls Tryz.prog 106 #[.func (.func gf) #[] lb] w fun e w' => ∃ (v : Value) (q : List Uv), e = .returned v ∧ q.Perm c ∧ URow w' w.heap.size v q ∧ Below w.heap.size w w') := collect_any gf lb c hl w hok hs
  have HO : Hid (∀ x, x ∈ c → UvOk w x) := hok
  have HN : Hid (((ups c).map Wr.Up.id).Nodup) := hnd
  clear hs hok hnd
  go_enter Tryz.func75, Tryz.ntmps75
  go_upto_region 2 with (go_at_call 106; refine Calls.mono HC.out ?_; rintro e z1 ⟨v1, q1, rfl, hp1, hr1, hb1⟩; obtain ⟨a1, c1, rfl⟩ := own_slice hr1)
  have HP1 : Hid (q1.Perm c) := hp1
  have hl1 : q1.length ≤ 1000 := by rw [hp1.length_eq]; exact hl
  have HB1 : Hid (Below w.heap.size w z1) := hb1
  clear HC hp1 hb1
  rcases ownsRow_forms9 hr1 with ⟨hv, hq0⟩ | ⟨g, c2, hv⟩
  · injection hv with e1 e2 e3
    subst e1 e3
    have hq1 : q1 = [] := List.eq_nil_of_length_eq_zero hq0
    subst hq1
    have hs := AnyF.slices_SortFunc_none Tryz.sortU none 0 (.func (.func 76) #[] #[]) z1
    change Calls Tryz.prog 107 _ _ _ at hs
    have HSS : Hid _ := hs
    have HR1 : Hid (URow z1 w.heap.size (.slice none 0 0) []) := hr1
    clear hs hr1
    simp only [List.length_nil]
    go_wp2_with fail
    refine Calls.mono HSS.out ?_
    rintro e w5 ⟨rfl, rfl⟩
    go_wp2_with fail
    go_ret
    exact ⟨_, [], rfl, HP1.out, rfl, HR1.out, HB1.out⟩
  · injection hv with e1 e2 e3
    subst e1 e3
    have HS : Hid (Calls Tryz.prog 107 #[.slice (some ⟨g, 0, none⟩) q1.length c1, .func (.func 76) #[] #[]] z1 fun e w' => e = .returned (.tuple #[]) ∧ ∃ q', q'.Perm q1 ∧ (ups q').Pairwise (fun a b => ¬ Dg.uOrd b a < 0) ∧ UGRow w' w.heap.size g c1 q' ∧ z1.grownBy w' (some g)) := sortU_any w z1 w.heap.size g c1 q1 hr1 (fun p hp => HO.out p (HP1.out.mem_iff.mp hp)) (by omega)
    have HLT : Hid (w.heap.size ≤ g ∧ g < z1.heap.size) := hr1.lt g rfl
    clear hr1
    go_wp2_with fail
    refine Calls.mono HS.out ?_
    rintro e w5 ⟨rfl, q2, hp2, hpw, hr2, hg2⟩
    have HP2 : Hid (q2.Perm c) := hp2.trans HP1.out
    have HRI : Hid (Wr.rise Dg.uOrd (ups q2) = true) := rise_sorted (hpw.imp (fun h => by omega)) (nodup_perm HP2.out HN.out)
    have HB2 : Hid (Below w.heap.size w w5) := HB1.out.grown hg2 HB1.out.size (fun k e => by cases e; exact HLT.out.1)
    have HR2 : Hid (URow w5 w.heap.size (.slice (some ⟨g, 0, none⟩) q1.length c1) q2) := by
      have h9 := hr2
      unfold UGRow at h9
      rw [hp2.length_eq] at h9
      show World.ownsRow _ _ _ _ _ _ _
      rw [hp2.length_eq]
      exact h9
    clear hp2 hpw hr2 hg2 HS
    go_wp2_with fail
    go_ret
    exact ⟨_, q2, rfl, HP2.out, HRI.out, HR2.out, HB2.out⟩
set_option maxRecDepth 100000 in
set_option maxHeartbeats 2000000 in
theorem copies_any (gf : Nat) (lb : Array Value) (c : List Uv) (hl : c.length ≤ 1000) (w : World) (hok : ∀ x, x ∈ c → UvOk w x) (hfew : ∀ x, x ∈ c → Few x.u) (hnd : ((ups c).map Wr.Up.id).Nodup) (hs : SeqU gf lb c w) :
    Calls Tryz.prog 33 #[.func (.func gf) #[] lb] w fun e w' => ∃ (v : Value) (R : List Uv), e = .returned v ∧ (ups R).Perm (ups c) ∧ Wr.rise Dg.uOrd (ups R) = true ∧ URow w' w.heap.size v R ∧ (∀ x, x ∈ R → UvP w.heap.size w' x) ∧ Below w.heap.size w w' := by
  have HC : Hid (Calls Tryz.prog 75 #[.func (.func gf) #[] lb, .func (.func 76) #[] #[]] w fun e w' => ∃ (v : Value) (q : List Uv), e = .returned v ∧ q.Perm c ∧ Wr.rise Dg.uOrd (ups q) = true ∧ URow w' w.heap.size v q ∧ Below w.heap.size w w') := sorted_any gf lb c hl w hok hnd hs
  have HO : Hid (∀ x, x ∈ c → UvOk w x ∧ Few x.u) := fun x hx => ⟨hok x hx, hfew x hx⟩
  clear hs hok hnd hfew
  go_enter Tryz.func33, Tryz.ntmps33
  go_wp2_with fail
  refine Calls.mono HC.out ?_
  rintro e z1 ⟨v1, q1, rfl, hp1, hri, hr1, hb1⟩
  have HD : Hid (Calls Tryz.prog 74 #[v1] z1 fun e w' => ∃ (R : List Uv) (v' : Value), e = .returned v' ∧ URow w' z1.heap.size v' R ∧ ups R = ups q1 ∧ (∀ x, x ∈ R → UvP z1.heap.size w' x) ∧ Below z1.heap.size z1 w') := Copies_any q1 v1 z1 (own_ups hr1) (fun x hx => (HO.out x (hp1.mem_iff.mp hx)).1.below hb1) (fun x hx => (HO.out x (hp1.mem_iff.mp hx)).2) (by rw [hp1.length_eq]; exact hl)
  obtain ⟨a1, c1, rfl⟩ := own_slice hr1
  have HP : Hid (q1.Perm c) := hp1
  have HRI : Hid (Wr.rise Dg.uOrd (ups q1) = true) := hri
  have HB : Hid (Below w.heap.size w z1) := hb1
  clear hp1 hri hr1 hb1 HC
  go_wp2_with fail
  refine Calls.mono HD.out ?_
  rintro e z2 ⟨R, v2, rfl, hr2, hu2, hp2, hb2⟩
  obtain ⟨a2, c2, rfl⟩ := own_slice hr2
  have HB2 : Hid (Below w.heap.size w z2) := HB.out.trans (hb2.mono HB.out.size)
  have HR2 : Hid (URow z2 w.heap.size (.slice a2 R.length c2) R) := rl_own_le hr2 HB.out.size
  have HP2 : Hid (∀ x, x ∈ R → UvP w.heap.size z2 x) := fun x hx => (hp2 x hx).le HB.out.size
  have HU2 : Hid (ups R = ups q1) := hu2
  clear hr2 hu2 hp2 hb2 HD
  go_wp2_with fail
  go_ret
  exact ⟨_, R, rfl, by rw [HU2.out]; exact HP.out.map _, by rw [HU2.out]; exact HRI.out, HR2.out, HP2.out, HB2.out⟩
set_option maxRecDepth 100000 in
set_option maxHeartbeats 2000000 in
/-- maps.Values and slices.Values. -/
theorem mvals_any (b : Nat) (c : List Uv) (w : World) (hM : CmAt w b c) : Calls Tryz.prog 34 #[.map (some b)] w fun e w' => ∃ lb, e = .returned (.func (.func 77) #[] lb) ∧ SeqU 77 lb c w' ∧ Below w.heap.size w w' := by
  have HB : Hid (Below w.heap.size w (w.alloc (.cells #[.map (some b)] 64))) := (Below.refl _ _).alloc (Nat.le_refl _) _
  have HS : Hid (SeqU 77 #[.pointer (some ⟨w.heap.size, 0, none⟩)] c (w.alloc (.cells #[.map (some b)] 64))) := ⟨enters_of Tryz.func77 (by kernel_rfl) rfl, KeepsWalks, fun ys => (ys.map (·.1)).Perm c, fun _ => True, walksK_t, fun W l o o' h1 h2 h3 h4 => walksK_b (w := w.alloc (.cells #[.map (some b)] 64)) W l o o' h1 h2 h3 h4, fun A B h _ => h.walks, fun xs h => h, fun z hz => mvalues_stops Fence.wide 2 trivial rfl (by decide) w.heap.size b c z ((hM.below HB.out).below hz) ((hz.block _ (by simp)).trans (rl_new w _))⟩
  clear hM
  go_enter Tryz.func34, Tryz.ntmps34
  go_wp2_with fail
  go_ret
  exact ⟨_, rfl, HS.out, HB.out⟩
set_option maxRecDepth 100000 in
set_option maxHeartbeats 2000000 in
theorem svals_any (q : List Uv) (v : Value) (w : World) (hV : UpsV w v q) (hl : q.length ≤ 1000) (hok : ∀ x, x ∈ q → UvOk w x) : Calls Tryz.prog 35 #[v] w fun e w' => ∃ lb, e = .returned (.func (.func 78) #[] lb) ∧ SeqU 78 lb q w' ∧ Below w.heap.size w w' := by
  obtain ⟨ao, cap, rfl, _, hA⟩ := hV
  have HB : Hid (Below w.heap.size w (w.alloc (.cells #[.slice ao q.length cap] 22))) := (Below.refl _ _).alloc (Nat.le_refl _) _
  have HS : Hid (SeqU 78 #[.pointer (some ⟨w.heap.size, 0, none⟩)] q (w.alloc (.cells #[.slice ao q.length cap] 22))) := ⟨enters_of Tryz.func78 (by kernel_rfl) rfl, Below w.heap.size, fun ys => ys.map (·.1) = q, fun _ => True, belowK_t, fun W l o o' h1 h2 h3 h4 => belowK_b (w := w.alloc (.cells #[.slice ao q.length cap] 22)) (by simp) W l o o' h1 h2 h3 h4, fun A B _ h => h.mono (by simp), fun xs h => by rw [h], fun z hz => by
    have hz0 := HB.out.trans (hz.mono HB.out.size)
    exact values_stops Fence.wide 2 trivial rfl (by decide) w.heap.size w.heap.size ao cap q hl z (fun x hx => (hok x hx).below hz0) hz0.size ((hz.block _ (by simp)).trans (rl_new w _)) (hA.kc (Kc.below hz0)) (fun b off e hne => by
      rcases hA with h | ⟨b2, off2, e2, h2⟩
      · exact absurd h hne
      · rw [e2] at e
        cases e
        exact cell_lt (h2 0 (by cases q with | nil => exact absurd rfl hne | cons _ _ => simp)).1)⟩
  clear hA hok
  go_enter Tryz.func35, Tryz.ntmps35
  go_wp2_with fail
  go_ret
  exact ⟨_, rfl, HS.out, HB.out⟩
end Go.Proofs.YtmfaodapofamfaaGreat

