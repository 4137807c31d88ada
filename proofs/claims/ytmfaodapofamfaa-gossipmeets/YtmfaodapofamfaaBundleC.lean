/- Own texts, one behind the other (part 3). -/
import Derived.Test.YtmfaodapofamfaaBundleB
import Derived.Test.YtmfaodapofamfaaRows
import Derived.RangeFuncNested
import Derived.RangeFuncBound
import Derived.RangeFuncCalls
import Derived.RangeFuncLeaves
import Derived.RangeFuncBox
import Derived.Sort.MapsRangeIn
import Derived.Shelf.Abstract
import Derived.Shelf.RegionOpen
import Derived.WalkKit
import Derived.OwnWalkIn
import Derived.TacticsInMore
import Derived.LoopNIn
import Derived.LoopIn
import Derived.Shelf.SlSortCmp.WholeK
import Derived.Ground.SlsfProg
import Derived.Test.YtmfaodapofamfaaProg
import Derived.Laws.AppendOwnNone
import Derived.Orders
import Derived.Lib.BufferMore
/- Package dag: checkTogether and Check. -/
namespace Go.Proofs.Ytmfaodapofamfaa
open Go.RowKit Go.Maps

theorem one_id {w : World} {v : Value} {x : Wr.Id} (g : Nat) (h0 : w.cell? ⟨g, 0, none⟩ = some (.int .i64 x.a)) (h1 : w.cell? ⟨g, 1, none⟩ = some (.int .i64 x.n)) (hv : v = .slice (some ⟨g, 0, none⟩) 1 1) : IdsV w v [x] := by
  subst hv
  refine ⟨_, 1, rfl, ⟨Nat.le_refl _, fun h => by cases h⟩, .inr ⟨g, 0, rfl, fun i hi => ?_⟩⟩
  have : i = 0 := by simp at hi; exact hi
  subst this
  exact ⟨h0, h1⟩
set_option maxRecDepth 100000 in
set_option maxHeartbeats 1000000 in
theorem held1_any (B hb : Nat) (c : List Uv) (x : Uv) (w w0 : World) (hM : CmAt w B c) (hbx : w.cell? ⟨hb, 0, none⟩ = some (.map (some B))) (hx : UvOk w0 x) (hi : Wr.isId x.u.id = true) :
    Calls Try.prog 49 #[uvVal x, .pointer (some ⟨hb, 0, none⟩)] w fun e w' => e = .returned (.bool (Dg.hasU (ups c) x.u.id)) ∧ Below w.heap.size w w' := by
  obtain ⟨a1, n1, d1, a2, n2, d2, a3, n3, d3, e1, e2, e3⟩ := hx.forms
  obtain ⟨⟨⟨ua, un⟩, ps, says, ts⟩, vp, vs, vt⟩ := x
  dsimp only at *
  subst e1 e2 e3
  have hb1 : Below w.heap.size w ((w.alloc (.cells #[.int .i64 ua, .int .i64 un, .slice a1 n1 d1, .slice a2 n2 d2, .slice a3 n3 d3] 34)).alloc (.cells #[.int .i64 ua, .int .i64 un] 30)) := ((Below.refl _ _).alloc (Nat.le_refl _) _).alloc (by simp) _
  have HB1 : Hid (Below w.heap.size w ((w.alloc (.cells #[.int .i64 ua, .int .i64 un, .slice a1 n1 d1, .slice a2 n2 d2, .slice a3 n3 d3] 34)).alloc (.cells #[.int .i64 ua, .int .i64 un] 30))) := hb1
  have c9 : (w.alloc (.cells #[.int .i64 ua, .int .i64 un, .slice a1 n1 d1, .slice a2 n2 d2, .slice a3 n3 d3] 34)).cell? ⟨hb, 0, none⟩ = some (.map (some B)) := cell_below ((Below.refl _ _).alloc (Nat.le_refl _) _) hbx
  have HC : Hid (Calls Try.prog 50 #[.map (some B), .slice (some ⟨w.heap.size + 1, 0, none⟩) 1 1] ((w.alloc (.cells #[.int .i64 ua, .int .i64 un, .slice a1 n1 d1, .slice a2 n2 d2, .slice a3 n3 d3] 34)).alloc (.cells #[.int .i64 ua, .int .i64 un] 30)) fun e w' => e = .returned (.bool (Dg.hasU (ups c) ⟨ua, un⟩)) ∧ Below ((w.alloc (.cells #[.int .i64 ua, .int .i64 un, .slice a1 n1 d1, .slice a2 n2 d2, .slice a3 n3 d3] 34)).alloc (.cells #[.int .i64 ua, .int .i64 un] 30)).heap.size ((w.alloc (.cells #[.int .i64 ua, .int .i64 un, .slice a1 n1 d1, .slice a2 n2 d2, .slice a3 n3 d3] 34)).alloc (.cells #[.int .i64 ua, .int .i64 un] 30)) w') := by
    have h := hold_any B c [⟨ua, un⟩] (.slice (some ⟨w.heap.size + 1, 0, none⟩) 1 1) _ (hM.below hb1) (one_id (w.heap.size + 1) (by rw [← World.size_alloc w]; exact (cat_cell _ _ _ 0).trans rfl) (by rw [← World.size_alloc w]; exact (cat_cell _ _ _ 1).trans rfl) rfl) (by simp) (fun y hy => by rw [List.mem_singleton.mp hy]; exact hi)
    refine h.mono ?_
    rintro e w' ⟨rfl, h2⟩
    refine ⟨?_, h2⟩
    rw [List.all_cons, List.all_nil, Bool.and_true]
  generalize Dg.hasU (ups c) ⟨ua, un⟩ = bb at *
  clear hM hx hi hb1
  go_enter Try.func49, Try.ntmps49
  go_wp2_with (go_at_call 50; refine Calls.mono HC.out ?_; rintro e z1 ⟨rfl, hg1⟩)
  go_ret
  exact ⟨rfl, HB1.out.trans (hg1.mono HB1.out.size)⟩
set_option maxRecDepth 100000 in
set_option maxHeartbeats 1000000 in
theorem held2_any (B hb : Nat) (c : List Uv) (x : Uv) (w : World) (hM : CmAt w B c) (hbx : w.cell? ⟨hb, 0, none⟩ = some (.map (some B))) (hx : UvOk w x) (hi : IdsOk x.u) :
    Calls Try.prog 51 #[uvVal x, .pointer (some ⟨hb, 0, none⟩)] w fun e w' => e = .returned (.bool (!Dg.carry (ups c) x.u)) ∧ Below w.heap.size w w' := by
  have h1 := hi.lp
  have h2 := hi.lt
  obtain ⟨a1, n1, d1, a2, n2, d2, a3, n3, d3, e1, e2, e3⟩ := hx.forms
  have HC : Hid (∀ z, Below w.heap.size w z → Calls Try.prog 52 #[.map (some B), uvVal x] z fun e w' => e = .returned (.bool (Dg.carry (ups c) x.u)) ∧ Below z.heap.size z w') := fun z hz => carry_any B c x z (hM.below hz) (hx.below hz) (by omega) hi.ps hi.ts
  generalize Dg.carry (ups c) x.u = bb at *
  obtain ⟨⟨⟨ua, un⟩, ps, says, ts⟩, vp, vs, vt⟩ := x
  dsimp only at *
  subst e1 e2 e3
  have HB1 : Hid (Below w.heap.size w (w.alloc (.cells #[.int .i64 ua, .int .i64 un, .slice a1 n1 d1, .slice a2 n2 d2, .slice a3 n3 d3] 34))) := (Below.refl _ _).alloc (Nat.le_refl _) _
  have c9 : (w.alloc (.cells #[.int .i64 ua, .int .i64 un, .slice a1 n1 d1, .slice a2 n2 d2, .slice a3 n3 d3] 34)).cell? ⟨hb, 0, none⟩ = some (.map (some B)) := cell_below HB1.out hbx
  clear hM hx hi h1 h2
  go_enter Try.func51, Try.ntmps51
  go_wp2_with (go_at_call 52; refine Calls.mono (HC.out _ HB1.out) ?_; rintro e z1 ⟨rfl, hg1⟩)
  go_ret
  exact ⟨rfl, HB1.out.trans (hg1.mono HB1.out.size)⟩

abbrev repVal (hv wv : Value) : Value := .agg #[hv, wv]
theorem together_a {h w : List Wr.Up} (e : (Wr.rise Dg.uOrd h && Wr.rise Dg.uOrd w && !(w.any fun u => Dg.hasU h u.id)) = false) : Dg.together h w = 4 := by
  unfold Dg.together; rw [if_pos e]
theorem together_b {h w : List Wr.Up} (e1 : Wr.rise Dg.uOrd h = true) (e2 : Wr.rise Dg.uOrd w = true) (e3 : (w.any fun u => Dg.hasU h u.id) = false) (e4 : (h.any fun u => !Dg.carry h u) = true) : Dg.together h w = 5 := by
  unfold Dg.together; rw [e1, e2, e3, e4]; rfl
theorem together_c {h w : List Wr.Up} (e1 : Wr.rise Dg.uOrd h = true) (e2 : Wr.rise Dg.uOrd w = true) (e3 : (w.any fun u => Dg.hasU h u.id) = false) (e4 : (h.any fun u => !Dg.carry h u) = false) : Dg.together h w = if ((Dg.settle Dg.snoc [] h).2.length != 0 || w.any (Dg.carry h)) = true then 4 else 0 := by
  unfold Dg.together; rw [e1, e2, e3, e4]; rfl
set_option maxRecDepth 100000 in
set_option maxHeartbeats 2000000 in
theorem checkTogether_any (hq wq : List Uv) (hv wv : Value) (w : World) (hV : UpsV w hv hq) (wV : UpsV w wv wq) (hl : hq.length + wq.length ≤ 1000) (hok : ∀ x, x ∈ hq ++ wq → UvOk w x) (hid : ∀ x, x ∈ hq ++ wq → IdsOk x.u) :
    Calls Try.prog 24 #[repVal hv wv] w fun e w' => e = .returned (.int .i64 (Dg.together (ups hq) (ups wq))) ∧ Below w.heap.size w w' := by
  have HO : Hid ((∀ x, x ∈ hq → UvOk w x ∧ IdsOk x.u) ∧ (∀ x, x ∈ wq → UvOk w x ∧ IdsOk x.u)) := ⟨fun x hx => ⟨hok x (List.mem_append_left _ hx), hid x (List.mem_append_left _ hx)⟩, fun x hx => ⟨hok x (List.mem_append_right _ hx), hid x (List.mem_append_right _ hx)⟩⟩
  have HHV : Hid (UpsV w hv hq) := hV
  have HWV : Hid (UpsV w wv wq) := wV
  obtain ⟨ah, ch, rfl, _⟩ := hV
  obtain ⟨aw, cw, rfl, _⟩ := wV
  clear hok hid
  have HB1 : Hid (Below w.heap.size w (w.alloc (.cells #[.slice ah hq.length ch, .slice aw wq.length cw] 24))) := (Below.refl _ _).alloc (Nat.le_refl _) _
  have HH1 : Hid ((w.alloc (.cells #[.slice ah hq.length ch, .slice aw wq.length cw] 24)).heap[w.heap.size]? = some (.cells #[.slice ah hq.length ch, .slice aw wq.length cw] 24)) := rl_new w _
  go_enter Try.func24, Try.ntmps24
  go_upto_region 1 with fail
  generalize w.alloc (.cells #[.slice ah hq.length ch, .slice aw wq.length cw] 24) = w1 at *
  have c0 : w1.cell? ⟨w.heap.size, 0, none⟩ = some (.slice ah hq.length ch) := by rw [Lib.cell_of_heap HH1.out]; rfl
  have HC1 : Hid (Calls Try.prog 45 #[.slice ah hq.length ch] w1 fun e w' => e = .returned (.map (some w1.heap.size)) ∧ MapOf w' w1.heap.size hq.length hq ∧ Below w1.heap.size w1 w') := byIds_any hq _ w1 (HHV.out.kc (Kc.below HB1.out)) (by omega) (fun x hx => (HO.out.1 x hx).1.below HB1.out) (fun x hx => (HO.out.1 x hx).2.id)
  go_upto_region 2 with (go_at_call 45; refine Calls.mono HC1.out ?_; rintro e w2 ⟨rfl, hm2, hb2⟩)
  have HB3 : Hid (Below w1.heap.size w1 (w2.alloc (.cells #[.map (some w1.heap.size)] 82))) := hb2.alloc hb2.size _
  have HX3 : Hid ((w2.alloc (.cells #[.map (some w1.heap.size)] 82)).heap[w2.heap.size]? = some (.cells #[.map (some w1.heap.size)] 82)) := rl_new w2 _
  have HM3 : Hid (((ups hq).map Wr.Up.id).Nodup → CmAt (w2.alloc (.cells #[.map (some w1.heap.size)] 82)) w1.heap.size hq) := fun hn => (hm2.at_ hn).below ((Below.refl _ _).alloc (Nat.le_refl _) _)
  clear hm2 hb2 HC1 c0
  generalize w2.heap.size = hb at *
  generalize w2.alloc (.cells #[.map (some w1.heap.size)] 82) = w3 at *
  have HB0 : Hid (Below w.heap.size w w3) := HB1.out.trans (HB3.out.mono HB1.out.size)
  have HF : Hid (∀ z, Below w3.heap.size w3 z → z.cell? ⟨w.heap.size, 0, none⟩ = some (.slice ah hq.length ch) ∧ z.cell? ⟨w.heap.size, 1, none⟩ = some (.slice aw wq.length cw) ∧ z.cell? ⟨hb, 0, none⟩ = some (.map (some w1.heap.size))) := fun z hz => by
    have hx1 := HB3.out.trans (hz.mono HB3.out.size)
    have hh1 := (hx1.block _ (Array.getElem?_eq_some_iff.1 HH1.out).1).trans HH1.out
    have hh2 := (hz.block _ (Array.getElem?_eq_some_iff.1 HX3.out).1).trans HX3.out
    exact ⟨by rw [Lib.cell_of_heap hh1]; rfl, by rw [Lib.cell_of_heap hh1]; rfl, by rw [Lib.cell_of_heap hh2]; rfl⟩
  have HT : Hid (∀ z, Below w3.heap.size w3 z → Below w.heap.size w z) := fun z hz => HB0.out.trans (hz.mono HB0.out.size)
  have HR1 : Hid (∀ z, Below w3.heap.size w3 z → Calls Try.prog 46 #[.slice ah hq.length ch, .func (.func 47) #[] #[]] z fun e w' => e = .returned (.bool (Wr.rise Dg.uOrd (ups hq))) ∧ Below w3.heap.size w3 w') := fun z hz =>
    (RiseU_any hq _ z (HHV.out.kc (Kc.below (HT.out z hz))) (by omega) (fun x hx => (HO.out.1 x hx).1.below (HT.out z hz))).mono fun _ _ h => ⟨h.1, hz.trans (h.2.mono hz.size)⟩
  have HR2 : Hid (∀ z, Below w3.heap.size w3 z → Calls Try.prog 46 #[.slice aw wq.length cw, .func (.func 47) #[] #[]] z fun e w' => e = .returned (.bool (Wr.rise Dg.uOrd (ups wq))) ∧ Below w3.heap.size w3 w') := fun z hz =>
    (RiseU_any wq _ z (HWV.out.kc (Kc.below (HT.out z hz))) (by omega) (fun x hx => (HO.out.2 x hx).1.below (HT.out z hz))).mono fun _ _ h => ⟨h.1, hz.trans (h.2.mono hz.size)⟩
  have HK3 : Hid (Wr.rise Dg.uOrd (ups hq) = true → ∀ z, Below w3.heap.size w3 z → Calls Try.prog 48 #[.slice aw wq.length cw, .func (.func 49) #[] #[.pointer (some ⟨hb, 0, none⟩)]] z fun e w' => e = .returned (.bool ((ups wq).any fun u => Dg.hasU (ups hq) u.id)) ∧ Below w3.heap.size w3 w') := fun hr z hz =>
    (containsA_any hb (fun u => Dg.hasU (ups hq) u.id) wq _ z (HWV.out.kc (Kc.below (HT.out z hz))) (by omega) (fun x hx => (HO.out.2 x hx).1.below (HT.out z hz)) (fun y x hy hx => by
      have hzy := hz.trans (hy.mono hz.size)
      exact held1_any w1.heap.size hb hq x y w ((HM3.out (Dg.rise_nodup hr)).below hzy) (HF.out y hzy).2.2 (HO.out.2 x hx).1 (HO.out.2 x hx).2.id)).mono fun _ _ h => ⟨h.1, hz.trans (h.2.mono hz.size)⟩
  have HK4 : Hid (Wr.rise Dg.uOrd (ups hq) = true → ∀ z, Below w3.heap.size w3 z → Calls Try.prog 48 #[.slice ah hq.length ch, .func (.func 51) #[] #[.pointer (some ⟨hb, 0, none⟩)]] z fun e w' => e = .returned (.bool ((ups hq).any fun u => !Dg.carry (ups hq) u)) ∧ Below w3.heap.size w3 w') := fun hr z hz =>
    (containsB_any hb (fun u => !Dg.carry (ups hq) u) hq _ z (HHV.out.kc (Kc.below (HT.out z hz))) (by omega) (fun x hx => (HO.out.1 x hx).1.below (HT.out z hz)) (fun y x hy hx => by
      have hzy := hz.trans (hy.mono hz.size)
      exact held2_any w1.heap.size hb hq x y ((HM3.out (Dg.rise_nodup hr)).below hzy) (HF.out y hzy).2.2 ((HO.out.1 x hx).1.below (HT.out y hzy)) (HO.out.1 x hx).2)).mono fun _ _ h => ⟨h.1, hz.trans (h.2.mono hz.size)⟩
  have HK5 : Hid (Wr.rise Dg.uOrd (ups hq) = true → ∀ z, Below w3.heap.size w3 z → Calls Try.prog 53 #[.slice ah hq.length ch] z fun e w' => ∃ (m : Value) (a : Option Addr) (c : Nat), e = .returned (.tuple #[m, .slice a (Dg.settle Dg.snoc [] (ups hq)).2.length c]) ∧ (∃ k, m = .map (some k)) ∧ Below w3.heap.size w3 w') := fun hr z hz =>
    (settle_any hq _ z (HHV.out.kc (Kc.below (HT.out z hz))) (by omega) (fun x hx => (HO.out.1 x hx).1.below (HT.out z hz)) (fun x hx => (HO.out.1 x hx).2) (Dg.rise_nodup hr)).mono (by
      rintro e w' ⟨c, l, v, rfl, hs, _, _, hrow, hb⟩
      obtain ⟨a, cc, rfl⟩ := own_slice hrow
      refine ⟨.map (some z.heap.size), a, cc, ?_, ⟨_, rfl⟩, hz.trans (hb.mono hz.size)⟩
      rw [hs]
      show _ = Ending.returned (.tuple #[_, .slice a (ups l).length cc])
      rw [ups_length])
  have HK6 : Hid (Wr.rise Dg.uOrd (ups hq) = true → ∀ z, Below w3.heap.size w3 z → Calls Try.prog 48 #[.slice aw wq.length cw, .func (.func 52) #[.map (some w1.heap.size)] #[]] z fun e w' => e = .returned (.bool ((ups wq).any (Dg.carry (ups hq)))) ∧ Below w3.heap.size w3 w') := fun hr z hz =>
    (containsC_any w1.heap.size (Dg.carry (ups hq)) wq _ z (HWV.out.kc (Kc.below (HT.out z hz))) (by omega) (fun x hx => (HO.out.2 x hx).1.below (HT.out z hz)) (fun y x hy hx => by
      have hzy := hz.trans (hy.mono hz.size)
      have hi := (HO.out.2 x hx).2
      have g1 := hi.lp
      have g2 := hi.lt
      exact carry_any w1.heap.size hq x y ((HM3.out (Dg.rise_nodup hr)).below hzy) ((HO.out.2 x hx).1.below (HT.out y hzy)) (by omega) hi.ps hi.ts)).mono fun _ _ h => ⟨h.1, hz.trans (h.2.mono hz.size)⟩
  have HA : Hid ((Wr.rise Dg.uOrd (ups hq) && Wr.rise Dg.uOrd (ups wq) && !((ups wq).any fun u => Dg.hasU (ups hq) u.id)) = false → Dg.together (ups hq) (ups wq) = 4) := together_a
  have HBb : Hid (Wr.rise Dg.uOrd (ups hq) = true → Wr.rise Dg.uOrd (ups wq) = true → ((ups wq).any fun u => Dg.hasU (ups hq) u.id) = false → ((ups hq).any fun u => !Dg.carry (ups hq) u) = true → Dg.together (ups hq) (ups wq) = 5) := together_b
  have HCc : Hid (Wr.rise Dg.uOrd (ups hq) = true → Wr.rise Dg.uOrd (ups wq) = true → ((ups wq).any fun u => Dg.hasU (ups hq) u.id) = false → ((ups hq).any fun u => !Dg.carry (ups hq) u) = false → Dg.together (ups hq) (ups wq) = if ((Dg.settle Dg.snoc [] (ups hq)).2.length != 0 || (ups wq).any (Dg.carry (ups hq))) = true then 4 else 0) := together_c
  generalize Wr.rise Dg.uOrd (ups hq) = r1 at *
  generalize Wr.rise Dg.uOrd (ups wq) = r2 at *
  generalize ((ups wq).any fun u => Dg.hasU (ups hq) u.id) = r3 at *
  generalize ((ups hq).any fun u => !Dg.carry (ups hq) u) = r4 at *
  generalize (Dg.settle Dg.snoc [] (ups hq)).2.length = n5 at *
  generalize (ups wq).any (Dg.carry (ups hq)) = r6 at *
  clear HHV HWV HO HM3 HB1 HH1 HB3 HX3 HB0
  obtain ⟨c0, c1, c2⟩ := HF.out w3 (Below.refl _ _)
  have HE : Hid (Below w3.heap.size w3 w3) := Below.refl _ _
  cases r1
  · have HTG : Hid (Dg.together (ups hq) (ups wq) = 4) := HA.out rfl
    go_wp2_with (go_at_call 46; refine Calls.mono (HR1.out _ HE.out) ?_; rintro e z1 ⟨rfl, hg1⟩)
    go_ret
    exact ⟨by rw [HTG.out]; rfl, HT.out _ hg1⟩
  have hk3 := HK3.out rfl
  have hk4 := HK4.out rfl
  have hk5 := HK5.out rfl
  have hk6 := HK6.out rfl
  clear HK3 HK4 HK5 HK6
  have HK3 : Hid _ := hk3
  have HK4 : Hid _ := hk4
  have HK5 : Hid _ := hk5
  have HK6 : Hid _ := hk6
  clear hk3 hk4 hk5 hk6
  cases r2
  · have HTG : Hid (Dg.together (ups hq) (ups wq) = 4) := HA.out rfl
    clear HA HBb HCc HK3 HK4 HK5 HK6
    go_wp2_with (first
      | (go_at_call 46; (with_reducible refine Calls.mono (HR1.out _ HE.out) ?_); clear HR1; rintro e z1 ⟨rfl, hg1⟩; obtain ⟨c0, c1, c2⟩ := HF.out z1 hg1; have HG1 : Hid _ := hg1)
      | (go_at_call 46; (with_reducible refine Calls.mono (HR2.out _ HG1.out) ?_); rintro e z2 ⟨rfl, hg2⟩))
    go_ret
    exact ⟨by rw [HTG.out]; rfl, HT.out _ hg2⟩
  cases r3
  rotate_left
  · have HTG : Hid (Dg.together (ups hq) (ups wq) = 4) := HA.out rfl
    clear HA HBb HCc HK4 HK5 HK6
    go_wp2_with (first
      | (go_at_call 46; (with_reducible refine Calls.mono (HR1.out _ HE.out) ?_); clear HR1; rintro e z1 ⟨rfl, hg1⟩; obtain ⟨c0, c1, c2⟩ := HF.out z1 hg1; have HG1 : Hid _ := hg1)
      | (go_at_call 46; (with_reducible refine Calls.mono (HR2.out _ HG1.out) ?_); clear HR2; rintro e z2 ⟨rfl, hg2⟩; obtain ⟨c0, c1, c2⟩ := HF.out z2 hg2; have HG2 : Hid _ := hg2)
      | (go_at_call 48; (with_reducible refine Calls.mono (HK3.out _ HG2.out) ?_); rintro e z3 ⟨rfl, hg3⟩))
    go_ret
    exact ⟨by rw [HTG.out]; rfl, HT.out _ hg3⟩
  clear HA
  have HB5 : Hid (r4 = true → Dg.together (ups hq) (ups wq) = 5) := fun h => HBb.out rfl rfl rfl h
  have HC5 : Hid (r4 = false → Dg.together (ups hq) (ups wq) = if (n5 != 0 || r6) = true then 4 else 0) := fun h => HCc.out rfl rfl rfl h
  clear HBb HCc
  go_upto_region 4 with (first
      | (go_at_call 46; (with_reducible refine Calls.mono (HR1.out _ HE.out) ?_); clear HR1; rintro e z1 ⟨rfl, hg1⟩; obtain ⟨c0, c1, c2⟩ := HF.out z1 hg1; have HG1 : Hid _ := hg1)
      | (go_at_call 46; (with_reducible refine Calls.mono (HR2.out _ HG1.out) ?_); clear HR2; rintro e z2 ⟨rfl, hg2⟩; obtain ⟨c0, c1, c2⟩ := HF.out z2 hg2; have HG2 : Hid _ := hg2)
      | (go_at_call 48; (with_reducible refine Calls.mono (HK3.out _ HG2.out) ?_); clear HK3; rintro e z3 ⟨rfl, hg3⟩))
  clear c0 c1 c2 HG1 HG2
  obtain ⟨c0, c1, c2⟩ := HF.out z3 hg3
  have HG3 : Hid (Below w3.heap.size w3 z3) := hg3
  clear hg1 hg2 hg3
  cases r4
  rotate_left
  · have HTG : Hid (Dg.together (ups hq) (ups wq) = 5) := HB5.out rfl
    go_wp2_with (go_at_call 48; (with_reducible refine Calls.mono (HK4.out _ HG3.out) ?_); rintro e z4 ⟨rfl, hg4⟩)
    go_ret
    exact ⟨by rw [HTG.out]; rfl, HT.out _ hg4⟩
  clear HB5
  have HC2 := HC5.out rfl
  clear HC5
  go_upto_region 6 with (go_at_call 48; (with_reducible refine Calls.mono (HK4.out _ HG3.out) ?_); rintro e z4 ⟨rfl, hg4⟩)
  clear c0 c1 c2 HK4 HG3
  obtain ⟨c0, c1, c2⟩ := HF.out z4 hg4
  have HG4 : Hid (Below w3.heap.size w3 z4) := hg4
  clear hg4
  go_upto_region 7 with (go_at_call 53; (with_reducible refine Calls.mono (HK5.out _ HG4.out) ?_); rintro e z5 ⟨m5, a5, k5, rfl, ⟨b5, rfl⟩, hg5⟩)
  clear c0 c1 c2 HK5 HG4
  obtain ⟨c0, c1, c2⟩ := HF.out z5 hg5
  have HG5 : Hid (Below w3.heap.size w3 z5) := hg5
  clear hg5
  by_cases h0 : 0 < n5
  · have g0 : decide ((0 : Int) < (n5 : Int)) = true := decide_eq_true (by omega)
    have g1 : decide (0 < n5) = true := decide_eq_true h0
    have HTG : Hid (Dg.together (ups hq) (ups wq) = 4) := by
      show _ = _
      rw [HC2]
      have : (n5 != 0) = true := by simp; omega
      rw [this]
      rfl
    clear HC2
    go_wp2_with fail
    go_ret
    exact ⟨by rw [HTG.out]; rfl, HT.out _ HG5.out⟩
  · have g0 : decide ((0 : Int) < (n5 : Int)) = false := decide_eq_false (by omega)
    have g1 : decide (0 < n5) = false := decide_eq_false h0
    have hn5 : (n5 != 0) = false := by simp; omega
    rw [hn5, Bool.false_or] at HC2
    cases r6
    · have HTG : Hid (Dg.together (ups hq) (ups wq) = 0) := HC2
      clear HC2
      go_wp2_with (go_at_call 48; (with_reducible refine Calls.mono (HK6.out _ HG5.out) ?_); rintro e z6 ⟨rfl, hg6⟩)
      go_ret
      exact ⟨by rw [HTG.out]; rfl, HT.out _ hg6⟩
    · have HTG : Hid (Dg.together (ups hq) (ups wq) = 4) := HC2
      clear HC2
      go_wp2_with (go_at_call 48; (with_reducible refine Calls.mono (HK6.out _ HG5.out) ?_); rintro e z6 ⟨rfl, hg6⟩)
      go_ret
      exact ⟨by rw [HTG.out]; rfl, HT.out _ hg6⟩

theorem first_step (l : List Wr.Up) (u : Wr.Up) (h : Wr.check u = 0) : Dg.first (u :: l) = Dg.first l := by
  unfold Dg.first
  rw [List.find?_cons, show Dg.bad u = false from by simp [Dg.bad, h]]
theorem first_stop (l : List Wr.Up) (u : Wr.Up) (h : ¬ Wr.check u = 0) : Dg.first (u :: l) = Wr.check u := by
  unfold Dg.first
  rw [List.find?_cons, show Dg.bad u = true from by simp [Dg.bad, h]]
set_option maxRecDepth 100000 in
set_option maxHeartbeats 2000000 in
theorem DCheck_any (hq wq : List Uv) (hv wv : Value) (w : World) (hV : UpsV w hv hq) (wV : UpsV w wv wq) (hl : hq.length ≤ 4611686018427387903 ∧ wq.length ≤ 4611686018427387903) (hok : ∀ x, x ∈ hq ++ wq → UvOk w x) :
    Calls Try.prog 14 #[repVal hv wv] w fun e w' => e = .returned (.int .i64 (Dg.check (ups hq) (ups wq))) ∧ Below w.heap.size w w' := by
  have HO : Hid (∀ x, x ∈ hq ++ wq → UvOk w x) := hok
  have HHV : Hid (UpsV w hv hq) := hV
  have HWV : Hid (UpsV w wv wq) := wV
  obtain ⟨ah, ch, rfl, hch, _⟩ := hV
  obtain ⟨aw, cw, rfl, hcw, _⟩ := wV
  clear hok
  have HB1 : Hid (Below w.heap.size w (w.alloc (.cells #[.slice ah hq.length ch, .slice aw wq.length cw] 24))) := (Below.refl _ _).alloc (Nat.le_refl _) _
  have HH1 : Hid ((w.alloc (.cells #[.slice ah hq.length ch, .slice aw wq.length cw] 24)).heap[w.heap.size]? = some (.cells #[.slice ah hq.length ch, .slice aw wq.length cw] 24)) := rl_new w _
  have HCH : Hid (ah = none → ch = 0) := hch.2
  have HCW : Hid (aw = none → cw = 0) := hcw.2
  clear hch hcw
  go_enter Try.func14, Try.ntmps14
  go_upto_region 1 with fail
  generalize w.alloc (.cells #[.slice ah hq.length ch, .slice aw wq.length cw] 24) = w1 at *
  have HF : Hid (∀ z, Below w1.heap.size w1 z → z.cell? ⟨w.heap.size, 0, none⟩ = some (.slice ah hq.length ch) ∧ z.cell? ⟨w.heap.size, 1, none⟩ = some (.slice aw wq.length cw)) := fun z hz => by
    have hh1 := (hz.block _ (Array.getElem?_eq_some_iff.1 HH1.out).1).trans HH1.out
    exact ⟨by rw [Lib.cell_of_heap hh1]; rfl, by rw [Lib.cell_of_heap hh1]; rfl⟩
  obtain ⟨c0, c1⟩ := HF.out w1 (Below.refl _ _)
  have hwr : IntKind.i64.wrap ((hq.length : Int) + (wq.length : Int)) = ((hq.length + wq.length : Nat) : Int) := by
    rw [← Int.natCast_add]
    simp [IntKind.wrap, IntKind.bits, IntKind.signed]
    omega
  by_cases hmany : 200 < hq.length + wq.length
  · have g0 : decide ((200 : Int) < ((hq.length + wq.length : Nat) : Int)) = true := decide_eq_true (by omega)
    have g1 : decide (200 < hq.length + wq.length) = true := decide_eq_true hmany
    have HTG : Hid (Dg.check (ups hq) (ups wq) = 2) := by
      show _ = _
      unfold Dg.check
      rw [ups_length, ups_length, if_pos hmany]
    clear HF HO
    go_wp2_with fail
    go_ret
    exact ⟨by rw [HTG.out]; rfl, HB1.out⟩
  have g0 : decide ((200 : Int) < ((hq.length + wq.length : Nat) : Int)) = false := decide_eq_false (by omega)
  have g1 : decide (200 < hq.length + wq.length) = false := decide_eq_false hmany
  have HTG : Hid (Dg.check (ups hq) (ups wq) = if Dg.first (ups (hq ++ wq)) ≠ 0 then Dg.first (ups (hq ++ wq)) else Dg.together (ups hq) (ups wq)) := by
    show _ = _
    unfold Dg.check
    rw [ups_length, ups_length, if_neg hmany, ups_append]
  obtain ⟨q, HQE⟩ : ∃ q, Hid (q = hq ++ wq) := ⟨_, rfl⟩
  rw [← HQE.out] at HTG
  go_upto_region 3 with fail
  have HB2 : Hid (Below w1.heap.size w1 (w1.alloc (.cells #[.slice ah hq.length ch, .slice aw wq.length cw] 22))) := (Below.refl _ _).alloc (Nat.le_refl _) _
  have HC2 : Hid (Calls Try.prog 22 #[.slice (some ⟨w1.heap.size, 0, none⟩) 2 2] (w1.alloc (.cells #[.slice ah hq.length ch, .slice aw wq.length cw] 22)) fun e w' => ∃ v', e = .returned v' ∧ URow w' (w1.alloc (.cells #[.slice ah hq.length ch, .slice aw wq.length cw] 22)).heap.size v' q ∧ Below w1.heap.size w1 w') := by
    have hb := HB1.out.trans (HB2.out.mono HB1.out.size)
    obtain ⟨_, _, e1, _, k1⟩ := HHV.out.kc (Kc.below hb)
    obtain ⟨_, _, e2, _, k2⟩ := HWV.out.kc (Kc.below hb)
    cases e1
    cases e2
    refine (concatU_any hq wq w1.heap.size ah aw ch cw _ ⟨k1, HCH.out⟩ ⟨k2, HCW.out⟩ (cat_cell _ _ _ 0) (cat_cell _ _ _ 1) (by omega) (fun x hx => (HO.out x hx).below hb)).mono ?_
    rintro e w' ⟨v', h1, h2, h3⟩
    exact ⟨v', h1, by rw [HQE.out]; exact h2, HB2.out.trans (h3.mono HB2.out.size)⟩
  go_upto_region 4 with (go_at_call 22; refine Calls.mono HC2.out ?_; rintro e w2 ⟨v2, rfl, hrow2, hb2⟩; obtain ⟨a2, k2, rfl⟩ := own_slice hrow2)
  have HR2 : Hid (UpsV w2 (.slice a2 q.length k2) q) := own_ups hrow2
  have HG2 : Hid (Below w1.heap.size w1 w2) := hb2
  clear hrow2 hb2 HC2 HB2 c0 c1
  have HT : Hid (∀ z, Below w1.heap.size w1 z → Below w.heap.size w z) := fun z hz => HB1.out.trans (hz.mono HB1.out.size)
  have hlen : q.length ≤ 200 := by rw [HQE.out, List.length_append]; omega
  have HQ : Hid (hq.length + wq.length ≤ 200) := by show _ ≤ _; omega
  have HAPP : Hid (∀ x, x ∈ q → UvOk w2 x) := fun x hx => (HO.out x (HQE.out ▸ hx)).below (HT.out _ HG2.out)
  have HCT : Hid ((∀ u, u ∈ ups q → Wr.check u = 0) → ∀ z, Below w1.heap.size w1 z → Calls Try.prog 24 #[repVal (.slice ah hq.length ch) (.slice aw wq.length cw)] z fun e w' => e = .returned (.int .i64 (Dg.together (ups hq) (ups wq))) ∧ Below w1.heap.size w1 w') := fun hz0 z hz =>
    (checkTogether_any hq wq _ _ z (HHV.out.kc (Kc.below (HT.out z hz))) (HWV.out.kc (Kc.below (HT.out z hz))) (by omega) (fun x hx => (HO.out x hx).below (HT.out z hz)) (fun x hx => idsOk_of (hz0 _ (List.mem_map.mpr ⟨x, HQE.out ▸ hx, rfl⟩)))).mono fun _ _ h => ⟨h.1, hz.trans (h.2.mono hz.size)⟩
  clear HHV HWV HO hwr g0 g1 hmany hl HH1
  go_wp2_with fail
  go_loopw [21] (fun iv wr => ∃ k : Nat, k ≤ q.length ∧ iv = .int .i64 k ∧ Hid (Dg.first (ups q) = Dg.first (ups (q.drop k))) ∧ Hid (Below w2.heap.size w2 wr)) (fun iv _ => q.length - (intOf iv).toNat)
  case atStart => exact ⟨0, Nat.zero_le _, rfl, rfl, Below.refl _ _⟩
  case round =>
    obtain ⟨k, hk, rfl, HR, HG⟩ := hrel
    have HG1 : Hid (Below w1.heap.size w1 wr) := HG2.out.trans (HG.out.mono HG2.out.size)
    by_cases hlt : k < q.length
    · obtain ⟨_, _, e9, _, hA⟩ := HR2.out.kc (Kc.below HG.out)
      cases e9
      obtain ⟨b, off, rfl, d0, d1, d2, d3, d4⟩ := ups_at hA k hlt
      have hx := (HAPP.out _ (uvD_mem q k hlt)).below HG.out
      have HD1 : Hid (Wr.check (uvD q k).u = 0 → Dg.first (ups q) = Dg.first (ups (q.drop (k + 1)))) := fun h => by
        rw [HR.out, uvD_drop q k hlt]
        exact first_step _ _ h
      have HD2 : Hid (¬ Wr.check (uvD q k).u = 0 → Dg.first (ups q) = Wr.check (uvD q k).u) := fun h => by
        rw [HR.out, uvD_drop q k hlt]
        exact first_stop _ _ h
      have HC : Hid (∀ z, Below wr.heap.size wr z → Calls Try.prog 23 #[uvVal (uvD q k)] z fun e w' => e = .returned (.int .i64 (Wr.check (uvD q k).u)) ∧ Below wr.heap.size wr w') := fun z hz =>
        (Check_any (uvD q k).u _ _ _ z (hx.below hz).p (hx.below hz).s (hx.below hz).t hx.f hx.l).mono fun _ _ h => ⟨h.1, hz.trans (h.2.mono hz.size)⟩
      obtain ⟨a1, n1, f1, a3, n3, f3, a4, n4, f4, e1, e2, e3⟩ := hx.forms
      clear HR hx hA
      generalize uvD q k = x at *
      generalize Wr.check x.u = ck at *
      obtain ⟨⟨⟨ua, un⟩, ps, says, ts⟩, vp, vs, vt⟩ := x
      dsimp only at *
      subst e1 e2 e3
      have HBN : Hid (Below wr.heap.size wr (wr.alloc (.cells #[.int .i64 ua, .int .i64 un, .slice a1 n1 f1, .slice a3 n3 f3, .slice a4 n4 f4] 34))) := (Below.refl _ _).alloc (Nat.le_refl _) _
      by_cases hck : ck = 0
      · have HD3 : Hid _ := HD1.out hck
        subst hck
        go_wp2_with (go_at_call 23; refine Calls.mono (HC.out _ HBN.out) ?_; rintro e z1 ⟨rfl, hg1⟩)
        have HG3 : Hid (Below w2.heap.size w2 z1) := HG.out.trans (hg1.mono HG.out.size)
        go_roundw
        case rel => exact ⟨k + 1, hlt, by go_num, HD3.out, HG3.out⟩
        case measure => simp [intOf]; omega
      · have HD3 : Hid _ := HD2.out hck
        have hne : (ck != 0) = true := by simpa using hck
        have HTG2 : Hid (Dg.check (ups hq) (ups wq) = ck) := by
          show _ = _
          rw [HTG.out, HD3.out, if_pos hck]
        go_wp2_with (go_at_call 23; refine Calls.mono (HC.out _ HBN.out) ?_; rintro e z1 ⟨rfl, hg1⟩)
        go_ret
        exact ⟨by rw [HTG2.out]; rfl, HT.out _ (HG1.out.trans (hg1.mono HG1.out.size))⟩
    · have hdd : decide (k < q.length) = false := decide_eq_false hlt
      have h0 : Dg.first (ups q) = 0 := by
        rw [HR.out, List.drop_of_length_le (by omega)]
        rfl
      have HTG2 : Hid (Dg.check (ups hq) (ups wq) = Dg.together (ups hq) (ups wq)) := by
        show _ = _
        rw [HTG.out, if_neg (fun e => e h0)]
      have hct := HCT.out (Dg.first_ok.mp h0) wr HG1.out
      have HCT2 : Hid (Calls Try.prog 24 #[repVal (.slice ah hq.length ch) (.slice aw wq.length cw)] wr fun e w' => e = .returned (.int .i64 (Dg.together (ups hq) (ups wq))) ∧ Below w1.heap.size w1 w') := hct
      obtain ⟨c0, c1⟩ := HF.out wr HG1.out
      clear HCT hct HR h0
      go_wp2_with (go_at_call 24; refine Calls.mono HCT2.out ?_; rintro e z1 ⟨rfl, hg1⟩)
      go_ret
      exact ⟨by rw [HTG2.out]; rfl, HT.out _ hg1⟩
end Go.Proofs.Ytmfaodapofamfaa

/- Iterators over updates: those of a map, those of a slice; AppendSeq. -/
namespace Go.Proofs.Ytmfaodapofamfaa
open Go.RowKit Go.Shelf Go.Maps
attribute [local go_sem] Oper.semAt_some

abbrev UvIn (c : List Uv) := { x : Uv // x ∈ c }
abbrev inEnc {c : List Uv} (x : UvIn c) : Array Value := #[uvVal x.1]

set_option maxRecDepth 100000 in
set_option maxHeartbeats 2000000 in
/-- slices.Values's closure. -/
theorem values1_in (F : Fence) (n : Nat) (h7 : F.fn 74) (hro : F.round = none) (hn : 1 ≤ n) (l Bs n₀ b off cap : Nat) (q : List Uv) (hl : q.length ≤ 1000) (hb : b < n₀) (w0 : World) (hok : ∀ x, x ∈ q → UvOk w0 x) (J Jx : List (UvIn q) → World → Prop)
    (hY : ∀ pre x W, J pre W → pre.length < q.length → YieldAt F (n - 1) Try.prog l (inEnc x) W fun e W' =>
      (e = .returned (.bool true) ∧ J (pre ++ [x]) W' ∧ Below n₀ W W') ∨ (e = .returned (.bool false) ∧ Jx (pre ++ [x]) W'))
    (W : World) (hJ : AbidesFrom W.heap.size J) (hn0 : n₀ ≤ W.heap.size) (hBs : W.cell? ⟨Bs, 0, none⟩ = some (.slice (some ⟨b, off, none⟩) q.length cap)) (hc : ∀ i, i < q.length → UpIn W b (off + i * 5) (uvD q i)) (h0 : J [] W) :
    CallsIn F n Try.prog 74 #[.func (.yield l) #[] #[], .pointer (some ⟨Bs, 0, none⟩)] W fun e W' => (∃ v, e = .returned v) ∧
      ((∃ ys : List (UvIn q), ys.map (·.1) = q ∧ J ys W') ∨ (∃ pre : List (UvIn q), True ∧ Jx pre W')) := by
  refine callsIn_of_wp Try.func74 rfl h7 ?_ hro
  simp only [Try.ntmps74, List.size_toArray, List.length_cons, List.length_nil, Nat.reduceAdd, Nat.reduceSub, Array.replicate_succ, Array.replicate_zero, List.push_toArray, List.append_toArray, List.nil_append, List.cons_append]
  gi_wp2
  gi_loopw [7] (fun i wr => ∃ (k : Nat) (ys : List (UvIn q)), k ≤ q.length ∧ i = .int .i64 k ∧ Hid (ys.map (·.1) = q.take k) ∧ J ys wr ∧ Below n₀ W wr)
    (fun i _ => q.length - (intOf i).toNat)
  case atStart => exact ⟨0, [], Nat.zero_le _, rfl, rfl, h0, Below.refl _ _⟩
  case round =>
    obtain ⟨k, ys, hk, rfl, HYS, hJs, hnx⟩ := hrel
    by_cases hlt : k < q.length
    · have hin := hc k hlt
      have HLE : Hid (ys.length = k) := by
        have := congrArg List.length HYS.out
        rw [List.length_map, List.length_take] at this
        show _ = _
        omega
      obtain ⟨c0, c1, c2, c3, c4⟩ : UpIn wr b (off + k * 5) (uvD q k) := ⟨(hnx.cell (p := ⟨b, _, none⟩) hb).trans hin.1, (hnx.cell (p := ⟨b, _, none⟩) hb).trans hin.2.1, (hnx.cell (p := ⟨b, _, none⟩) hb).trans hin.2.2.1, (hnx.cell (p := ⟨b, _, none⟩) hb).trans hin.2.2.2.1, (hnx.cell (p := ⟨b, _, none⟩) hb).trans hin.2.2.2.2⟩
      have hmem := uvD_mem q k hlt
      obtain ⟨a1, n1, d1, a2, n2, d2, a3, n3, d3, e1, e2, e3⟩ := (hok _ hmem).forms
      have HST : Hid (q.take (k + 1) = q.take k ++ [uvD q k]) := uvD_take q k hlt
      generalize uvD q k = x at *
      obtain ⟨⟨⟨ua, un⟩, ps, says, ts⟩, vp, vs, vt⟩ := x
      dsimp only at *
      subst e1 e2 e3
      have hJ2 := hJ ys wr (wr.alloc (.cells #[.int .i64 ua, .int .i64 un, .slice a1 n1 d1, .slice a2 n2 d2, .slice a3 n3 d3] 34)) none hJs (World.grownBy_alloc _ _ _) (fun r e => by cases e)
      obtain ⟨fn, tmps, assign, body, hy, hR⟩ := hY ys ⟨⟨⟨⟨ua, un⟩, ps, says, ts⟩, .slice a1 n1 d1, .slice a2 n2 d2, .slice a3 n3 d3⟩, hmem⟩ _ hJ2 (by rw [HLE.out]; exact hlt)
      have hnx2 : Below n₀ W (wr.alloc (.cells #[.int .i64 ua, .int .i64 un, .slice a1 n1 d1, .slice a2 n2 d2, .slice a3 n3 d3] 34)) := hnx.alloc (Nat.le_trans hn0 hnx.size) _
      dsimp only [inEnc] at hy hR
      clear hJ2 hin
      gi_wp2
      refine hR.mono ?_
      rintro e W3 (⟨rfl, hJ3, hk3⟩ | ⟨rfl, hJx3⟩)
      · have HYS3 : Hid ((ys ++ [(⟨⟨⟨⟨ua, un⟩, ps, says, ts⟩, .slice a1 n1 d1, .slice a2 n2 d2, .slice a3 n3 d3⟩, hmem⟩ : UvIn q)]).map (·.1) = q.take (k + 1)) := by
          show _ = _
          rw [List.map_append, HYS.out, HST.out]
          rfl
        gi_wp2
        go_roundw
        case rel => exact ⟨k + 1, _, by omega, by go_num, HYS3.out, hJ3, hnx2.trans hk3⟩
        case measure => simp [intOf]; omega
      · gi_wp2
        refine bodyPost_ret (results_none rfl _ _ _) rfl ?_
        exact ⟨⟨_, rfl⟩, .inr ⟨_, trivial, hJx3⟩⟩
    · obtain rfl : k = q.length := by omega
      gi_wp2
      go_end0
      exact ⟨⟨_, rfl⟩, .inl ⟨ys, by rw [HYS.out, List.take_length], hJs⟩⟩

/-- slices.Values(l) hands back what gives them one by one. -/
theorem values_stops (F : Fence) (n : Nat) (h7 : F.fn 74) (hro : F.round = none) (hn : 1 ≤ n) (Bs n₀ : Nat) (ao : Option Addr) (cap : Nat) (q : List Uv) (hl : q.length ≤ 1000) (w : World) (hok : ∀ x, x ∈ q → UvOk w x) (hn₀ : n₀ ≤ w.heap.size)
    (hBs : w.heap[Bs]? = some (.cells #[.slice ao q.length cap] 22)) (hA : UpsAt w ao q) (hlow : ∀ b off, ao = some ⟨b, off, none⟩ → q ≠ [] → b < n₀) :
    SeqStopsK F n Try.prog 74 #[.pointer (some ⟨Bs, 0, none⟩)] (fun x : UvIn q => inEnc x) (Below n₀) (fun ys => ys.map (·.1) = q) (fun _ => True) q.length w := fun l J Jx W hW hJ _ hY h0 => by
  have hc' : W.cell? ⟨Bs, 0, none⟩ = some (.slice ao q.length cap) := by
    rw [Lib.cell_of_heap ((hW.block Bs (Array.getElem?_eq_some_iff.mp hBs).1).trans hBs)]
    rfl
  by_cases hq : q = []
  · -- no round
    subst hq
    have hc2 : W.cell? ⟨Bs, 0, none⟩ = some (.slice ao 0 cap) := hc'
    refine callsIn_of_wp Try.func74 rfl h7 ?_ hro
    simp only [Try.ntmps74, List.size_toArray, List.length_cons, List.length_nil, Nat.reduceAdd, Nat.reduceSub, Array.replicate_succ, Array.replicate_zero, List.push_toArray, List.append_toArray, List.nil_append, List.cons_append]
    gi_wp2
    gi_loopw [7] (fun i wr => i = .int .i64 0 ∧ J [] wr) (fun _ _ => 0)
    case atStart => exact ⟨rfl, h0⟩
    case round =>
      obtain ⟨rfl, hJs⟩ := hrel
      gi_wp2
      go_end0
      exact ⟨⟨_, rfl⟩, .inl ⟨[], rfl, hJs⟩⟩
  · rcases hA with h | ⟨b, off, rfl, hc⟩
    · exact absurd h hq
    · exact values1_in F n h7 hro hn l Bs n₀ b off cap q hl (hlow b off rfl hq) w hok J Jx hY W hJ (Nat.le_trans hn₀ hW.size) hc' (fun i hi => (Kc.below hW).up (hc i hi)) h0

/-- What has come of a map's. -/
structure Came (c : List Uv) (left : Lit → Bool) (xs : List Uv) : Prop where
  nd : xs.Nodup
  mem : ∀ x, x ∈ xs → x ∈ c ∧ left (keyLit x.u.id) = false
  rest : ∀ x, x ∈ c → left (keyLit x.u.id) = true ∨ x ∈ xs
theorem cm_nodup {c : List Uv} (h : ((ups c).map Wr.Up.id).Nodup) : c.Nodup := by
  unfold ups at h
  rw [List.map_map] at h
  exact (List.pairwise_map.mp h).imp (fun h e => h (by rw [e]))
theorem Came.perm {c xs : List Uv} {left : Lit → Bool} (h : Came c left xs) (hc : c.Nodup) (hl : ∀ k, left k = false) : xs.Perm c :=
  (List.perm_ext_iff_of_nodup h.nd hc).mpr fun x => ⟨fun hx => (h.mem x hx).1, fun hx => by
    rcases h.rest x hx with h1 | h1
    · rw [hl] at h1; cases h1
    · exact h1⟩
theorem sameKey_self (x : Wr.Id) : (keyLit x).sameKey (keyLit x) = true := by simp [keyLit, Lit.sameKey]
theorem Came.step {c xs : List Uv} {D : DataW Value} {left : Lit → Bool} (hD : CmD c D) (h : Came c left xs) {y : Uv} (hy : y ∈ c) (hl : left (keyLit y.u.id) = true) : Came c (fun z => left z && !z.sameKey (keyLit y.u.id)) (xs ++ [y]) := by
  have hny : y ∉ xs := fun hx => by have := (h.mem y hx).2; rw [hl] at this; cases this
  refine ⟨?_, fun x hx => ?_, fun x hx => ?_⟩
  · rw [List.nodup_append]
    exact ⟨h.nd, by simp, fun a ha b hb e => by rw [List.mem_singleton.mp hb] at e; exact hny (e ▸ ha)⟩
  · rcases List.mem_append.mp hx with hx | hx
    · exact ⟨(h.mem x hx).1, by rw [(h.mem x hx).2]; rfl⟩
    · rw [List.mem_singleton.mp hx]
      exact ⟨hy, by rw [sameKey_self]; simp⟩
  · rcases h.rest x hx with h1 | h1
    · by_cases e : x.u.id = y.u.id
      · right
        have : x.u = y.u := Dg.apart_of_nodup hD.apart x.u y.u (List.mem_map.mpr ⟨x, hx, rfl⟩) (List.mem_map.mpr ⟨y, hy, rfl⟩) e
        have hxy : x = y := by
          have h2 := hD.at_ x hx (.lit (.bool true))
          have h3 := hD.at_ y hy (.lit (.bool true))
          rw [e, h3] at h2
          injection h2 with h2
          injection h2 with h2
          obtain ⟨xu, xp, xs, xt⟩ := x
          obtain ⟨yu, yp, ys, yt⟩ := y
          dsimp only at this
          subst this
          simp only [Array.mk.injEq, List.cons.injEq, and_true, true_and] at h2
          obtain ⟨rfl, rfl, rfl⟩ := h2
          rfl
        rw [hxy]
        simp
      · left
        have hne : keyLit x.u.id ≠ keyLit y.u.id := fun e2 => e (keyLit_inj (hD.ok x hx) (hD.ok y hy) e2)
        rw [h1, sameKey_ne hne]
        rfl
    · exact .inr (List.mem_append_left _ h1)

set_option maxRecDepth 100000 in
set_option maxHeartbeats 2000000 in
/-- maps.Values's closure. -/
theorem mvalues1_in (F : Fence) (n : Nat) (h7 : F.fn 73) (hro : F.round = none) (hn : 1 ≤ n) (l Bm b : Nat) (c : List Uv) (D : DataW Value) (hD : CmD c D) (J Jx : List (UvIn c) → World → Prop)
    (hY : ∀ pre x W, J pre W → pre.length < c.length → YieldAt F (n - 1) Try.prog l (inEnc x) W fun e W' =>
      (e = .returned (.bool true) ∧ J (pre ++ [x]) W' ∧ KeepsWalks W W') ∨ (e = .returned (.bool false) ∧ Jx (pre ++ [x]) W'))
    (W : World) (hJ : AbidesFrom W.heap.size J) (hm : W.cell? ⟨Bm, 0, none⟩ = some (.map (some b))) (hown : W.ownsMap Try.prog 30 uvElem b c.length D) (h0 : J [] W) :
    CallsIn F n Try.prog 73 #[.func (.yield l) #[] #[], .pointer (some ⟨Bm, 0, none⟩)] W fun e W' => (∃ v, e = .returned v) ∧
      ((∃ ys : List (UvIn c), (ys.map (·.1)).Perm c ∧ J ys W') ∨ (∃ pre : List (UvIn c), True ∧ Jx pre W')) := by
  refine callsIn_of_wp Try.func73 rfl h7 ?_ hro
  simp only [Try.ntmps73, List.size_toArray, List.length_cons, List.length_nil, Nat.reduceAdd, Nat.reduceSub, Array.replicate_succ, Array.replicate_zero, List.push_toArray, List.append_toArray, List.nil_append, List.cons_append]
  gi_wp2_with (first
    | (gi_at_range; refine wpListIn_range_own _ rfl _ 82 rfl 30 34 idLaw Try.underlying82 _ b c.length _ rfl hown ?_; intro w0 hrg0 hg0 hs0)
    | gi_in)
  go_frame
  gi_loopw [4] (fun _ wr => ∃ (left : Lit → Bool) (cnt : Nat) (ys : List (UvIn c)), wr.ranges Try.prog 30 uvElem b W.heap.size c.length D left cnt ∧ ys.length + cnt ≤ c.length ∧ Hid (Came c left (ys.map (·.1))) ∧ J ys wr)
    (fun _ wr => wr.rangeLeft b W.heap.size)
  case atStart =>
    exact ⟨_, _, [], hrg0, by rw [hD.size]; simp, ⟨List.nodup_nil, fun x hx => absurd hx (by simp), fun x hx => .inl (by rw [hD.has _ (hD.ok x hx)]; exact Dg.hasU_iff.mpr ⟨x.u, List.mem_map.mpr ⟨x, hx, rfl⟩, rfl⟩)⟩, hJ [] W w0 none h0 hg0 (fun r e => by cases e)⟩
  case round =>
    obtain ⟨left, cnt, ys, hrg, hcs, HC, hJs⟩ := hrel
    gi_wp2_with (first
      | (gi_at_next; refine wpListIn_next_ranges _ rfl _ rfl 30 idLaw uvElem (fun v : Value => v) fiveVal (fun key kl hk => ⟨key, rfl⟩) (fun v y hv => (uvElem_inv hv).1) b W.heap.size c.length _ _ _ rfl hrg ?_ ?_)
      | gi_in)
    · intro hc0 hl0
      gi_wp2
      go_end0
      exact ⟨⟨_, rfl⟩, .inl ⟨ys, HC.out.perm (cm_nodup hD.apart) hl0, hJs⟩⟩
    · intro x f kl yd yp w2 cnt2 hkey hlk hv hat hrg2 hlt hg2 hs2 hen
      obtain ⟨y, hy, rfl⟩ := hD.only kl (has_true_of_atKey hat)
      have hey : fiveVal f = uvVal y := by
        have h1 := (uvElem_inv hv).2
        have h2 := hat (.lit (.bool true))
        rw [hD.at_ y hy] at h2
        have h3 : yd = .held (fiveVal f) := (Prod.mk.inj h1).1
        rw [h3] at h2
        injection h2 with h2
        exact h2.symm
      have HC2 : Hid (Came c (fun z => left z && !z.sameKey (keyLit y.u.id)) (ys.map (·.1) ++ [y])) := HC.out.step hD hy hlk
      have hJ2 : J ys w2 := hJ _ wr w2 (some W.heap.size) hJs hg2 (fun r e => by cases e; exact ⟨Nat.le_refl _, hrg.iter_walk⟩)
      obtain ⟨ua, un, a1, n1, d1, a2, n2, d2, a3, n3, d3⟩ := f
      have HCnt : Hid (ys.length < c.length) := by show _ < _; omega
      clear hat hv hkey hlk hs2
      have HYT : Hid (hy = hy) := rfl
      generalize hkk : keyLit y.u.id = kl at *
      clear hkk
      obtain ⟨⟨⟨ya, yn⟩, ps, says, ts⟩, vp, vs, vt⟩ := y
      simp only [fiveVal, uvVal, Value.agg.injEq, Array.mk.injEq, List.cons.injEq, Value.int.injEq, and_true, true_and] at hey
      obtain ⟨rfl, rfl, rfl, rfl, rfl⟩ := hey
      have hJ3 := hJ ys w2 (w2.alloc (.cells #[.int .i64 ua, .int .i64 un, .slice a1 n1 d1, .slice a2 n2 d2, .slice a3 n3 d3] 34)) none hJ2 (World.grownBy_alloc _ _ _) (fun r e => by cases e)
      obtain ⟨fn, tmps, assign, body, hyy, hR⟩ := hY ys ⟨⟨⟨⟨ua, un⟩, ps, says, ts⟩, .slice a1 n1 d1, .slice a2 n2 d2, .slice a3 n3 d3⟩, hy⟩ _ hJ3 HCnt.out
      have hrg3 := hrg2.alloc (.cells #[.int .i64 ua, .int .i64 un, .slice a1 n1 d1, .slice a2 n2 d2, .slice a3 n3 d3] 34)
      dsimp only [inEnc] at hyy hR
      clear hJ2 hJ3 HYT
      gi_wp2
      refine hR.mono ?_
      rintro e W3 (⟨rfl, hJ4, hk3⟩ | ⟨rfl, hJx3⟩)
      · gi_wp2
        have hrg4 := hrg3.of_walks hk3
        go_roundw
        case rel => exact ⟨_, cnt2, _, hrg4, by simp; omega, by rw [List.map_append]; exact HC2.out, hJ4⟩
        case measure => rw [hrg4.left_eq, hrg.left_eq]; exact hlt
      · gi_wp2
        refine bodyPost_ret (results_none rfl _ _ _) rfl ?_
        exact ⟨⟨_, rfl⟩, .inr ⟨_, trivial, hJx3⟩⟩
/-- maps.Values(m) hands back what gives them one by one, in some order. -/
theorem mvalues_stops (F : Fence) (n : Nat) (h7 : F.fn 73) (hro : F.round = none) (hn : 1 ≤ n) (Bm b : Nat) (c : List Uv) (w : World) (hM : CmAt w b c) (hBm : w.heap[Bm]? = some (.cells #[.map (some b)] 82)) :
    SeqStopsK F n Try.prog 73 #[.pointer (some ⟨Bm, 0, none⟩)] (fun x : UvIn c => inEnc x) KeepsWalks (fun ys => (ys.map (·.1)).Perm c) (fun _ => True) c.length w := fun l J Jx W hW hJ _ hY h0 => by
  obtain ⟨D, h1, h2⟩ := hM.below hW
  exact mvalues1_in F n h7 hro hn l Bm b c D h2 J Jx hY W hJ (by rw [Lib.cell_of_heap ((hW.block Bm (Array.getElem?_eq_some_iff.mp hBm).1).trans hBm)]; rfl) h1 h0
end Go.Proofs.Ytmfaodapofamfaa

/- The contract of the library sort of updates, laid at this program. -/
namespace Go.Proofs
open Go.Shelf
def Try.sortU_ren : Go.Shelf.Ren := ⟨fun | 6 => 79 | 15 => 82 | 14 => 81 | 28 => 91 | 29 => 92 | 20 => 83 | 21 => 84 | 22 => 85 | 23 => 86 | 24 => 87 | 25 => 88 | 26 => 89 | 27 => 90 | 46 => 93 | 47 => 94 | 48 => 95 | 49 => 96 | 50 => 97 | 57 => 98 | n => n, fun | 22 => 22 | 24 => 34 | 25 => 85 | 3 => 3 | 39 => 98 | 0 => 0 | 53 => 126 | 55 => 128 | 4 => 4 | 46 => 120 | 45 => 119 | 50 => 65 | 5 => 5 | 9 => 9 | 66 => 129 | 70 => 133 | 76 => 135 | 77 => 136 | n => n, fun | n => n⟩
theorem Try.sortU : Go.Proofs.SlLaysF0.n6 Try.prog Try.sortU_ren := {
  mixed := by kernel_rfl
  f6 := ⟨Try.f79.name, by decide, Try.func79.trans (congrArg some (by kernel_rfl))⟩
  f14 := ⟨Try.f81.name, by decide, Try.func81.trans (congrArg some (by kernel_rfl))⟩
  f15 := Try.func82.trans (congrArg some (by kernel_rfl))
  f20 := ⟨Try.f83.name, by decide, Try.func83.trans (congrArg some (by kernel_rfl))⟩
  f21 := ⟨Try.f84.name, by decide, Try.func84.trans (congrArg some (by kernel_rfl))⟩
  f22 := ⟨Try.f85.name, by decide, Try.func85.trans (congrArg some (by kernel_rfl))⟩
  f23 := ⟨Try.f86.name, by decide, Try.func86.trans (congrArg some (by kernel_rfl))⟩
  f24 := ⟨Try.f87.name, by decide, Try.func87.trans (congrArg some (by kernel_rfl))⟩
  f25 := ⟨Try.f88.name, by decide, Try.func88.trans (congrArg some (by kernel_rfl))⟩
  f26 := ⟨Try.f89.name, by decide, Try.func89.trans (congrArg some (by kernel_rfl))⟩
  f27 := ⟨Try.f90.name, by decide, Try.func90.trans (congrArg some (by kernel_rfl))⟩
  f28 := Try.func91.trans (congrArg some (by kernel_rfl))
  f29 := Try.func92.trans (congrArg some (by kernel_rfl))
  f46 := ⟨Try.f93.name, by decide, Try.func93.trans (congrArg some (by kernel_rfl))⟩
  f47 := Try.func94.trans (congrArg some (by kernel_rfl))
  f48 := Try.func95.trans (congrArg some (by kernel_rfl))
  f49 := ⟨Try.f96.name, by decide, Try.func96.trans (congrArg some (by kernel_rfl))⟩
  f50 := ⟨Try.f97.name, by decide, Try.func97.trans (congrArg some (by kernel_rfl))⟩
  f57 := ⟨Try.f98.name, by decide, Try.func98.trans (congrArg some (by kernel_rfl))⟩
  t0 := Try.underlying0
  a0 := Try.isAgg0
  z0 := Try.sizeOf0
  v0 := Try.zeroValue0
  t3 := Try.underlying3
  a3 := Try.isAgg3
  z3 := Try.sizeOf3
  v3 := Try.zeroValue3
  t4 := Try.underlying4
  a4 := Try.isAgg4
  z4 := Try.sizeOf4
  v4 := Try.zeroValue4
  t5 := Try.underlying5
  a5 := Try.isAgg5
  z5 := Try.sizeOf5
  v5 := Try.zeroValue5
  t9 := Try.underlying9
  a9 := Try.isAgg9
  z9 := Try.sizeOf9
  v9 := Try.zeroValue9
  t22 := Try.underlying22
  a22 := Try.isAgg22
  z22 := Try.sizeOf22
  v22 := Try.zeroValue22
  t25 := Try.underlying85
  a25 := Try.isAgg85
  z25 := Try.sizeOf85
  v25 := Try.zeroValue85
  t39 := Try.underlying98
  a39 := Try.isAgg98
  z39 := Try.sizeOf98
  v39 := Try.zeroValue98
  t45 := Try.underlying119
  a45 := Try.isAgg119
  z45 := Try.sizeOf119
  v45 := Try.zeroValue119
  t46 := Try.underlying120
  a46 := Try.isAgg120
  z46 := Try.sizeOf120
  v46 := Try.zeroValue120
  t50 := Try.underlying65
  a50 := Try.isAgg65
  z50 := Try.sizeOf65
  v50 := Try.zeroValue65
  t53 := Try.underlying126
  a53 := Try.isAgg126
  z53 := Try.sizeOf126
  v53 := Try.zeroValue126
  t55 := Try.underlying128
  a55 := Try.isAgg128
  z55 := Try.sizeOf128
  v55 := Try.zeroValue128
  t66 := Try.underlying129
  a66 := Try.isAgg129
  z66 := Try.sizeOf129
  v66 := Try.zeroValue129
  t70 := Try.underlying133
  a70 := Try.isAgg133
  z70 := Try.sizeOf133
  v70 := Try.zeroValue133
  t76 := Try.underlying135
  a76 := Try.isAgg135
  z76 := Try.sizeOf135
  v76 := Try.zeroValue135
  t77 := Try.underlying136
  a77 := Try.isAgg136
  z77 := Try.sizeOf136
  v77 := Try.zeroValue136 }
end Go.Proofs

/- The library's Clone, of updates, facts and ids. -/
namespace Go.Proofs.Ytmfaodapofamfaa
open Go.RowKit

/-- Cells that lie one behind the other. -/
def CellsAt (w : World) (ao : Option Addr) (xs : List Value) : Prop := xs = [] ∨ ∃ b off, ao = some ⟨b, off, none⟩ ∧ ∀ j u, xs[j]? = some u → w.cell? ⟨b, off + j, none⟩ = some u
abbrev idCells (x : Wr.Id) : List Value := [.int .i64 x.a, .int .i64 x.n]
theorem id_info : (Try.prog.info? 30).map (fun i => (i.zero, i.size, i.bytes)) = some (some (.agg #[.int .i64 0, .int .i64 0]), 2, 16) := by kernel_rfl
set_option maxRecDepth 100000 in
set_option maxHeartbeats 1000000 in
theorem cloneU_any (n : Nat) (xs : List Value) (ao : Option Addr) (cap : Nat) (w : World) (hA : CellsAt w ao xs) (hx : xs.length = n * 5) (h1 : ∀ u, u ∈ xs → u.oneCell' = true) (hn : n ≤ 1048576) (h0 : ao = none → n = 0) :
    Calls Try.prog 70 #[.slice ao n cap] w fun e w' => ∃ v', e = .returned v' ∧ w'.ownsRow w.heap.size 34 5 v' n xs ∧ Below w.heap.size w w' := by
  obtain ⟨i0, hi, hz0, hz1, hz2⟩ := info_parts up_info
  have q22 : ∀ (w : World) (a : Option Addr) (n c : Nat), (binOp .eql 22 (.slice a n c) (.slice none 0 0)).run Try.prog w = .ok (.bool a.isNone) w := fun w a n c => Lib.run_eql_slice_nil w 22 34 a n c 0 0 Try.underlying22
  have u22 : ∀ w, Sem.run Try.prog (underlying 22) w = .ok (TypeDesc.slice 34) w := run_underlying Try.underlying22
  have HA : Hid (CellsAt w ao xs) := hA
  have HX : Hid (xs.length = n * 5) := hx
  have H1 : Hid (∀ u, u ∈ xs → u.oneCell' = true) := h1
  clear hA hx h1
  cases ao with
  | none =>
    have hl0 : n = 0 := h0 rfl
    subst hl0
    have HE : Hid (xs = []) := List.eq_nil_of_length_eq_zero (by have := HX.out; omega)
    go_enter Try.func70, Try.ntmps70
    go_wp2_with fail
    go_ret
    exact ⟨_, rfl, by rw [HE.out]; exact World.ownsRow_nil _ _ _ _, Below.refl _ _⟩
  | some a =>
    clear h0
    have HC : Hid (∀ j u, xs[j]? = some u → w.cell? (a.add j) = some u) := by
      intro j u hj
      rcases HA.out with h | ⟨b, off, h, hc⟩
      · rw [h] at hj; simp at hj
      · rw [Option.some.inj h, Addr.add_lit]
        exact hc j u hj
    clear HA
    go_enter Try.func70, Try.ntmps70
    go_wp2_with (at_builtin; refine wpList_append_own _ rfl _ _ 22 rfl w.heap.size 34 i0 _ 5 88 Try.underlying22 hi hz0 hz1 hz2 rfl (by decide) _ _ _ rfl (World.ownsRow_made w #[] 0 (Nat.le_refl _) (Nat.zero_le _) (by simp)) a n cap xs rfl ?qc1 ?qc2 ?qc3 ?qc4 ?qc5 ?qc6 ?_)
    case qc1 => exact HX.out
    case qc2 =>
      intro j u hj
      exact Lib.cell?_alloc_some _ (HC.out j u hj)
    case qc3 => exact H1.out
    case qc4 => unfold maxLen; omega
    case qc5 => omega
    case qc6 => simp
    intro v' w' hown hgrow _
    obtain ⟨a9, c9, rfl⟩ := own_slice hown
    have hb : Below w.heap.size w w' := ((Below.refl w.heap.size w).alloc (Nat.le_refl _) _).grown hgrow (by simp) (fun k hk => by
      have : w.heap.size = k := by simpa [Value.ownBlock] using hk
      omega)
    have HO : Hid (w'.ownsRow w.heap.size 34 5 (.slice a9 n c9) n xs) := hown
    clear hown hgrow
    go_wp2_with fail
    go_ret
    exact ⟨_, rfl, HO.out, hb⟩
set_option maxRecDepth 100000 in
set_option maxHeartbeats 1000000 in
theorem cloneF_any (n : Nat) (xs : List Value) (ao : Option Addr) (cap : Nat) (w : World) (hA : CellsAt w ao xs) (hx : xs.length = n * 2) (h1 : ∀ u, u ∈ xs → u.oneCell' = true) (hn : n ≤ 1048576) (h0 : ao = none → n = 0) :
    Calls Try.prog 33 #[.slice ao n cap] w fun e w' => ∃ v', e = .returned v' ∧ w'.ownsRow w.heap.size 51 2 v' n xs ∧ Below w.heap.size w w' := by
  obtain ⟨i0, hi, hz0, hz1, hz2⟩ := info_parts rl_info49
  have q22 : ∀ (w : World) (a : Option Addr) (n c : Nat), (binOp .eql 32 (.slice a n c) (.slice none 0 0)).run Try.prog w = .ok (.bool a.isNone) w := fun w a n c => Lib.run_eql_slice_nil w 32 51 a n c 0 0 Try.underlying32
  have u22 : ∀ w, Sem.run Try.prog (underlying 32) w = .ok (TypeDesc.slice 51) w := run_underlying Try.underlying32
  have HA : Hid (CellsAt w ao xs) := hA
  have HX : Hid (xs.length = n * 2) := hx
  have H1 : Hid (∀ u, u ∈ xs → u.oneCell' = true) := h1
  clear hA hx h1
  cases ao with
  | none =>
    have hl0 : n = 0 := h0 rfl
    subst hl0
    have HE : Hid (xs = []) := List.eq_nil_of_length_eq_zero (by have := HX.out; omega)
    go_enter Try.func33, Try.ntmps33
    go_wp2_with fail
    go_ret
    exact ⟨_, rfl, by rw [HE.out]; exact World.ownsRow_nil _ _ _ _, Below.refl _ _⟩
  | some a =>
    clear h0
    have HC : Hid (∀ j u, xs[j]? = some u → w.cell? (a.add j) = some u) := by
      intro j u hj
      rcases HA.out with h | ⟨b, off, h, hc⟩
      · rw [h] at hj; simp at hj
      · rw [Option.some.inj h, Addr.add_lit]
        exact hc j u hj
    clear HA
    go_enter Try.func33, Try.ntmps33
    go_wp2_with (at_builtin; refine wpList_append_own _ rfl _ _ 32 rfl w.heap.size 51 i0 _ 2 32 Try.underlying32 hi hz0 hz1 hz2 rfl (by decide) _ _ _ rfl (World.ownsRow_made w #[] 0 (Nat.le_refl _) (Nat.zero_le _) (by simp)) a n cap xs rfl ?qc1 ?qc2 ?qc3 ?qc4 ?qc5 ?qc6 ?_)
    case qc1 => exact HX.out
    case qc2 =>
      intro j u hj
      exact Lib.cell?_alloc_some _ (HC.out j u hj)
    case qc3 => exact H1.out
    case qc4 => unfold maxLen; omega
    case qc5 => omega
    case qc6 => simp
    intro v' w' hown hgrow _
    obtain ⟨a9, c9, rfl⟩ := own_slice hown
    have hb : Below w.heap.size w w' := ((Below.refl w.heap.size w).alloc (Nat.le_refl _) _).grown hgrow (by simp) (fun k hk => by
      have : w.heap.size = k := by simpa [Value.ownBlock] using hk
      omega)
    have HO : Hid (w'.ownsRow w.heap.size 51 2 (.slice a9 n c9) n xs) := hown
    clear hown hgrow
    go_wp2_with fail
    go_ret
    exact ⟨_, rfl, HO.out, hb⟩
set_option maxRecDepth 100000 in
set_option maxHeartbeats 1000000 in
theorem cloneD_any (n : Nat) (xs : List Value) (ao : Option Addr) (cap : Nat) (w : World) (hA : CellsAt w ao xs) (hx : xs.length = n * 2) (h1 : ∀ u, u ∈ xs → u.oneCell' = true) (hn : n ≤ 1048576) (h0 : ao = none → n = 0) :
    Calls Try.prog 35 #[.slice ao n cap] w fun e w' => ∃ v', e = .returned v' ∧ w'.ownsRow w.heap.size 30 2 v' n xs ∧ Below w.heap.size w w' := by
  obtain ⟨i0, hi, hz0, hz1, hz2⟩ := info_parts id_info
  have q22 : ∀ (w : World) (a : Option Addr) (n c : Nat), (binOp .eql 31 (.slice a n c) (.slice none 0 0)).run Try.prog w = .ok (.bool a.isNone) w := fun w a n c => Lib.run_eql_slice_nil w 31 30 a n c 0 0 Try.underlying31
  have u22 : ∀ w, Sem.run Try.prog (underlying 31) w = .ok (TypeDesc.slice 30) w := run_underlying Try.underlying31
  have HA : Hid (CellsAt w ao xs) := hA
  have HX : Hid (xs.length = n * 2) := hx
  have H1 : Hid (∀ u, u ∈ xs → u.oneCell' = true) := h1
  clear hA hx h1
  cases ao with
  | none =>
    have hl0 : n = 0 := h0 rfl
    subst hl0
    have HE : Hid (xs = []) := List.eq_nil_of_length_eq_zero (by have := HX.out; omega)
    go_enter Try.func35, Try.ntmps35
    go_wp2_with fail
    go_ret
    exact ⟨_, rfl, by rw [HE.out]; exact World.ownsRow_nil _ _ _ _, Below.refl _ _⟩
  | some a =>
    clear h0
    have HC : Hid (∀ j u, xs[j]? = some u → w.cell? (a.add j) = some u) := by
      intro j u hj
      rcases HA.out with h | ⟨b, off, h, hc⟩
      · rw [h] at hj; simp at hj
      · rw [Option.some.inj h, Addr.add_lit]
        exact hc j u hj
    clear HA
    go_enter Try.func35, Try.ntmps35
    go_wp2_with (at_builtin; refine wpList_append_own _ rfl _ _ 31 rfl w.heap.size 30 i0 _ 2 16 Try.underlying31 hi hz0 hz1 hz2 rfl (by decide) _ _ _ rfl (World.ownsRow_made w #[] 0 (Nat.le_refl _) (Nat.zero_le _) (by simp)) a n cap xs rfl ?qc1 ?qc2 ?qc3 ?qc4 ?qc5 ?qc6 ?_)
    case qc1 => exact HX.out
    case qc2 =>
      intro j u hj
      exact Lib.cell?_alloc_some _ (HC.out j u hj)
    case qc3 => exact H1.out
    case qc4 => unfold maxLen; omega
    case qc5 => omega
    case qc6 => simp
    intro v' w' hown hgrow _
    obtain ⟨a9, c9, rfl⟩ := own_slice hown
    have hb : Below w.heap.size w w' := ((Below.refl w.heap.size w).alloc (Nat.le_refl _) _).grown hgrow (by simp) (fun k hk => by
      have : w.heap.size = k := by simpa [Value.ownBlock] using hk
      omega)
    have HO : Hid (w'.ownsRow w.heap.size 30 2 (.slice a9 n c9) n xs) := hown
    clear hown hgrow
    go_wp2_with fail
    go_ret
    exact ⟨_, rfl, HO.out, hb⟩

theorem ids_flat (l : List Wr.Id) : (l.map idCells).flatten.length = l.length * 2 := by
  induction l with
  | nil => rfl
  | cons a r ih =>
    rw [List.map_cons, List.flatten_cons, List.length_append, ih]
    show 2 + r.length * 2 = (r.length + 1) * 2
    omega
theorem flatD_get : ∀ (q : List Wr.Id) (i j : Nat), i < q.length → j < 2 → (q.map idCells).flatten[i * 2 + j]? = (idCells (idD q i))[j]?
  | [], i, j, hi, _ => absurd hi (by simp)
  | x :: r, 0, j, _, hj => by
    show (idCells x ++ (r.map idCells).flatten)[0 * 2 + j]? = (idCells x)[j]?
    rw [List.getElem?_append_left (by show 0 * 2 + j < 2; omega)]
    congr 1
    omega
  | x :: r, i + 1, j, hi, hj => by
    have h := flatD_get r i j (by simpa using hi) hj
    show (idCells x ++ (r.map idCells).flatten)[(i + 1) * 2 + j]? = _
    rw [List.getElem?_append_right (by show 2 ≤ _; omega)]
    have e : (i + 1) * 2 + j - (idCells x).length = i * 2 + j := by show (i + 1) * 2 + j - 2 = _; omega
    rw [e, h]
    rfl
theorem ids_cells {w : World} {ao : Option Addr} {l : List Wr.Id} (h : IdsAt w ao l) : CellsAt w ao (l.map idCells).flatten := by
  rcases h with rfl | ⟨b, off, rfl, h⟩
  · exact .inl rfl
  · refine .inr ⟨b, off, rfl, fun j u hj => ?_⟩
    have hjl : j < l.length * 2 := by
      rcases Nat.lt_or_ge j (l.length * 2) with h2 | h2
      · exact h2
      · rw [List.getElem?_eq_none (by rw [ids_flat]; exact h2)] at hj; cases hj
    have hi : j / 2 < l.length := by omega
    have e : j = j / 2 * 2 + j % 2 := by omega
    have hm : j % 2 < 2 := by omega
    rw [e, flatD_get l _ _ hi hm] at hj
    have eo : off + j = off + j / 2 * 2 + j % 2 := by omega
    rw [eo]
    obtain ⟨h0, h1⟩ := h _ hi
    generalize j % 2 = m at *
    match m, hm with
    | 0, _ => rw [← hj]; exact h0
    | 1, _ => rw [← hj]; exact h1
theorem own_ids {W : World} {B : Nat} {v : Value} {l : List Wr.Id} (h : W.ownsRow B 30 2 v l.length (l.map idCells).flatten) : IdsV W v l := by
  obtain ⟨ao, cap, rfl, hcap, hc⟩ := own_cells h
  refine ⟨ao, cap, rfl, ⟨hcap, fun e => ?_⟩, ?_⟩
  · rcases ownsRow_forms9 h with ⟨e2, h0⟩ | ⟨g, c2, e2⟩
    · injection e2
    · injection e2 with e3
      rw [e] at e3
      cases e3
  · rcases hc with h0 | ⟨g, rfl, hg⟩
    · exact .inl (List.eq_nil_of_length_eq_zero h0)
    · refine .inr ⟨g, 0, rfl, fun i hi => ?_⟩
      have key : ∀ j, j < 2 → W.cell? ⟨g, 0 + i * 2 + j, none⟩ = (idCells (idD l i))[j]? := fun j hj => by
        rw [Nat.zero_add, hg (i * 2 + j) (by omega), flatD_get l i j hi hj]
      exact ⟨by have := key 0 (by omega); simpa using this, by have := key 1 (by omega); simpa using this⟩
/-- Clone of updates. -/
theorem cloneUps_any (q : List Uv) (v : Value) (w : World) (hV : UpsV w v q) (hok : ∀ x, x ∈ q → UvOk w x) (hl : q.length ≤ 1000) :
    Calls Try.prog 70 #[v] w fun e w' => ∃ v', e = .returned v' ∧ URow w' w.heap.size v' q ∧ Below w.heap.size w w' := by
  obtain ⟨ao, cap, rfl, hc, hA⟩ := hV
  refine cloneU_any q.length _ ao cap w ?_ (ups_flat q) (uv_one hok) (by omega) (fun h => by have := hc.2 h; omega)
  rcases hA with rfl | ⟨b, off, rfl, h⟩
  · exact .inl rfl
  · exact .inr ⟨b, off, rfl, ups_cells h⟩
end Go.Proofs.Ytmfaodapofamfaa

/- The library's sort, of updates in a row of one's own. -/
namespace Go.Proofs.Ytmfaodapofamfaa
open Go.Shelf Go.RowKit Go.Lib Go.Sort
abbrev UGRow (w : World) (B g cap : Nat) (q : List Uv) : Prop := w.ownsRow B 34 5 (.slice (some ⟨g, 0, none⟩) q.length cap) q.length (q.map uvCells).flatten
abbrev UvS (w : World) := { x : Uv // UvOk w x }
theorem uvOk_nil (w : World) : UvOk w uvZ := ⟨⟨none, 0, rfl, ⟨Nat.le_refl _, fun _ => rfl⟩, .inl rfl⟩, ⟨none, 0, rfl, ⟨Nat.le_refl _, fun _ => rfl⟩, .inl rfl⟩, ⟨none, 0, rfl, ⟨Nat.le_refl _, fun _ => rfl⟩, .inl rfl⟩, fun f hf => absurd hf (by simp [uvZ]), by simp [uvZ]⟩
theorem uc_at (q : List Uv) (t : Nat) (ht : t < q.length * 5) : ∃ x, q[t / 5]? = some x ∧ (q.map uvCells).flatten[t]? = (uvCells x)[t % 5]? := by
  have h1 : t / 5 < q.length := by omega
  have e : t = t / 5 * 5 + t % 5 := by omega
  refine ⟨uvD q (t / 5), ?_, ?_⟩
  · simp [uvD, List.getD_eq_getElem?_getD, h1]
  · have h := flat5_get q (t / 5) (t % 5) h1 (by omega)
    rw [← e] at h
    exact h
theorem uv_lift {w : World} : ∀ {q : List Uv}, (∀ p, p ∈ q → UvOk w p) → ∃ Q : List (UvS w), Q.map (·.1) = q := by
  intro q
  induction q with
  | nil => intro _; exact ⟨[], rfl⟩
  | cons a r ih =>
    intro h
    obtain ⟨Q, hQ⟩ := ih (fun p hp => h p (by simp [hp]))
    exact ⟨⟨a, h a (by simp)⟩ :: Q, by simp [hQ]⟩
abbrev uvInh (w : World) : Inhabited (UvS w) := ⟨⟨_, uvOk_nil w⟩⟩
def uvEnc {w : World} (x : UvS w) : List Value := uvCells x.1
def uvCmp {w : World} (x y : UvS w) : Int := Dg.uOrd x.1.u y.1.u
theorem uv_swo (w : World) : SWO (ltOf (uvCmp (w := w))) where
  irrefl x := by
    unfold ltOf uvCmp
    simp only [decide_eq_false_iff_not]
    intro h
    exact Dg.uOrd_ne h rfl
  trans x y z h1 h2 := by
    unfold ltOf uvCmp at *
    simp only [decide_eq_true_eq] at *
    exact Dg.uOrd_trans h1 h2
  ntrans x y z h1 h2 := by
    unfold ltOf uvCmp at *
    simp only [decide_eq_false_iff_not] at *
    intro h3
    rcases Classical.em (x.1.u.id = y.1.u.id) with e | e
    · unfold Dg.uOrd at *
      rw [e] at h3
      exact h2 h3
    · exact h2 (Dg.uOrd_trans (Dg.uOrd_total h1 e) h3)
theorem uv_oneS {w : World} (x : UvS w) : ∀ v ∈ uvEnc x, v.oneCell' = true := by
  intro v hv
  obtain ⟨a1, n1, d1, a2, n2, d2, a3, n3, d3, e1, e2, e3⟩ := x.2.forms
  simp only [uvEnc, uvCells, e1, e2, e3, List.mem_cons, List.not_mem_nil, or_false] at hv
  rcases hv with rfl | rfl | rfl | rfl | rfl <;> rfl
theorem cmp_laysU {w0 w : World} {g : Nat} (size : Nat) : @CmpLays (UvS w0) (uvInh w0) Try.prog 47 #[] uvEnc 5 uvCmp g 0 size w := by
  letI : Inhabited (UvS w0) := uvInh w0
  intro m os dk _ x y
  exact order_any x.1 y.1 _ w0 x.2 y.2
theorem holds_rowU {w0 w : World} {B g cap : Nat} {Q : List (UvS w0)} (h : UGRow w B g cap (Q.map (·.1))) : @HoldsK (UvS w0) (uvInh w0) uvEnc 5 w g 0 Q.toArray := by
  letI : Inhabited (UvS w0) := uvInh w0
  intro t ht
  have ht2 : t < Q.length * 5 := by simpa using ht
  refine ⟨?_, by rw [Nat.zero_add]; exact World.ownsRow.frozenAt h t⟩
  rw [Nat.zero_add]
  have hc := World.ownsRow.cellAt h t (by rw [List.length_map]; exact ht2)
  obtain ⟨x, hx, hx2⟩ := uc_at (Q.map (·.1)) t (by rw [List.length_map]; exact ht2)
  rw [hc, hx2]
  have h1 : t / 5 < Q.length := by omega
  rw [List.getElem?_map, List.getElem?_eq_getElem h1] at hx
  have hx3 : Q[t / 5].1 = x := by simpa using hx
  show (uvCells x)[t % 5]? = some ((flatK uvEnc 5 Q.toArray)[t]!)
  rw [get_flatK uvEnc 5 Q.toArray t (by simpa using ht2)]
  have h2 : (Q.toArray)[t / 5]! = Q[t / 5] := by simp [h1]
  rw [h2]
  show _ = some ((uvCells Q[t / 5].1)[t % 5]!)
  rw [hx3]
  have h3 : t % 5 < (uvCells x).length := by show t % 5 < 5; omega
  rw [List.getElem?_eq_getElem h3, getElem!_pos (uvCells x) (t % 5) h3]
theorem row_sortedU {w0 w : World} {B g cap n : Nat} {Q : List (UvS w0)} {d : Array (UvS w0)} {os : Array Obj} (h : UGRow w B g cap (Q.map (·.1))) (hd : d.size = Q.length) :
    UGRow (@sortWorldK (UvS w0) (uvInh w0) uvEnc 5 w g 0 n d os) B g cap (d.toList.map (·.1)) := by
  letI : Inhabited (UvS w0) := uvInh w0
  have hg := World.ownsRow.lt h g rfl
  obtain ⟨h1, h2⟩ := h
  rcases h2 with ⟨h2, _⟩ | ⟨g', cap', cur, hv, hb, hh, hc1, hc2, hc3, hc4⟩
  · cases h2
  · injection hv with e1 _ e3
    injection e1 with e1
    injection e1 with e1
    subst e1 e3
    have hl : (d.toList.map (·.1)).length = Q.length := by rw [List.length_map, Array.length_toList, hd]
    refine ⟨ups_flat _, .inr ⟨g, cap, putCells id 0 (flatK uvEnc 5 d) cur, rfl, hb, ?_, by rw [hl]; simpa using hc1, hc2, by simpa [putCells] using hc3, ?_⟩⟩
    · unfold sortWorldK putRowK putRow mapBlock Sort.ahead grow
      show ((w.heap.modify g _) ++ os)[g]? = _
      rw [Array.getElem?_append_left (by simpa using hg.2), Array.getElem?_modify, if_pos rfl, hh]
      rfl
    · apply List.ext_getElem?
      intro t
      rw [List.getElem?_take, Array.getElem?_toList, hl]
      by_cases ht : t < Q.length * 5
      · rw [if_pos ht]
        have hq : (Q.map (·.1)).length = Q.length := List.length_map _
        have hcs : t < cur.size := by
          rw [hc3]
          have : Q.length ≤ cap := by simpa using hc1
          omega
        obtain ⟨x, hx, hx2⟩ := uc_at (d.toList.map (·.1)) t (by rw [hl]; exact ht)
        rw [hx2]
        unfold putCells
        rw [Array.getElem?_mapIdx, Array.getElem?_eq_getElem hcs, Option.map_some, if_pos (by rw [size_flatK, hd]; omega)]
        have h4 : t / 5 < d.size := by omega
        rw [List.getElem?_map, Array.getElem?_toList, Array.getElem?_eq_getElem h4] at hx
        have hx3 : d[t / 5].1 = x := by simpa using hx
        rw [Nat.sub_zero, get_flatK uvEnc 5 d t (by rw [hd]; exact ht), getElem!_pos d _ h4]
        show some ((uvCells d[t / 5].1)[t % 5]!) = _
        rw [hx3]
        have h3 : t % 5 < (uvCells x).length := by show t % 5 < 5; omega
        rw [List.getElem?_eq_getElem h3, getElem!_pos (uvCells x) (t % 5) h3]
      · rw [if_neg ht, List.getElem?_eq_none]
        rw [ups_flat, hl]
        omega
theorem sortU_any (w0 w : World) (B g cap : Nat) (q : List Uv) (hown : UGRow w B g cap q) (hq : ∀ p, p ∈ q → UvOk w0 p) (hn : q.length < 4611686018427387904) :
    Calls Try.prog 79 #[.slice (some ⟨g, 0, none⟩) q.length cap, .func (.func 47) #[] #[]] w fun e w' => e = .returned (.tuple #[]) ∧ ∃ q', q'.Perm q ∧ (ups q').Pairwise (fun a b => ¬ Dg.uOrd b a < 0) ∧ UGRow w' B g cap q' ∧ w.grownBy w' (some g) := by
  obtain ⟨Q, rfl⟩ := uv_lift hq
  letI : Inhabited (UvS w0) := uvInh w0
  have eg : ∀ args w, (callFunc 47 args).run Try.prog w = .ok (.enter 47 args) w := enters_of Try.func47 (by kernel_rfl) rfl
  have hsz : Q.toArray.size = Q.length := by simp
  have hcon := AnyQ.slices_SortFunc Try.sortU 5 Try.isAgg34 Try.sizeOf34 uvEnc (fun _ => rfl) uv_oneS uvCmp (uv_swo w0) 47 #[] g 0 cap Q.toArray w eg (cmp_laysU _) (holds_rowU hown) (World.ownsRow.lt hown g rfl).2 (by rw [hsz]; simpa using hn)
  rw [hsz] at hcon
  change Calls Try.prog 79 _ _ _ at hcon
  rw [List.length_map]
  refine hcon.mono ?_
  rintro e w' ⟨rfl, d', n, os, hp, hs, rfl⟩
  obtain ⟨p1, p2, p3⟩ := hp
  have hds : d'.size = Q.length := by rw [p1]; simp
  have e1 : d'.extract 0 Q.length = d' := by rw [← hds]; simp
  have e2 : Q.toArray.extract 0 Q.length = Q.toArray := by simp
  rw [e1, e2] at p3
  refine ⟨rfl, d'.toList.map (·.1), ?_, ?_, row_sortedU hown hds, rfl, rfl, rfl, sortWorldK_size _ _ _ _ _ _ _, fun k hk hne => sortWorldK_block _ _ _ _ _ _ _ k hk (fun e => hne (by rw [e]))⟩
  · exact p3.map _
  · rw [List.pairwise_iff_getElem]
    intro i j hi hj hij
    have hi2 : i < d'.size := by simpa [ups] using hi
    have hj2 : j < d'.size := by simpa [ups] using hj
    have := hs i j (Nat.zero_le _) hij (by omega)
    rw [getElem!_pos d' j hj2, getElem!_pos d' i hi2] at this
    unfold ltOf uvCmp at this
    simp only [decide_eq_false_iff_not] at this
    simpa [ups] using this
end Go.Proofs.Ytmfaodapofamfaa


namespace Go.Proofs.Ytmfaodapofamfaa
open Go.RowKit
/-- Facts that can be read, with the values of their numbers' lists. -/
theorem facts_fv {w : World} {ao : Option Addr} {l : List Rl.Fc} (h : FactsAt w ao l) (hf : ∀ f, f ∈ l → FFit f) :
    ∃ q : List Fv, q.map (·.1) = l ∧ (∀ p, p ∈ q → FvOk w p) ∧ (l = [] ∨ ∃ b off, ao = some ⟨b, off, none⟩ ∧ ∀ j u, ((q.map fcCells).flatten)[j]? = some u → w.cell? ⟨b, off + j, none⟩ = some u) := by
  rcases h with rfl | ⟨b, off, rfl, hc⟩
  · exact ⟨[], rfl, fun _ hp => absurd hp (by simp), .inl rfl⟩
  · have each : ∀ i, i < l.length → ∃ v, w.cell? ⟨b, off + i * 2 + 1, none⟩ = some v ∧ IntsV w v (Rl.factD l i).args := fun i hi => (hc i hi).2
    have hch : ∃ V : Nat → Value, ∀ i, i < l.length → w.cell? ⟨b, off + i * 2 + 1, none⟩ = some (V i) ∧ IntsV w (V i) (Rl.factD l i).args := by
      refine ⟨fun i => (w.cell? ⟨b, off + i * 2 + 1, none⟩).getD (.slice none 0 0), fun i hi => ?_⟩
      obtain ⟨v, h1, h2⟩ := each i hi
      simp only [h1, Option.getD_some]
      exact ⟨trivial, h2⟩
    obtain ⟨V, hV⟩ := hch
    refine ⟨(List.range l.length).map fun i => (Rl.factD l i, V i), ?_, ?_, .inr ⟨b, off, rfl, fun j u hj => ?_⟩⟩
    · apply List.ext_getElem?
      intro i
      rw [List.getElem?_map, List.getElem?_map]
      by_cases hi : i < l.length
      · rw [List.getElem?_range hi, factD_get l i hi]
        rfl
      · rw [List.getElem?_eq_none (by simpa using hi), List.getElem?_eq_none (by simpa using hi)]
        rfl
    · intro p hp
      obtain ⟨i, hi, rfl⟩ := List.mem_map.mp hp
      have hi : i < l.length := List.mem_range.mp hi
      exact ⟨(hV i hi).2, hf _ (factD_mem l i hi)⟩
    · have hjl : j < ((List.range l.length).map fun i => (Rl.factD l i, V i)).length * 2 := by
        rcases Nat.lt_or_ge j (((List.range l.length).map fun i => (Rl.factD l i, V i)).length * 2) with h2 | h2
        · exact h2
        · rw [List.getElem?_eq_none (by rw [fc_length]; exact h2)] at hj; cases hj
      obtain ⟨x, hx, hx2⟩ := fc_at _ j hjl
      rw [hx2] at hj
      have hl2 : j / 2 < l.length := by
        have h3 : ((List.range l.length).map fun i => (Rl.factD l i, V i)).length = l.length := by simp
        rw [h3] at hjl
        omega
      rw [List.getElem?_map, List.getElem?_range hl2] at hx
      have hxe : (Rl.factD l (j / 2), V (j / 2)) = x := by simpa using hx
      subst hxe
      rcases Nat.mod_two_eq_zero_or_one j with h0 | h0
      · rw [h0] at hj
        have hu : Value.int .i64 (Rl.factD l (j / 2)).pred = u := by simpa [fcCells] using hj
        rw [← hu, ← (hc (j / 2) hl2).1]
        congr 2
        omega
      · rw [h0] at hj
        have hu : V (j / 2) = u := by simpa [fcCells] using hj
        rw [← hu, ← (hV (j / 2) hl2).1]
        congr 2
        omega

end Go.Proofs.Ytmfaodapofamfaa

/- A region that draws its order, by an invariant over what has been carried out: one proof for each operation, not one for each order. -/
namespace Go.Proofs.Ytmfaodapofamfaa

section
variable {P : Program} {ops : Array Oper} {Q : Exit → Act → World → Prop} {md : Region.Mode}

theorem ready_mem {s : Array Bool} {i : Nat} (h : i ∈ Region.ready md ops s) : s[i]? = some false ∧ ∃ o, ops[i]? = some o ∧ ∀ e, e ∈ o.after → Region.binds md e = true → s[e.on]? = some true := by
  unfold Region.ready at h
  obtain ⟨_, h⟩ := List.mem_filter.mp h
  rw [Bool.and_eq_true] at h
  obtain ⟨h1, h2⟩ := h
  refine ⟨?_, ?_⟩
  · cases hs : s[i]? with
    | none => simp [Array.getD_eq_getD_getElem?, hs] at h1
    | some b => cases b <;> simp [Array.getD_eq_getD_getElem?, hs] at h1 ⊢
  · cases ho : ops[i]? with
    | none => simp [ho] at h2
    | some o =>
      refine ⟨o, rfl, fun e he hb => ?_⟩
      rw [ho, Option.map_some, Option.getD_some, Array.all_eq_true_iff_forall_mem] at h2
      have h3 := h2 e he
      rw [hb] at h3
      cases hs : s[e.on]? with
      | none => simp [Array.getD_eq_getD_getElem?, hs] at h3
      | some b => cases b <;> simp [Array.getD_eq_getD_getElem?, hs] at h3 ⊢

/-- How many are not yet carried out. -/
def left (s : Array Bool) : Nat := s.toList.countP (fun b => !b)
theorem left_zero {s : Array Bool} (h : left s = 0) : Region.ready md ops s = [] := by
  cases hr : Region.ready md ops s with
  | nil => rfl
  | cons i r =>
    have h1 := (ready_mem (s := s) (i := i) (by rw [hr]; exact List.mem_cons_self)).1
    have h2 : false ∈ s.toList := by
      rw [← Array.getElem?_toList] at h1
      exact List.mem_of_getElem? h1
    have h3 := List.countP_eq_zero.mp h false h2
    simp at h3
theorem left_set {s : Array Bool} {i : Nat} (h : s[i]? = some false) : left (s.setIfInBounds i true) + 1 = left s := by
  obtain ⟨hi, he⟩ := Array.getElem?_eq_some_iff.mp h
  unfold left
  have h1 : (s.setIfInBounds i true).toList = s.toList.set i true := by simp
  rw [h1, List.countP_set (h := by simpa using hi)]
  have hm : 0 < s.toList.countP (fun b => !b) := List.countP_pos_iff.mpr ⟨false, by rw [← Array.getElem?_toList] at h; exact List.mem_of_getElem? h, rfl⟩
  have h2 : s.toList[i]'(by simpa using hi) = false := by rw [Array.getElem_toList]; exact he
  rw [h2]
  simp only [Bool.not_false, Bool.not_true, if_true, Bool.false_eq_true, if_false]
  omega

theorem wpAny_inv (I : Array Bool → Act → World → Prop) (hend : ∀ s a w, Region.ready md ops s = [] → I s a w → Q .normal a w)
    (hstep : ∀ s a w i, i ∈ Region.ready md ops s → I s a w → wpOp P ops Q i (I (s.setIfInBounds i true)) a w) :
    ∀ (fuel : Nat) (s : Array Bool) (a : Act) (w : World), left s ≤ fuel → I s a w → wpAny P md ops Q fuel s a w
  | 0, s, a, w, hc, hI => ⟨left_zero (by omega), hend s a w (left_zero (by omega)) hI⟩
  | fuel + 1, s, a, w, hc, hI => ⟨fun h0 => hend s a w h0 hI, fun i hi => wpOp_mono (fun a' w' hI' => wpAny_inv I hend hstep fuel _ a' w' (by have := left_set (ready_mem hi).1; omega) hI') (hstep s a w i hi hI)⟩

/-- The region itself. -/
theorem wp_region_inv (I : Array Bool → Act → World → Prop) {id : Nat} {a : Act} {w : World} (hm : P.follows .mixedOrders = true)
    (hend : ∀ s a w, Region.ready .any ops s = [] → I s a w → Q .normal a w)
    (hstep : ∀ s a w i, i ∈ Region.ready .any ops s → I s a w → wpOp P ops Q i (I (s.setIfInBounds i true)) a w)
    (h0 : I (Array.replicate ops.size false) a { w with drawn := w.drawn + 1 }) : (Code.region id ops true).wp P Q a w := by
  refine wp_region_any hm (wpAny_inv I hend hstep ops.size _ _ _ ?_ h0)
  unfold left
  exact Nat.le_trans List.countP_le_length (by simp)
end

end Go.Proofs.Ytmfaodapofamfaa

/- A region that draws its order, by a table: of each temporary that it writes, what holds of its value once it is written. One goal for each operation. -/
namespace Go.Proofs.Ytmfaodapofamfaa
open Go.RowKit

/-- All that is written is written once, and within the frame; what is waited for stands ahead. -/
def tabFine (ops : Array Oper) (n : Nat) : Bool :=
  decide ((ops.toList.filterMap (·.dst)).Nodup) && (ops.toList.filterMap (·.dst)).all (fun t => decide (t < n)) && (List.range ops.size).all (fun i => ((ops[i]?).map (fun o => o.after.toList.all (fun e => decide (e.on < i)))).getD true)

/-- The table at what is done. -/
structure Tabbed (ops : Array Oper) (T : Nat → Value → World → Prop) (a0 : Act) (w0 : World) (s : Array Bool) (a : Act) (w : World) : Prop where
  below : Below w0.heap.size w0 w
  defers : a.defers = a0.defers
  size : a.tmps.size = a0.tmps.size
  still : ∀ t, t ∉ ops.toList.filterMap (·.dst) → a.tmps.getD t undef = a0.tmps.getD t undef
  done : ∀ (i : Nat) (o : Oper) (t : Nat), s[i]? = some true → ops[i]? = some o → o.dst = some t → T t (a.tmps.getD t undef) w

section
variable {P : Program} {ops : Array Oper} {Q : Exit → Act → World → Prop} {T : Nat → Value → World → Prop}

theorem dst_mem {i : Nat} {o : Oper} {t : Nat} (h : ops[i]? = some o) (ht : o.dst = some t) : t ∈ ops.toList.filterMap (·.dst) := by
  refine List.mem_filterMap.mpr ⟨o, ?_, ht⟩
  rw [← Array.getElem?_toList] at h
  exact List.mem_of_getElem? h

theorem dst_inj : ∀ (l : List Oper), (l.filterMap (·.dst)).Nodup → ∀ (i j : Nat) (o o' : Oper) (t : Nat), l[i]? = some o → l[j]? = some o' → o.dst = some t → o'.dst = some t → i = j
  | [], _, i, j, o, o', t, h, _, _, _ => by simp at h
  | x :: l, hn, i, j, o, o', t, hi, hj, ho, ho' => by
    have hmem : ∀ k (o : Oper), l[k]? = some o → o.dst = some t → t ∈ l.filterMap (·.dst) := fun k o h1 h2 => List.mem_filterMap.mpr ⟨o, List.mem_of_getElem? h1, h2⟩
    cases i with
    | zero =>
      cases j with
      | zero => rfl
      | succ j =>
        simp only [List.getElem?_cons_zero, Option.some.injEq] at hi
        subst hi
        simp only [List.getElem?_cons_succ] at hj
        rw [List.filterMap_cons, ho] at hn
        exact absurd (hmem j o' hj ho') (List.nodup_cons.mp hn).1
    | succ i =>
      cases j with
      | zero =>
        simp only [List.getElem?_cons_zero, Option.some.injEq] at hj
        subst hj
        simp only [List.getElem?_cons_succ] at hi
        rw [List.filterMap_cons, ho'] at hn
        exact absurd (hmem i o hi ho) (List.nodup_cons.mp hn).1
      | succ j =>
        simp only [List.getElem?_cons_succ] at hi hj
        have hn' : (l.filterMap (·.dst)).Nodup := by
          rw [List.filterMap_cons] at hn
          cases hx : x.dst with
          | none => rw [hx] at hn; exact hn
          | some z => rw [hx] at hn; exact (List.nodup_cons.mp hn).2
        exact congrArg (· + 1) (dst_inj l hn' i j o o' t hi hj ho ho')

/-- What an operation's goal may take as given. -/
structure OpIn (ops : Array Oper) (T : Nat → Value → World → Prop) (a0 : Act) (w0 : World) (o : Oper) (a : Act) (w : World) : Prop where
  below : Below w0.heap.size w0 w
  still : ∀ t, t ∉ ops.toList.filterMap (·.dst) → a.tmps.getD t undef = a0.tmps.getD t undef
  has : ∀ e, e ∈ o.after → Region.binds .any e = true → ∀ (o' : Oper) (t : Nat), ops[e.on]? = some o' → o'.dst = some t → T t (a.tmps.getD t undef) w

/-- What an operation must do. -/
def OpOk (P : Program) (ops : Array Oper) (Q : Exit → Act → World → Prop) (T : Nat → Value → World → Prop) (o : Oper) (a : Act) (w : World) : Prop :=
  if Region.wanted o (yielded ops a.tmps) then o.wp P a w (fun a' w' => ∃ v, a' = a.put o.dst v ∧ (∀ t, o.dst = some t → T t v w') ∧ Below w.heap.size w w') Q ∨ (o.asks P a w ∧ LetsOut Q)
  else ∀ t, o.dst = some t → T t undef w

theorem put_get_self {a : Act} {t : Nat} {v : Value} (h : t < a.tmps.size) : (a.put (some t) v).tmps.getD t undef = v := by
  simp [Act.put, Array.getD_eq_getD_getElem?, h]
theorem put_get_ne {a : Act} {t u : Nat} {v : Value} (h : u ≠ t) : (a.put (some t) v).tmps.getD u undef = a.tmps.getD u undef := by
  simp [Act.put, Array.getD_eq_getD_getElem?, Ne.symm h]
theorem put_size {a : Act} {d : Option Nat} {v : Value} : (a.put d v).tmps.size = a.tmps.size := by
  cases d <;> simp [Act.put]
theorem put_defers {a : Act} {d : Option Nat} {v : Value} : (a.put d v).defers = a.defers := by
  cases d <;> simp [Act.put]

theorem wp_region_tab (T : Nat → Value → World → Prop) {id : Nat} {a0 : Act} {w0 : World} (hm : P.follows .mixedOrders = true)
    (hf : tabFine ops a0.tmps.size = true)
    (hmono : ∀ t v w w', Below w.heap.size w w' → T t v w → T t v w')
    (hop : ∀ (i : Nat) (o : Oper), ops[i]? = some o → ∀ a w, OpIn ops T a0 w0 o a w → OpOk P ops Q T o a w)
    (hend : ∀ a w, Below w0.heap.size w0 w → a.defers = a0.defers → a.tmps.size = a0.tmps.size → (∀ t, t ∉ ops.toList.filterMap (·.dst) → a.tmps.getD t undef = a0.tmps.getD t undef) → (∀ t, t ∈ ops.toList.filterMap (·.dst) → T t (a.tmps.getD t undef) w) → Q .normal a w) :
    (Code.region id ops true).wp P Q a0 w0 := by
  unfold tabFine at hf
  rw [Bool.and_eq_true, Bool.and_eq_true] at hf
  obtain ⟨⟨hnd, hlt⟩, hah⟩ := hf
  have hnd := of_decide_eq_true hnd
  have hlt' : ∀ t, t ∈ ops.toList.filterMap (·.dst) → t < a0.tmps.size := fun t ht => by
    have h := List.all_eq_true.mp hlt t ht
    exact of_decide_eq_true h
  have hah' : ∀ (i : Nat) (o : Oper), ops[i]? = some o → ∀ e, e ∈ o.after → e.on < i := fun i o ho e he => by
    have hi : i < ops.size := (Array.getElem?_eq_some_iff.mp ho).1
    have h := List.all_eq_true.mp hah i (List.mem_range.mpr hi)
    rw [ho, Option.map_some, Option.getD_some] at h
    exact of_decide_eq_true (List.all_eq_true.mp h e (by simpa using he))
  have hset : ∀ {T : Nat → Value → World → Prop} {s : Array Bool} {a : Act} {w w' : World} {i : Nat} {o : Oper} {v : Value}, (∀ t v w w', Below w.heap.size w w' → T t v w → T t v w') → s.size = ops.size → ops[i]? = some o → Tabbed ops T a0 w0 s a w → (∀ t, o.dst = some t → T t v w') → Below w.heap.size w w' → Tabbed ops T a0 w0 (s.setIfInBounds i true) (a.put o.dst v) w' := by
    intro T s a w w' i o v hmono hs ho hI hv hb
    refine ⟨hI.below.trans (hb.mono hI.below.size), by rw [put_defers]; exact hI.defers, by rw [put_size]; exact hI.size, fun t ht => ?_, fun j oj t hj hoj hd => ?_⟩
    · cases hd : o.dst with
      | none => exact hI.still t ht
      | some u =>
        have hne : t ≠ u := fun h => ht (h ▸ dst_mem ho hd)
        rw [put_get_ne hne]
        exact hI.still t ht
    · by_cases hij : j = i
      · subst hij
        rw [ho] at hoj
        cases hoj
        rw [hd, put_get_self (by rw [hI.size]; exact hlt' t (dst_mem ho hd))]
        exact hv t hd
      · have hj' : s[j]? = some true := by
          rw [Array.getElem?_setIfInBounds, if_neg (fun h => hij h.symm)] at hj
          exact hj
        have h1 := hmono t _ w w' hb (hI.done j oj t hj' hoj hd)
        cases hd2 : o.dst with
        | none => exact h1
        | some u =>
          have hne : t ≠ u := fun h => hij (dst_inj ops.toList hnd j i oj o t (by rw [Array.getElem?_toList]; exact hoj) (by rw [Array.getElem?_toList]; exact ho) hd (h ▸ hd2))
          rw [put_get_ne hne]
          exact h1
  refine wp_region_inv (fun s a w => s.size = ops.size ∧ Tabbed ops T a0 w0 s a w) hm ?_ ?_ ?_
  · rintro s a w hr ⟨hs, hI⟩
    have hall : ∀ n : Nat, n ≤ ops.size → ∀ i : Nat, i < n → s[i]? = some true := by
      intro n
      induction n with
      | zero => intro _ i hi; exact absurd hi (Nat.not_lt_zero _)
      | succ n ih =>
        intro hn i hi
        have ih := ih (by omega)
        by_cases hin : i < n
        · exact ih i hin
        · have hin : i = n := by omega
          subst hin
          cases hsi : s[i]? with
          | none => rw [Array.getElem?_eq_none_iff] at hsi; omega
          | some b =>
            cases b with
            | true => rfl
            | false =>
              exfalso
              have hio : i < ops.size := by omega
              have : i ∈ Region.ready .any ops s := by
                unfold Region.ready
                refine List.mem_filter.mpr ⟨List.mem_range.mpr hio, ?_⟩
                rw [Bool.and_eq_true]
                refine ⟨by simp [Array.getD_eq_getD_getElem?, hsi], ?_⟩
                have ho : ops[i]? = some ops[i] := Array.getElem?_eq_getElem hio
                rw [ho, Option.map_some, Option.getD_some, Array.all_eq_true_iff_forall_mem]
                intro e he
                have h1 := ih e.on (hah' i _ ho e he)
                simp [Array.getD_eq_getD_getElem?, h1]
              rw [hr] at this
              exact absurd this (by simp)
    refine hend a w hI.below hI.defers hI.size hI.still (fun t ht => ?_)
    obtain ⟨o, ho, hd⟩ := List.mem_filterMap.mp ht
    obtain ⟨i, hi⟩ := List.mem_iff_getElem?.mp ho
    rw [Array.getElem?_toList] at hi
    exact hI.done i o t (hall ops.size (Nat.le_refl _) i (Array.getElem?_eq_some_iff.mp hi).1) hi hd
  · rintro s a w i hi ⟨hs, hI⟩
    obtain ⟨hsi, o, ho, haf⟩ := ready_mem hi
    have h := hop i o ho a w ⟨hI.below, hI.still, fun e he hb o' t ho' hd => hI.done e.on o' t (haf e he hb) ho' hd⟩
    have hss : (s.setIfInBounds i true).size = ops.size := by simp [hs]
    unfold OpOk at h
    unfold wpOp
    rw [ho]
    dsimp only
    by_cases hw : Region.wanted o (yielded ops a.tmps) = true
    · rw [if_pos hw] at h ⊢
      refine h.imp (Oper.wp_mono ?_) (fun h => h)
      rintro a' w' ⟨v, rfl, hv, hb⟩
      exact ⟨hss, hset hmono hs ho hI hv hb⟩
    · rw [if_neg hw] at h ⊢
      exact ⟨hss, hset hmono hs ho hI h (Below.refl _ _)⟩
  · refine ⟨by simp, ⟨⟨rfl, rfl, rfl, Nat.le_refl _, fun _ _ => rfl⟩, rfl, rfl, fun _ _ => rfl, fun i o t h _ _ => ?_⟩⟩
    rw [Array.getElem?_replicate] at h
    split at h <;> simp at h
end

end Go.Proofs.Ytmfaodapofamfaa

/- The goals of a region by a table, operation by operation. -/
namespace Go.Proofs.Ytmfaodapofamfaa
open Go.RowKit

/-- Does an operation wait for the one that writes t? -/
def waitsFor (ops : Array Oper) (o : Oper) (t : Nat) : Bool := o.after.toList.any fun e => Region.binds .any e && ((ops[e.on]?).map fun o' => o'.dst == some t).getD false
def stays (ops : Array Oper) (t : Nat) : Bool := !(ops.toList.filterMap (·.dst)).contains t

section
variable {P : Program} {ops : Array Oper} {Q : Exit → Act → World → Prop} {T : Nat → Value → World → Prop} {a0 a : Act} {w0 w : World} {o : Oper}

theorem OpIn.of (h : OpIn ops T a0 w0 o a w) (t : Nat) (hw : waitsFor ops o t = true) : T t (a.tmps.getD t undef) w := by
  unfold waitsFor at hw
  obtain ⟨e, he, hb⟩ := List.any_eq_true.mp hw
  rw [Bool.and_eq_true] at hb
  cases ho : ops[e.on]? with
  | none => rw [ho] at hb; simp at hb
  | some o' =>
    rw [ho, Option.map_some, Option.getD_some] at hb
    exact h.has e (by simpa using he) hb.1 o' t ho (by simpa using hb.2)
theorem OpIn.old (h : OpIn ops T a0 w0 o a w) (t : Nat) (hs : stays ops t = true) : a.tmps.getD t undef = a0.tmps.getD t undef := by
  refine h.still t fun hm => ?_
  unfold stays at hs
  simp [hm] at hs
theorem wanted_none {y : Nat → Option Bool} (hg : o.guard = none) : Region.wanted o y = true := by simp [Region.wanted, hg]
theorem wanted_some {j t : Nat} {b : Bool} {oj : Oper} (hg : o.guard = some (j, b)) (hj : ops[j]? = some oj) (hd : oj.dst = some t) (hv : a.tmps.getD t undef = .bool b) : Region.wanted o (yielded ops a.tmps) = true := by
  have ht : a.tmps[t]? = some (.bool b) := by
    rw [Array.getD_eq_getD_getElem?] at hv
    cases h : a.tmps[t]? with
    | none => rw [h] at hv; simp [undef] at hv
    | some v => rw [h] at hv; simpa using hv
  unfold Region.wanted
  rw [hg]
  dsimp only
  unfold yielded
  rw [hj, Option.bind_some, hd, Option.bind_some, ht]
  simp
theorem opOk_val {v : Value} {w' : World} (hw : Region.wanted o (yielded ops a.tmps) = true) (hr : (execOp a.eval o).run P w = .ok (.value v) w') (hT : ∀ t, o.dst = some t → T t v w') (hb : Below w.heap.size w w') : OpOk P ops Q T o a w := by
  unfold OpOk
  rw [if_pos hw]
  left
  unfold Oper.wp
  rw [hr, Oper.upon_value]
  exact ⟨v, rfl, hT, hb⟩
theorem opOk_call {f : FuncId} {args : Array Value} (hw : Region.wanted o (yielded ops a.tmps) = true) (hr : (execOp a.eval o).run P w = .ok (.enter f args) w)
    (hc : Calls P f args w fun e w' => ∃ v, e = .returned v ∧ (∀ t, o.dst = some t → T t v w') ∧ Below w.heap.size w w') : OpOk P ops Q T o a w := by
  unfold OpOk
  rw [if_pos hw]
  left
  unfold Oper.wp
  rw [hr, Oper.upon_enter]
  refine Calls.mono hc ?_
  rintro e w' ⟨v, rfl, hT, hb⟩
  exact ⟨v, rfl, hT, hb⟩

/-- All operations, one by one. -/
def AllOps (Φ : Oper → Prop) : List Oper → Prop
  | [] => True
  | o :: l => Φ o ∧ AllOps Φ l
theorem AllOps.nil {Φ : Oper → Prop} : AllOps Φ [] := trivial
theorem AllOps.cons {Φ : Oper → Prop} {o : Oper} {l : List Oper} (h : Φ o) (hl : AllOps Φ l) : AllOps Φ (o :: l) := ⟨h, hl⟩
theorem AllOps.mem {Φ : Oper → Prop} : ∀ (l : List Oper), AllOps Φ l → ∀ o, o ∈ l → Φ o
  | [], _, o, ho => absurd ho (by simp)
  | x :: l, h, o, ho => by
    rcases List.mem_cons.mp ho with rfl | ho
    · exact h.1
    · exact AllOps.mem l h.2 o ho
theorem AllOps.at {Φ : Oper → Prop} {ops : Array Oper} (h : AllOps Φ ops.toList) (i : Nat) (o : Oper) (ho : ops[i]? = some o) : Φ o := by
  rw [← Array.getElem?_toList] at ho
  exact AllOps.mem _ h o (List.mem_of_getElem? ho)
theorem ends_at {t : Nat} (h : ∀ t, t ∈ ops.toList.filterMap (·.dst) → T t (a.tmps.getD t undef) w) (hs : stays ops t = false) : T t (a.tmps.getD t undef) w := by
  refine h t ?_
  unfold stays at hs
  simpa [List.contains_iff_mem] using hs
theorem wp_region_tabA (T : Nat → Value → World → Prop) {id : Nat} {a0 : Act} {w0 : World} (hm : P.follows .mixedOrders = true) (hf : tabFine ops a0.tmps.size = true)
    (hmono : ∀ t v w w', Below w.heap.size w w' → T t v w → T t v w')
    (hop : AllOps (fun o => ∀ a w, OpIn ops T a0 w0 o a w → OpOk P ops Q T o a w) ops.toList)
    (hend : ∀ a w, Below w0.heap.size w0 w → a.defers = a0.defers → a.tmps.size = a0.tmps.size → (∀ t, t ∉ ops.toList.filterMap (·.dst) → a.tmps.getD t undef = a0.tmps.getD t undef) → (∀ t, t ∈ ops.toList.filterMap (·.dst) → T t (a.tmps.getD t undef) w) → Q .normal a w) :
    (Code.region id ops true).wp P Q a0 w0 :=
  wp_region_tab T hm hf hmono (fun i o ho => AllOps.at hop i o ho) hend
end

end Go.Proofs.Ytmfaodapofamfaa

/- Behind a region by a table: the frame, written out. -/
namespace Go.Proofs.Ytmfaodapofamfaa
open Go.RowKit

theorem tmps_fold : ∀ (D : List Nat) (x y : Array Value), x.size = y.size → (∀ t, t ∉ D → x.getD t undef = y.getD t undef) → x = D.foldl (fun arr t => arr.setIfInBounds t (x.getD t undef)) y
  | [], x, y, hs, h => by
    show x = y
    refine Array.ext hs fun i h1 h2 => ?_
    have := h i (by simp)
    rw [Array.getD_eq_getD_getElem?, Array.getD_eq_getD_getElem?, Array.getElem?_eq_getElem h1, Array.getElem?_eq_getElem h2] at this
    exact this
  | t :: D, x, y, hs, h => by
    show x = D.foldl (fun arr t => arr.setIfInBounds t (x.getD t undef)) (y.setIfInBounds t (x.getD t undef))
    refine tmps_fold D x _ (by simp [hs]) fun s hsD => ?_
    by_cases hst : s = t
    · subst hst
      by_cases hl : s < y.size
      · simp [Array.getD_eq_getD_getElem?, hl]
      · have h1 : x[s]? = none := by rw [Array.getElem?_eq_none_iff]; omega
        have h2 : ∀ v, (y.setIfInBounds s v)[s]? = none := fun v => by rw [Array.getElem?_eq_none_iff]; simp; omega
        rw [Array.getD_eq_getD_getElem?, Array.getD_eq_getD_getElem?, h1, h2]
    · rw [h s (by simp [hst, hsD])]
      simp [Array.getD_eq_getD_getElem?, Ne.symm hst]

/-- The region by itself, then what follows. -/
theorem wp_mid {P : Program} {c : Code} {Q : Exit → Act → World → Prop} {a0 : Act} {w : World} (R : Act → Act → World → Prop) (first : c.wp P (fun e a w => e = .normal ∧ R a0 a w) a0 w) (rest : ∀ a w, R a0 a w → Q .normal a w) : c.wp P Q a0 w :=
  Code.wp_mono (fun e a w h => by obtain ⟨rfl, h⟩ := h; exact rest a w h) first

section
variable {P : Program} {ops : Array Oper} {Q : Exit → Act → World → Prop} {T : Nat → Value → World → Prop} {a : Act} {w : World} {o : Oper}
/-- An operation that is not wanted. -/
theorem opOk_skip {j t : Nat} {b c : Bool} {oj : Oper} (hg : o.guard = some (j, b)) (hj : ops[j]? = some oj) (hd : oj.dst = some t) (hv : a.tmps.getD t undef = .bool c) (hbc : c ≠ b) (hT : ∀ t, o.dst = some t → T t undef w) : OpOk P ops Q T o a w := by
  have ht : a.tmps[t]? = some (.bool c) := by
    rw [Array.getD_eq_getD_getElem?] at hv
    cases h : a.tmps[t]? with
    | none => rw [h] at hv; simp [undef] at hv
    | some v => rw [h] at hv; simpa using hv
  have hw : Region.wanted o (yielded ops a.tmps) = false := by
    unfold Region.wanted
    rw [hg]
    dsimp only
    unfold yielded
    rw [hj, Option.bind_some, hd, Option.bind_some, ht]
    simp [hbc]
  unfold OpOk
  rw [hw, if_neg (by simp)]
  exact hT
end

end Go.Proofs.Ytmfaodapofamfaa

/- A region by a table whose last operation comes behind all others, and may change anything. -/
namespace Go.Proofs.Ytmfaodapofamfaa
open Go.RowKit

/-- The last one waits for all. -/
def lastFine (ops : Array Oper) (oL : Oper) : Bool := (List.range (ops.size - 1)).all fun i => oL.after.toList.any fun e => Region.binds .any e && (e.on == i || ((ops[e.on]?).map fun o => o.after.toList.any fun f => f.on == i && Region.binds .any f).getD false)
/-- The table, for all but the last. -/
structure OpInL (ops : Array Oper) (T : Nat → Value → World → Prop) (a0 : Act) (w0 : World) (a : Act) (w : World) : Prop where
  below : Below w0.heap.size w0 w
  defers : a.defers = a0.defers
  size : a.tmps.size = a0.tmps.size
  still : ∀ t, t ∉ ops.toList.filterMap (·.dst) → a.tmps.getD t undef = a0.tmps.getD t undef
  all : ∀ (i : Nat) (o : Oper) (t : Nat), i + 1 < ops.size → ops[i]? = some o → o.dst = some t → T t (a.tmps.getD t undef) w

theorem wpOp_skip {P : Program} {ops : Array Oper} {Q : Exit → Act → World → Prop} {i : Nat} {o : Oper} {K : Act → World → Prop} {a : Act} {w w' : World} (ho : ops[i]? = some o) (hw : Region.wanted o (yielded ops a.tmps) = true) (hd : o.dst = none) (hr : (execOp a.eval o).run P w = .ok .skip w') (h : K a w') : wpOp P ops Q i K a w := by
  unfold wpOp
  rw [ho]
  dsimp only
  rw [if_pos hw]
  left
  unfold Oper.wp
  rw [hr, Oper.upon_skip, hd]
  exact h
section
variable {P : Program} {ops : Array Oper} {Q : Exit → Act → World → Prop}
theorem wp_region_tabL (T : Nat → Value → World → Prop) {id : Nat} {a0 : Act} {w0 : World} (oL : Oper) (hoL : ops[ops.size - 1]? = some oL) (hlf : lastFine ops oL = true) (hm : P.follows .mixedOrders = true)
    (hf : tabFine ops a0.tmps.size = true)
    (hmono : ∀ t v w w', Below w.heap.size w w' → T t v w → T t v w')
    (hop : AllOps (fun o => ∀ a w, OpIn ops T a0 w0 o a w → OpOk P ops Q T o a w) (ops.toList.take (ops.size - 1)))
    (hlast : ∀ a w, OpInL ops T a0 w0 a w → wpOp P ops Q (ops.size - 1) (fun a' w' => Q .normal a' w') a w) :
    (Code.region id ops true).wp P Q a0 w0 := by
  have hLs : ops.size - 1 < ops.size := (Array.getElem?_eq_some_iff.mp hoL).1
  unfold tabFine at hf
  rw [Bool.and_eq_true, Bool.and_eq_true] at hf
  obtain ⟨⟨hnd, hlt⟩, hah⟩ := hf
  have hnd := of_decide_eq_true hnd
  have hlt' : ∀ t, t ∈ ops.toList.filterMap (·.dst) → t < a0.tmps.size := fun t ht => of_decide_eq_true (List.all_eq_true.mp hlt t ht)
  have hah' : ∀ (i : Nat) (o : Oper), ops[i]? = some o → ∀ e, e ∈ o.after → e.on < i := fun i o ho e he => by
    have hi : i < ops.size := (Array.getElem?_eq_some_iff.mp ho).1
    have h := List.all_eq_true.mp hah i (List.mem_range.mpr hi)
    rw [ho, Option.map_some, Option.getD_some] at h
    exact of_decide_eq_true (List.all_eq_true.mp h e (by simpa using he))
  refine wp_region_inv (fun s a w => (s.size = ops.size ∧ ∀ (i : Nat) (o : Oper), s[i]? = some true → ops[i]? = some o → ∀ e, e ∈ o.after → Region.binds .any e = true → s[e.on]? = some true) ∧ ((s[ops.size - 1]? = some false ∧ Tabbed ops T a0 w0 s a w) ∨ ((∀ i, i < ops.size → s[i]? = some true) ∧ Q .normal a w))) hm ?_ ?_ ?_
  · rintro s a w hr ⟨⟨hs, hC⟩, ⟨hsL, hI⟩ | ⟨_, hQ⟩⟩
    · exfalso
      have hall : ∀ n : Nat, n ≤ ops.size → ∀ i : Nat, i < n → s[i]? = some true := by
        intro n
        induction n with
        | zero => intro _ i hi; exact absurd hi (Nat.not_lt_zero _)
        | succ n ih =>
          intro hn i hi
          have ih := ih (by omega)
          by_cases hin : i < n
          · exact ih i hin
          · have hin : i = n := by omega
            subst hin
            cases hsi : s[i]? with
            | none => rw [Array.getElem?_eq_none_iff] at hsi; omega
            | some b =>
              cases b with
              | true => rfl
              | false =>
                exfalso
                have hio : i < ops.size := by omega
                have : i ∈ Region.ready .any ops s := by
                  unfold Region.ready
                  refine List.mem_filter.mpr ⟨List.mem_range.mpr hio, ?_⟩
                  rw [Bool.and_eq_true]
                  refine ⟨by simp [Array.getD_eq_getD_getElem?, hsi], ?_⟩
                  have ho : ops[i]? = some ops[i] := Array.getElem?_eq_getElem hio
                  rw [ho, Option.map_some, Option.getD_some, Array.all_eq_true_iff_forall_mem]
                  intro e he
                  have h1 := ih e.on (hah' i _ ho e he)
                  simp [Array.getD_eq_getD_getElem?, h1]
                rw [hr] at this
                exact absurd this (by simp)
      have := hall ops.size (Nat.le_refl _) (ops.size - 1) hLs
      rw [hsL] at this
      cases this
    · exact hQ
  · rintro s a w i hi ⟨⟨hs, hC⟩, hI⟩
    obtain ⟨hsi, o, ho, haf⟩ := ready_mem hi
    have hup : ∀ j, s[j]? = some true → (s.setIfInBounds i true)[j]? = some true := fun j hj => by
      rw [Array.getElem?_setIfInBounds]
      by_cases hij : i = j
      · rw [if_pos hij, if_pos (by have := (Array.getElem?_eq_some_iff.mp hsi).1; omega)]
      · rw [if_neg hij]; exact hj
    have hss : (s.setIfInBounds i true).size = ops.size ∧ ∀ (i' : Nat) (o' : Oper), (s.setIfInBounds i true)[i']? = some true → ops[i']? = some o' → ∀ e, e ∈ o'.after → Region.binds .any e = true → (s.setIfInBounds i true)[e.on]? = some true := by
      refine ⟨by simp [hs], fun i' o' hi' ho' e he hb => ?_⟩
      by_cases hii : i = i'
      · subst hii
        rw [ho] at ho'
        cases ho'
        exact hup _ (haf e he hb)
      · rw [Array.getElem?_setIfInBounds, if_neg hii] at hi'
        exact hup _ (hC i' o' hi' ho' e he hb)
    rcases hI with ⟨hsL, hI⟩ | ⟨hall, _⟩
    · by_cases hiL : i = ops.size - 1
      · subst hiL
        rw [hoL] at ho
        cases ho
        have hdone : ∀ j, j + 1 < ops.size → s[j]? = some true := fun j hj => by
          unfold lastFine at hlf
          have h1 := List.all_eq_true.mp hlf j (List.mem_range.mpr (by omega))
          obtain ⟨e, he, h2⟩ := List.any_eq_true.mp h1
          rw [Bool.and_eq_true, Bool.or_eq_true] at h2
          have hse := haf e (by simpa using he) h2.1
          rcases h2.2 with h3 | h3
          · have h3 : e.on = j := by simpa using h3
            rw [← h3]
            exact hse
          · cases hoe : ops[e.on]? with
            | none => rw [hoe] at h3; simp at h3
            | some oe =>
              rw [hoe, Option.map_some, Option.getD_some] at h3
              obtain ⟨f, hf, h4⟩ := List.any_eq_true.mp h3
              rw [Bool.and_eq_true] at h4
              have h5 : f.on = j := by simpa using h4.1
              rw [← h5]
              exact hC e.on oe hse hoe f (by simpa using hf) h4.2
        refine wpOp_mono ?_ (hlast a w ⟨hI.below, hI.defers, hI.size, hI.still, fun j oj t hj hoj hd => hI.done j oj t (hdone j hj) hoj hd⟩)
        intro a' w' hQ
        refine ⟨hss, .inr ⟨fun j hj => ?_, hQ⟩⟩
        rw [Array.getElem?_setIfInBounds]
        by_cases hj2 : ops.size - 1 = j
        · rw [if_pos hj2, if_pos (by omega)]
        · rw [if_neg hj2]
          exact hdone j (by omega)
      · have hop' : OpOk P ops Q T o a w := by
          have hil : i < ops.size := (Array.getElem?_eq_some_iff.mp ho).1
          refine AllOps.mem _ hop o ?_ a w ⟨hI.below, hI.still, fun e he hb o' t ho' hd => hI.done e.on o' t (haf e he hb) ho' hd⟩
          rw [← Array.getElem?_toList] at ho
          refine List.mem_of_getElem? (i := i) ?_
          rw [List.getElem?_take, if_pos (by omega)]
          exact ho
        have hset : ∀ {v : Value} {w' : World}, (∀ t, o.dst = some t → T t v w') → Below w.heap.size w w' → Tabbed ops T a0 w0 (s.setIfInBounds i true) (a.put o.dst v) w' := by
          intro v w' hv hb
          refine ⟨hI.below.trans (hb.mono hI.below.size), by rw [put_defers]; exact hI.defers, by rw [put_size]; exact hI.size, fun t ht => ?_, fun j oj t hj hoj hd => ?_⟩
          · cases hd : o.dst with
            | none => exact hI.still t ht
            | some u =>
              have hne : t ≠ u := fun h => ht (h ▸ dst_mem ho hd)
              rw [put_get_ne hne]
              exact hI.still t ht
          · by_cases hij : j = i
            · subst hij
              rw [ho] at hoj
              cases hoj
              rw [hd, put_get_self (by rw [hI.size]; exact hlt' t (dst_mem ho hd))]
              exact hv t hd
            · have hj' : s[j]? = some true := by
                rw [Array.getElem?_setIfInBounds, if_neg (fun h => hij h.symm)] at hj
                exact hj
              have h1 := hmono t _ w w' hb (hI.done j oj t hj' hoj hd)
              cases hd2 : o.dst with
              | none => exact h1
              | some u =>
                have hne : t ≠ u := fun h => hij (dst_inj ops.toList hnd j i oj o t (by rw [Array.getElem?_toList]; exact hoj) (by rw [Array.getElem?_toList]; exact ho) hd (h ▸ hd2))
                rw [put_get_ne hne]
                exact h1
        have hsL' : (s.setIfInBounds i true)[ops.size - 1]? = some false := by
          rw [Array.getElem?_setIfInBounds, if_neg hiL]
          exact hsL
        unfold OpOk at hop'
        unfold wpOp
        rw [ho]
        dsimp only
        by_cases hw : Region.wanted o (yielded ops a.tmps) = true
        · rw [if_pos hw] at hop' ⊢
          refine hop'.imp (Oper.wp_mono ?_) (fun h => h)
          rintro a' w' ⟨v, rfl, hv, hb⟩
          exact ⟨hss, .inl ⟨hsL', hset hv hb⟩⟩
        · rw [if_neg hw] at hop' ⊢
          exact ⟨hss, .inl ⟨hsL', hset hop' (Below.refl _ _)⟩⟩
    · have := hall i (Array.getElem?_eq_some_iff.mp ho).1
      rw [hsi] at this
      cases this
  · refine ⟨⟨by simp, fun i o h => ?_⟩, .inl ⟨?_, ⟨⟨rfl, rfl, rfl, Nat.le_refl _, fun _ _ => rfl⟩, rfl, rfl, fun _ _ => rfl, fun i o t h _ _ => ?_⟩⟩⟩
    · rw [Array.getElem?_replicate] at h
      split at h <;> simp at h
    · rw [Array.getElem?_replicate, if_pos hLs]
    · rw [Array.getElem?_replicate] at h
      split at h <;> simp at h
end

end Go.Proofs.Ytmfaodapofamfaa

/- Package update: Copy. -/
namespace Go.Proofs.Ytmfaodapofamfaa
open Go.RowKit

/-- An update of one's own: all its lists lie at block B or behind. -/
structure UvP (B : Nat) (w : World) (x : Uv) : Prop where
  p : w.ownsRow B 30 2 x.p x.u.ps.length (x.u.ps.map idCells).flatten
  s : FactsP B w x.s x.u.says
  t : w.ownsRow B 30 2 x.t x.u.ts.length (x.u.ts.map idCells).flatten
  f : ∀ f, f ∈ x.u.says → FFit f
  l : x.u.ps.length ≤ 9223372036854775807 ∧ x.u.says.length ≤ 9223372036854775807 ∧ x.u.ts.length ≤ 9223372036854775807
theorem ids_one (l : List Wr.Id) : ∀ u, u ∈ (l.map idCells).flatten → u.oneCell' = true := by
  intro u hu
  obtain ⟨c, hc, hu⟩ := List.mem_flatten.mp hu
  obtain ⟨p, hp, rfl⟩ := List.mem_map.mp hc
  simp only [idCells, List.mem_cons, List.not_mem_nil, or_false] at hu
  rcases hu with rfl | rfl <;> rfl
theorem grown_set (w : World) (b o : Nat) (v : Value) : w.grownBy (w.setCell ⟨b, o, none⟩ v) (some b) := ⟨rfl, rfl, rfl, by simp [World.setCell], fun k _ hk => Below.heap_setCell _ _ _ k (fun e => hk (by rw [e]))⟩
theorem factsP_below {B : Nat} {w w' : World} {v : Value} {s : List Rl.Fc} (h : FactsP B w v s) (hb : Below w.heap.size w w') : FactsP B w' v s := by
  obtain ⟨q, h1, h2, h3⟩ := h
  exact ⟨q, h1, ownsRow_below h2 hb, fun p hp => ownsRow_below (h3 p hp) hb⟩
theorem factsP_grown {B Z : Nat} {w w' : World} {v : Value} {s : List Rl.Fc} (h : FactsP B w v s) (hg : w.grownBy w' (some Z)) (hz : Z < B) : FactsP B w' v s := by
  obtain ⟨q, h1, h2, h3⟩ := h
  exact ⟨q, h1, h2.kept hg (.inr (fun e => by have := (h2.lt _ e).1; omega)), fun p hp => (h3 p hp).kept hg (.inr (fun e => by have := ((h3 p hp).lt _ e).1; omega))⟩
theorem factsP_le {B B' : Nat} {w : World} {v : Value} {s : List Rl.Fc} (h : FactsP B w v s) (hb : B' ≤ B) : FactsP B' w v s := by
  obtain ⟨q, h1, h2, h3⟩ := h
  exact ⟨q, h1, rl_own_le h2 hb, fun p hp => rl_own_le (h3 p hp) hb⟩
theorem factsP_V {B : Nat} {w : World} {v : Value} {s : List Rl.Fc} (h : FactsP B w v s) (hf : ∀ f, f ∈ s → FFit f) : FactsV w v s := by
  obtain ⟨q, h1, h2, h3⟩ := h
  have := own_factsV (w := w) h2 (fun p hp => ⟨own_ints (h3 p hp), hf _ (h1 ▸ List.mem_map_of_mem hp)⟩) (Below.refl _ _)
  rw [h1] at this
  exact this
theorem UvP.ok {B : Nat} {w : World} {x : Uv} (h : UvP B w x) : UvOk w x := ⟨own_ids h.p, factsP_V h.s h.f, own_ids h.t, h.f, h.l⟩
theorem UvP.below {B : Nat} {w w' : World} {x : Uv} (h : UvP B w x) (hb : Below w.heap.size w w') : UvP B w' x := ⟨ownsRow_below h.p hb, factsP_below h.s hb, ownsRow_below h.t hb, h.f, h.l⟩
theorem UvP.grown {B Z : Nat} {w w' : World} {x : Uv} (h : UvP B w x) (hg : w.grownBy w' (some Z)) (hz : Z < B) : UvP B w' x :=
  ⟨h.p.kept hg (.inr (fun e => by have := (h.p.lt _ e).1; omega)), factsP_grown h.s hg hz, h.t.kept hg (.inr (fun e => by have := (h.t.lt _ e).1; omega)), h.f, h.l⟩
theorem UvP.le {B B' : Nat} {w : World} {x : Uv} (h : UvP B w x) (hb : B' ≤ B) : UvP B' w x := by
  obtain ⟨q, h1, h2, h3⟩ := h.s
  exact ⟨rl_own_le h.p hb, ⟨q, h1, rl_own_le h2 hb, fun p hp => rl_own_le (h3 p hp) hb⟩, rl_own_le h.t hb, h.f, h.l⟩
def copyT (X B3 : Nat) (ua un : Int) (a1 : Option Addr) (d1 : Nat) (sa : Option Addr) (ns sc : Nat) (a3 : Option Addr) (d3 : Nat) (ps ts : List Wr.Id) (tQ : Nat) (vQ : Value) (WQ : World) : Prop :=
  match tQ with
  | 24 => vQ = .pointer (some ⟨X, 0, none⟩)
  | 25 => vQ = .agg #[.int .i64 ua, .int .i64 un]
  | 26 => vQ = .pointer (some ⟨X, 2, none⟩)
  | 27 => vQ = .slice a1 ps.length d1
  | 28 => WQ.ownsRow B3 30 2 vQ ps.length (ps.map idCells).flatten
  | 29 => vQ = .slice sa ns sc
  | 30 => vQ = .pointer (some ⟨X, 4, none⟩)
  | 31 => vQ = .slice a3 ts.length d3
  | 32 => WQ.ownsRow B3 30 2 vQ ts.length (ts.map idCells).flatten
  | 33 => ∃ v1 v2, vQ = .agg #[.int .i64 ua, .int .i64 un, v1, .slice sa ns sc, v2] ∧ WQ.ownsRow B3 30 2 v1 ps.length (ps.map idCells).flatten ∧ WQ.ownsRow B3 30 2 v2 ts.length (ts.map idCells).flatten
  | _ => True
theorem copyT_mono (X B3 : Nat) (ua un : Int) (a1 : Option Addr) (d1 : Nat) (sa : Option Addr) (ns sc : Nat) (a3 : Option Addr) (d3 : Nat) (ps ts : List Wr.Id) (tQ : Nat) (vQ : Value) (W W' : World) (hb : Below W.heap.size W W') (h : copyT X B3 ua un a1 d1 sa ns sc a3 d3 ps ts tQ vQ W) : copyT X B3 ua un a1 d1 sa ns sc a3 d3 ps ts tQ vQ W' := by
  revert h
  unfold copyT
  split <;> (intro h; first | exact h | exact (ownsRow_below h hb) | exact (h.elim fun v1 h => h.elim fun v2 h => ⟨v1, v2, h.1, ownsRow_below h.2.1 hb, ownsRow_below h.2.2 hb⟩))

set_option maxRecDepth 100000 in
set_option maxHeartbeats 4000000 in
theorem Copy_any (x : Uv) (w : World) (hx : UvOk w x) (hl : x.u.ps.length ≤ 6 ∧ x.u.says.length ≤ 6 ∧ x.u.ts.length ≤ 6) (hf : ∀ f, f ∈ x.u.says → f.args.length ≤ 3) :
    Calls Try.prog 21 #[uvVal x] w fun e w' => ∃ x' : Uv, e = .returned (uvVal x') ∧ x'.u = x.u ∧ UvP w.heap.size w' x' ∧ Below w.heap.size w w' := by
  have HX0 : Hid (UvOk w x) := hx
  have HFA : Hid (∀ f, f ∈ x.u.says → f.args.length ≤ 3) := hf
  have HL : Hid (x.u.ps.length ≤ 9223372036854775807 ∧ x.u.says.length ≤ 9223372036854775807 ∧ x.u.ts.length ≤ 9223372036854775807) := hx.l
  have HFF : Hid (∀ f, f ∈ x.u.says → FFit f) := hx.f
  obtain ⟨a1, d1, e1, _⟩ := hx.p
  obtain ⟨a2, d2, e2, hc2, hA2⟩ := hx.s
  obtain ⟨a3, d3, e3, _⟩ := hx.t
  obtain ⟨⟨⟨ua, un⟩, ps, says, ts⟩, vp, vs, vt⟩ := x
  dsimp only at *
  subst e1 e2 e3
  obtain ⟨q, hq1, hq2, hq3⟩ := facts_fv hA2 hx.f
  have HQ1 : Hid (q.map (·.1) = says) := hq1
  have HQ2 : Hid (∀ p, p ∈ q → FvOk w p) := hq2
  have HQ3 : Hid (CellsAt w a2 (q.map fcCells).flatten) := by
    rcases hq3 with h | h
    · left
      have : q = [] := List.eq_nil_of_length_eq_zero (by have := congrArg List.length hq1; rw [List.length_map, h] at this; exact this)
      rw [this]; rfl
    · exact .inr h
  have HQL : Hid (q.length = says.length) := by have := congrArg List.length hq1; rw [List.length_map] at this; exact this
  have HC2 : Hid (a2 = none → d2 = 0) := hc2.2
  have HC3 : Hid (says.length ≤ d2) := hc2.1
  clear hx hf hA2 hc2 hq1 hq2 hq3
  have HB1 : Hid (Below w.heap.size w ((w.alloc (.cells #[.int .i64 ua, .int .i64 un, .slice a1 ps.length d1, .slice a2 says.length d2, .slice a3 ts.length d3] 34)).alloc (.cells #[.int .i64 0, .int .i64 0, .slice none 0 0, .slice none 0 0, .slice none 0 0] 34))) := ((Below.refl _ _).alloc (Nat.le_refl _) _).alloc (by simp) _
  have hX1 : ((w.alloc (.cells #[.int .i64 ua, .int .i64 un, .slice a1 ps.length d1, .slice a2 says.length d2, .slice a3 ts.length d3] 34)).alloc (.cells #[.int .i64 0, .int .i64 0, .slice none 0 0, .slice none 0 0, .slice none 0 0] 34)).heap[w.heap.size]? = some (.cells #[.int .i64 ua, .int .i64 un, .slice a1 ps.length d1, .slice a2 says.length d2, .slice a3 ts.length d3] 34) := by
    rw [Lib.alloc_old _ _ _ (by simp)]
    exact rl_new w _
  have hZ1 : ((w.alloc (.cells #[.int .i64 ua, .int .i64 un, .slice a1 ps.length d1, .slice a2 says.length d2, .slice a3 ts.length d3] 34)).alloc (.cells #[.int .i64 0, .int .i64 0, .slice none 0 0, .slice none 0 0, .slice none 0 0] 34)).heap[w.heap.size + 1]? = some (.cells #[.int .i64 0, .int .i64 0, .slice none 0 0, .slice none 0 0, .slice none 0 0] 34) := by
    have := rl_new (w.alloc (.cells #[.int .i64 ua, .int .i64 un, .slice a1 ps.length d1, .slice a2 says.length d2, .slice a3 ts.length d3] 34)) (.cells #[.int .i64 0, .int .i64 0, .slice none 0 0, .slice none 0 0, .slice none 0 0] 34)
    rw [World.size_alloc] at this
    exact this
  have HX1 : Hid (((w.alloc (.cells #[.int .i64 ua, .int .i64 un, .slice a1 ps.length d1, .slice a2 says.length d2, .slice a3 ts.length d3] 34)).alloc (.cells #[.int .i64 0, .int .i64 0, .slice none 0 0, .slice none 0 0, .slice none 0 0] 34)).heap[w.heap.size]? = some (.cells #[.int .i64 ua, .int .i64 un, .slice a1 ps.length d1, .slice a2 says.length d2, .slice a3 ts.length d3] 34)) := hX1
  have HZ1 : Hid (((w.alloc (.cells #[.int .i64 ua, .int .i64 un, .slice a1 ps.length d1, .slice a2 says.length d2, .slice a3 ts.length d3] 34)).alloc (.cells #[.int .i64 0, .int .i64 0, .slice none 0 0, .slice none 0 0, .slice none 0 0] 34)).heap[w.heap.size + 1]? = some (.cells #[.int .i64 0, .int .i64 0, .slice none 0 0, .slice none 0 0, .slice none 0 0] 34)) := hZ1
  have HSZ : Hid (((w.alloc (.cells #[.int .i64 ua, .int .i64 un, .slice a1 ps.length d1, .slice a2 says.length d2, .slice a3 ts.length d3] 34)).alloc (.cells #[.int .i64 0, .int .i64 0, .slice none 0 0, .slice none 0 0, .slice none 0 0] 34)).heap.size = w.heap.size + 2) := by show _ = _; simp
  clear hX1 hZ1
  go_enter Try.func21, Try.ntmps21
  go_upto_region 1 with fail
  generalize ((w.alloc (.cells #[.int .i64 ua, .int .i64 un, .slice a1 ps.length d1, .slice a2 says.length d2, .slice a3 ts.length d3] 34)).alloc (.cells #[.int .i64 0, .int .i64 0, .slice none 0 0, .slice none 0 0, .slice none 0 0] 34)) = w1 at *
  have c3 : w1.cell? ⟨w.heap.size, 3, none⟩ = some (.slice a2 says.length d2) := by rw [Lib.cell_of_heap HX1.out]; rfl
  have HCF : Hid (Calls Try.prog 33 #[.slice a2 says.length d2] w1 fun e w' => ∃ v', e = .returned v' ∧ w'.ownsRow w1.heap.size 51 2 v' says.length (q.map fcCells).flatten ∧ Below w1.heap.size w1 w') :=
    cloneF_any says.length _ a2 d2 w1 (by
      rcases HQ3.out with h | ⟨b, off, h, hc⟩
      · exact .inl h
      · exact .inr ⟨b, off, h, fun j u hj => cell_below HB1.out (hc j u hj)⟩) (by rw [fc_length, HQL.out]) (fun u hu => by
      obtain ⟨c, hc, hu⟩ := List.mem_flatten.mp hu
      obtain ⟨p, hp, rfl⟩ := List.mem_map.mp hc
      obtain ⟨a9, c9, hp9⟩ := fv_slice (HQ2.out p hp)
      simp [fcCells, hp9] at hu
      rcases hu with rfl | rfl <;> rfl) (by omega) (fun h => by have h1 := HC2.out h; have h2 := HC3.out; omega)
  go_upto_region 2 with (go_at_call 33; refine Calls.mono HCF.out ?_; rintro e w2 ⟨v2, rfl, hrow2, hb2⟩; obtain ⟨sa, sc, rfl⟩ := own_slice hrow2)
  clear c3 HCF HQ3
  go_wp2_with fail
  go_loopw [10] (fun i wr => ∃ (m : Nat) (R : List Fv), m ≤ says.length ∧ i = .int .i64 m ∧ R.length = says.length ∧ wr.ownsRow w1.heap.size 51 2 (.slice sa says.length sc) says.length (R.map fcCells).flatten ∧ R.map (·.1) = q.map (·.1) ∧ (∀ j, m ≤ j → R[j]? = q[j]?) ∧ (∀ j p, j < m → R[j]? = some p → wr.ownsRow w1.heap.size 3 1 p.2 p.1.args.length (p.1.args.map (Value.int .i64))) ∧ Below w1.heap.size w1 wr) (fun i _ => says.length - (intOf i).toNat)
  case atStart => exact ⟨0, q, Nat.zero_le _, rfl, HQL.out, hrow2, rfl, fun _ _ => rfl, fun j p hj => absurd hj (by omega), hb2⟩
  case round =>
  clear hrow2 hb2
  obtain ⟨m, R, hm, rfl, hRl, hrow, hmap, hrest, hargs, hb⟩ := hrel
  have HRL : Hid (R.length = says.length) := hRl
  have HMAP : Hid (R.map (·.1) = q.map (·.1)) := hmap
  have HREST : Hid (∀ j, m ≤ j → R[j]? = q[j]?) := hrest
  have HARGS : Hid (∀ j p, j < m → R[j]? = some p → wr.ownsRow w1.heap.size 3 1 p.2 p.1.args.length (p.1.args.map (Value.int .i64))) := hargs
  clear hmap hrest hargs hRl
  by_cases hlt : m < says.length
  · obtain ⟨x, hx, hxm⟩ : ∃ x, q[m]? = some x ∧ x ∈ q := ⟨q[m]'(by rw [HQL.out]; exact hlt), List.getElem?_eq_getElem _, List.getElem_mem _⟩
    have hRx : R[m]? = some x := (HREST.out m (Nat.le_refl _)).trans hx
    obtain ⟨g, rfl⟩ : ∃ g, sa = some ⟨g, 0, none⟩ := by
      rcases ownsRow_forms9 hrow with ⟨_, h0⟩ | ⟨g, c, hv⟩
      · omega
      · injection hv with hv
        exact ⟨g, hv⟩
    have hrow : FRow wr w1.heap.size g sc R := by
      unfold FRow
      rw [HRL.out]
      exact hrow
    obtain ⟨c0, c1⟩ := hrow.cell hRx
    obtain ⟨xa, xc, hxv⟩ := fv_slice (HQ2.out x hxm)
    have HIX : Hid (IntsV w x.2 x.1.args ∧ x.1.args.length ≤ 1048576) := ⟨(HQ2.out x hxm).1, Nat.le_trans (HFA.out _ (HQ1.out ▸ List.mem_map_of_mem hxm)) (by decide)⟩
    have HXV : Hid (x.2 = .slice xa x.1.args.length xc) := hxv
    rw [hxv] at c1
    have HRX : Hid (R[m]? = some x ∧ q[m]? = some x) := ⟨hRx, hx⟩
    clear hRx hx hxm hxv
    have f1 := hrow.frozen (m * 2 + 1)
    have HBW : Hid (Below w.heap.size w wr) := HB1.out.trans (hb.mono HB1.out.size)
    have HCI : Hid (Calls Try.prog 34 #[.slice xa x.1.args.length xc] wr fun e w' => ∃ v', e = .returned v' ∧ w'.ownsRow wr.heap.size 3 1 v' x.1.args.length (x.1.args.map (Value.int .i64)) ∧ Below wr.heap.size wr w') := cloneI_any x.1.args _ wr (by have h3 := intsV_below HIX.out.1 HBW.out; rw [HXV.out] at h3; exact h3) HIX.out.2
    go_wp2_with fail
    refine Calls.mono HCI.out ?_
    rintro e w7 ⟨v7, rfl, hown7, hb7⟩
    obtain ⟨a7, c7, rfl⟩ := own_slice hown7
    have hrow7 := hrow.keep (hb7.block g hrow.lt.2)
    have hput := hrow7.put1 HRX.out.1 (.slice a7 x.1.args.length c7)
    obtain ⟨d0, d1⟩ := hrow7.cell HRX.out.1
    rw [HXV.out] at d1
    have df1 := hrow7.frozen (m * 2 + 1)
    have hglt := hrow.lt
    have hb8 : Below w1.heap.size w1 (w7.setCell ⟨g, m * 2 + 1, none⟩ (.slice a7 x.1.args.length c7)) := (hb.trans (hb7.mono hb.size)).grown (grown_set _ _ _ _) (Nat.le_trans hb.size hb7.size) (fun k e => by cases e; omega)
    have HA2 : Hid (∀ j p, j < m + 1 → (R.set m (x.1, Value.slice a7 x.1.args.length c7))[j]? = some p → (w7.setCell ⟨g, m * 2 + 1, none⟩ (.slice a7 x.1.args.length c7)).ownsRow w1.heap.size 3 1 p.2 p.1.args.length (p.1.args.map (Value.int .i64))) := by
      intro j p hj hjp
      rw [List.getElem?_set] at hjp
      by_cases hjm : m = j
      · rw [if_pos hjm, if_pos (by rw [HRL.out]; omega)] at hjp
        obtain rfl : (x.1, Value.slice a7 x.1.args.length c7) = p := by simpa using hjp
        exact own3_set (rl_own_le hown7 hb.size) hrow7 _ _
      · rw [if_neg hjm] at hjp
        exact own3_set (ownsRow_below (HARGS.out j p (by omega) hjp) hb7) hrow7 _ _
    have HM2 : Hid ((R.set m (x.1, Value.slice a7 x.1.args.length c7)).map (·.1) = q.map (·.1)) := by
      show _ = _
      rw [List.map_set, HMAP.out]
      apply List.ext_getElem?
      intro t
      rw [List.getElem?_set]
      split
      · rename_i ht
        subst ht
        rw [if_pos (by rw [List.length_map, HQL.out]; exact hlt), List.getElem?_map, HRX.out.2]
        rfl
      · rfl
    have HR2 : Hid (∀ j, m + 1 ≤ j → (R.set m (x.1, Value.slice a7 x.1.args.length c7))[j]? = q[j]?) := fun j hj => by
      rw [List.getElem?_set, if_neg (by omega)]
      exact HREST.out j (by omega)
    have HPUT : Hid ((w7.setCell ⟨g, m * 2 + 1, none⟩ (.slice a7 x.1.args.length c7)).ownsRow w1.heap.size 51 2 (.slice (some ⟨g, 0, none⟩) says.length sc) says.length ((R.set m (x.1, Value.slice a7 x.1.args.length c7)).map fcCells).flatten) := by
      have h9 := hput
      unfold FRow at h9
      rw [List.length_set, HRL.out] at h9
      exact h9
    clear hrow hown7 hb7 hrow7 hb HARGS HMAP HREST c0 c1 f1 hput HCI
    go_wp2_with fail
    go_roundw
    case rel => exact ⟨m + 1, R.set m (x.1, Value.slice a7 x.1.args.length c7), hlt, by go_num, by rw [List.length_set]; exact HRL.out, HPUT.out, HM2.out, HR2.out, HA2.out, hb8⟩
    case measure => simp [intOf]; omega
  · have hdd : decide (m < says.length) = false := decide_eq_false hlt
    obtain rfl : m = says.length := by omega
    have HFP : Hid (FactsP w1.heap.size wr (.slice sa says.length sc) says) := ⟨R, HMAP.out.trans HQ1.out, by rw [HRL.out]; exact hrow, fun p hp => by
      obtain ⟨j, hj⟩ := List.mem_iff_getElem?.mp hp
      exact HARGS.out j p (by have := (List.getElem?_eq_some_iff.mp hj).1; rw [HRL.out] at this; exact this) hj⟩
    have HB : Hid (Below w.heap.size w wr) := HB1.out.trans (hb.mono HB1.out.size)
    have hsw : w.heap.size + 2 ≤ wr.heap.size := by have h1 := hb.size; have h2 := HSZ.out; omega
    have hs1 : w.heap.size + 2 ≤ w1.heap.size := by have h2 := HSZ.out; omega
    have HXC : Hid (∀ z, Below wr.heap.size wr z → z.cell? ⟨w.heap.size, 0, none⟩ = some (.int .i64 ua) ∧ z.cell? ⟨w.heap.size, 1, none⟩ = some (.int .i64 un) ∧ z.cell? ⟨w.heap.size, 2, none⟩ = some (.slice a1 ps.length d1) ∧ z.cell? ⟨w.heap.size, 3, none⟩ = some (.slice a2 says.length d2) ∧ z.cell? ⟨w.heap.size, 4, none⟩ = some (.slice a3 ts.length d3)) := fun z hz => by
      have h1 := hb.trans (hz.mono hb.size)
      have h2 := (h1.block _ (Array.getElem?_eq_some_iff.1 HX1.out).1).trans HX1.out
      exact ⟨by rw [Lib.cell_of_heap h2]; rfl, by rw [Lib.cell_of_heap h2]; rfl, by rw [Lib.cell_of_heap h2]; rfl, by rw [Lib.cell_of_heap h2]; rfl, by rw [Lib.cell_of_heap h2]; rfl⟩
    have HXZ : Hid (∀ z, Below wr.heap.size wr z → z.heap[w.heap.size + 1]? = some (.cells #[.int .i64 0, .int .i64 0, .slice none 0 0, .slice none 0 0, .slice none 0 0] 34)) := fun z hz => by
      have h1 := hb.trans (hz.mono hb.size)
      exact (h1.block _ (Array.getElem?_eq_some_iff.1 HZ1.out).1).trans HZ1.out
    have HP : Hid (∀ z, Below wr.heap.size wr z → Calls Try.prog 35 #[.slice a1 ps.length d1] z fun e w' => ∃ v', e = .returned v' ∧ w'.ownsRow wr.heap.size 30 2 v' ps.length (ps.map idCells).flatten ∧ Below z.heap.size z w') := fun z hz => by
      obtain ⟨_, _, e9, hc, hA⟩ := idsV_below HX0.out.p (HB.out.trans (hz.mono HB.out.size))
      cases e9
      refine (cloneD_any ps.length _ a1 d1 z (ids_cells hA) (ids_flat ps) (ids_one ps) (by omega) (fun h => by have h1 := hc.2 h; have h2 := hc.1; omega)).mono ?_
      rintro e w' ⟨v', h1, h2, h3⟩
      exact ⟨v', h1, rl_own_le h2 hz.size, h3⟩
    have HT : Hid (∀ z, Below wr.heap.size wr z → Calls Try.prog 35 #[.slice a3 ts.length d3] z fun e w' => ∃ v', e = .returned v' ∧ w'.ownsRow wr.heap.size 30 2 v' ts.length (ts.map idCells).flatten ∧ Below z.heap.size z w') := fun z hz => by
      obtain ⟨_, _, e9, hc, hA⟩ := idsV_below HX0.out.t (HB.out.trans (hz.mono HB.out.size))
      cases e9
      refine (cloneD_any ts.length _ a3 d3 z (ids_cells hA) (ids_flat ts) (ids_one ts) (by omega) (fun h => by have h1 := hc.2 h; have h2 := hc.1; omega)).mono ?_
      rintro e w' ⟨v', h1, h2, h3⟩
      exact ⟨v', h1, rl_own_le h2 hz.size, h3⟩
    clear HARGS HREST HMAP HQ1 HQ2 HX0 HX1 HZ1 HFA hrow hb HB1
    go_upto_region 7 with fail
    refine wp_region_tabL (copyT w.heap.size wr.heap.size ua un a1 d1 sa says.length sc a3 d3 ps ts) _ rfl (by kernel_rfl) (by kernel_rfl) (by kernel_rfl) (copyT_mono _ _ _ _ _ _ _ _ _ _ _ _ _) ?hop ?hlast
    case hop =>
      refine AllOps.cons (fun a y h => ?_) ?_
      · have e1 : a.eval (.tmp 1) = (.pointer (some ⟨w.heap.size, 0, none⟩) : Value) := h.old 1 (by kernel_rfl)
        refine opOk_val (v := .pointer (some ⟨w.heap.size, 0, none⟩)) (w' := y) (wanted_none rfl) ?_ (fun t ht => by cases ht; exact rfl) (Below.refl _ _)
        have ec : ∀ v, a.eval (.const v) = v := fun _ => rfl
        generalize a.eval = ev at *
        clear h
        go_simp
      refine AllOps.cons (fun a y h => ?_) ?_
      · have e24 : a.eval (.tmp 24) = (.pointer (some ⟨w.heap.size, 0, none⟩) : Value) := h.of 24 (by kernel_rfl)
        obtain ⟨c0, c1, c2, c3, c4⟩ := HXC.out y h.below
        refine opOk_val (v := .agg #[.int .i64 ua, .int .i64 un]) (w' := y) (wanted_none rfl) ?_ (fun t ht => by cases ht; exact rfl) (Below.refl _ _)
        have ec : ∀ v, a.eval (.const v) = v := fun _ => rfl
        generalize a.eval = ev at *
        clear h
        go_simp
      refine AllOps.cons (fun a y h => ?_) ?_
      · have e1 : a.eval (.tmp 1) = (.pointer (some ⟨w.heap.size, 0, none⟩) : Value) := h.old 1 (by kernel_rfl)
        refine opOk_val (v := .pointer (some ⟨w.heap.size, 2, none⟩)) (w' := y) (wanted_none rfl) ?_ (fun t ht => by cases ht; exact rfl) (Below.refl _ _)
        have ec : ∀ v, a.eval (.const v) = v := fun _ => rfl
        generalize a.eval = ev at *
        clear h
        go_simp
      refine AllOps.cons (fun a y h => ?_) ?_
      · have e26 : a.eval (.tmp 26) = (.pointer (some ⟨w.heap.size, 2, none⟩) : Value) := h.of 26 (by kernel_rfl)
        obtain ⟨c0, c1, c2, c3, c4⟩ := HXC.out y h.below
        refine opOk_val (v := .slice a1 ps.length d1) (w' := y) (wanted_none rfl) ?_ (fun t ht => by cases ht; exact rfl) (Below.refl _ _)
        have ec : ∀ v, a.eval (.const v) = v := fun _ => rfl
        generalize a.eval = ev at *
        clear h
        go_simp
      refine AllOps.cons (fun a y h => ?_) ?_
      · have e27 : a.eval (.tmp 27) = (.slice a1 ps.length d1 : Value) := h.of 27 (by kernel_rfl)
        refine opOk_call (f := 35) (args := #[.slice a1 ps.length d1]) (wanted_none rfl) ?_ ?_
        · have ec : ∀ v, a.eval (.const v) = v := fun _ => rfl
          have ef : ∀ f, a.eval (.func f) = .func (.func f) #[] #[] := fun _ => rfl
          generalize a.eval = ev at *
          clear h
          go_simp
        · refine (HP.out y h.below).mono ?_
          rintro e w' ⟨v', rfl, ho, hb⟩
          exact ⟨v', rfl, fun t ht => by cases ht; exact ho, hb⟩
      refine AllOps.cons (fun a y h => ?_) ?_
      · have e3 : a.eval (.tmp 3) = (.slice sa says.length sc : Value) := h.old 3 (by kernel_rfl)
        refine opOk_val (v := .slice sa says.length sc) (w' := y) (wanted_none rfl) ?_ (fun t ht => by cases ht; exact rfl) (Below.refl _ _)
        have ec : ∀ v, a.eval (.const v) = v := fun _ => rfl
        generalize a.eval = ev at *
        clear h
        go_simp
      refine AllOps.cons (fun a y h => ?_) ?_
      · have e1 : a.eval (.tmp 1) = (.pointer (some ⟨w.heap.size, 0, none⟩) : Value) := h.old 1 (by kernel_rfl)
        refine opOk_val (v := .pointer (some ⟨w.heap.size, 4, none⟩)) (w' := y) (wanted_none rfl) ?_ (fun t ht => by cases ht; exact rfl) (Below.refl _ _)
        have ec : ∀ v, a.eval (.const v) = v := fun _ => rfl
        generalize a.eval = ev at *
        clear h
        go_simp
      refine AllOps.cons (fun a y h => ?_) ?_
      · have e30 : a.eval (.tmp 30) = (.pointer (some ⟨w.heap.size, 4, none⟩) : Value) := h.of 30 (by kernel_rfl)
        obtain ⟨c0, c1, c2, c3, c4⟩ := HXC.out y h.below
        refine opOk_val (v := .slice a3 ts.length d3) (w' := y) (wanted_none rfl) ?_ (fun t ht => by cases ht; exact rfl) (Below.refl _ _)
        have ec : ∀ v, a.eval (.const v) = v := fun _ => rfl
        generalize a.eval = ev at *
        clear h
        go_simp
      refine AllOps.cons (fun a y h => ?_) ?_
      · have e31 : a.eval (.tmp 31) = (.slice a3 ts.length d3 : Value) := h.of 31 (by kernel_rfl)
        refine opOk_call (f := 35) (args := #[.slice a3 ts.length d3]) (wanted_none rfl) ?_ ?_
        · have ec : ∀ v, a.eval (.const v) = v := fun _ => rfl
          have ef : ∀ f, a.eval (.func f) = .func (.func f) #[] #[] := fun _ => rfl
          generalize a.eval = ev at *
          clear h
          go_simp
        · refine (HT.out y h.below).mono ?_
          rintro e w' ⟨v', rfl, ho, hb⟩
          exact ⟨v', rfl, fun t ht => by cases ht; exact ho, hb⟩
      refine AllOps.cons (fun a y h => ?_) ?_
      · have e25 : a.eval (.tmp 25) = (.agg #[.int .i64 ua, .int .i64 un] : Value) := h.of 25 (by kernel_rfl)
        have t28 : y.ownsRow wr.heap.size 30 2 (a.eval (.tmp 28)) ps.length (ps.map idCells).flatten := h.of 28 (by kernel_rfl)
        have e29 : a.eval (.tmp 29) = (.slice sa says.length sc : Value) := h.of 29 (by kernel_rfl)
        have t32 : y.ownsRow wr.heap.size 30 2 (a.eval (.tmp 32)) ts.length (ts.map idCells).flatten := h.of 32 (by kernel_rfl)
        obtain ⟨p1, k1, q28⟩ := own_slice t28
        obtain ⟨p3, k3, q32⟩ := own_slice t32
        refine opOk_val (v := .agg #[.int .i64 ua, .int .i64 un, .slice p1 ps.length k1, .slice sa says.length sc, .slice p3 ts.length k3]) (w' := y) (wanted_none rfl) ?_ (fun t ht => by cases ht; exact ⟨_, _, rfl, q28 ▸ t28, q32 ▸ t32⟩) (Below.refl _ _)
        have ec : ∀ v, a.eval (.const v) = v := fun _ => rfl
        generalize a.eval = ev at *
        clear h
        go_simp
      exact AllOps.nil
    case hlast =>
      rintro ⟨tm, df⟩ y hI
      obtain ⟨v1, v2, e33, o1, o2⟩ : ∃ v1 v2, (Act.eval ⟨tm, df⟩ (.tmp 33)) = .agg #[.int .i64 ua, .int .i64 un, v1, .slice sa says.length sc, v2] ∧ y.ownsRow wr.heap.size 30 2 v1 ps.length (ps.map idCells).flatten ∧ y.ownsRow wr.heap.size 30 2 v2 ts.length (ts.map idCells).flatten := hI.all 9 _ 33 (by decide) rfl rfl
      have e2 : Act.eval ⟨tm, df⟩ (.tmp 2) = .pointer (some ⟨w.heap.size + 1, 0, none⟩) := hI.still 2 (by decide)
      obtain ⟨p1, k1, rfl⟩ := own_slice o1
      obtain ⟨p3, k3, rfl⟩ := own_slice o2
      have sk0 := (HXZ.out y hI.below)
      have sz0 : (y).cell? ⟨w.heap.size + 1, 0, none⟩ = some (.int .i64 0) := by rw [Lib.cell_of_heap sk0]; rfl
      have sy0 := Lib.frozen_of_heap sk0 0
      have sk1 : ((y).setCell ⟨w.heap.size + 1, 0, none⟩ (.int .i64 ua)).heap[w.heap.size + 1]? = some (.cells #[.int .i64 ua, .int .i64 0, .slice none 0 0, .slice none 0 0, .slice none 0 0] 34) := by rw [Lib.heap_setCell_same sk0]; rfl
      have sz1 : ((y).setCell ⟨w.heap.size + 1, 0, none⟩ (.int .i64 ua)).cell? ⟨w.heap.size + 1, 1, none⟩ = some (.int .i64 0) := by rw [Lib.cell_of_heap sk1]; rfl
      have sy1 := Lib.frozen_of_heap sk1 1
      have sk2 : (((y).setCell ⟨w.heap.size + 1, 0, none⟩ (.int .i64 ua)).setCell ⟨w.heap.size + 1, 1, none⟩ (.int .i64 un)).heap[w.heap.size + 1]? = some (.cells #[.int .i64 ua, .int .i64 un, .slice none 0 0, .slice none 0 0, .slice none 0 0] 34) := by rw [Lib.heap_setCell_same sk1]; rfl
      have sz2 : (((y).setCell ⟨w.heap.size + 1, 0, none⟩ (.int .i64 ua)).setCell ⟨w.heap.size + 1, 1, none⟩ (.int .i64 un)).cell? ⟨w.heap.size + 1, 2, none⟩ = some (.slice none 0 0) := by rw [Lib.cell_of_heap sk2]; rfl
      have sy2 := Lib.frozen_of_heap sk2 2
      have sk3 : ((((y).setCell ⟨w.heap.size + 1, 0, none⟩ (.int .i64 ua)).setCell ⟨w.heap.size + 1, 1, none⟩ (.int .i64 un)).setCell ⟨w.heap.size + 1, 2, none⟩ (.slice p1 ps.length k1)).heap[w.heap.size + 1]? = some (.cells #[.int .i64 ua, .int .i64 un, .slice p1 ps.length k1, .slice none 0 0, .slice none 0 0] 34) := by rw [Lib.heap_setCell_same sk2]; rfl
      have sz3 : ((((y).setCell ⟨w.heap.size + 1, 0, none⟩ (.int .i64 ua)).setCell ⟨w.heap.size + 1, 1, none⟩ (.int .i64 un)).setCell ⟨w.heap.size + 1, 2, none⟩ (.slice p1 ps.length k1)).cell? ⟨w.heap.size + 1, 3, none⟩ = some (.slice none 0 0) := by rw [Lib.cell_of_heap sk3]; rfl
      have sy3 := Lib.frozen_of_heap sk3 3
      have sk4 : (((((y).setCell ⟨w.heap.size + 1, 0, none⟩ (.int .i64 ua)).setCell ⟨w.heap.size + 1, 1, none⟩ (.int .i64 un)).setCell ⟨w.heap.size + 1, 2, none⟩ (.slice p1 ps.length k1)).setCell ⟨w.heap.size + 1, 3, none⟩ (.slice sa says.length sc)).heap[w.heap.size + 1]? = some (.cells #[.int .i64 ua, .int .i64 un, .slice p1 ps.length k1, .slice sa says.length sc, .slice none 0 0] 34) := by rw [Lib.heap_setCell_same sk3]; rfl
      have sz4 : (((((y).setCell ⟨w.heap.size + 1, 0, none⟩ (.int .i64 ua)).setCell ⟨w.heap.size + 1, 1, none⟩ (.int .i64 un)).setCell ⟨w.heap.size + 1, 2, none⟩ (.slice p1 ps.length k1)).setCell ⟨w.heap.size + 1, 3, none⟩ (.slice sa says.length sc)).cell? ⟨w.heap.size + 1, 4, none⟩ = some (.slice none 0 0) := by rw [Lib.cell_of_heap sk4]; rfl
      have sy4 := Lib.frozen_of_heap sk4 4
      have sk5 : ((((((y).setCell ⟨w.heap.size + 1, 0, none⟩ (.int .i64 ua)).setCell ⟨w.heap.size + 1, 1, none⟩ (.int .i64 un)).setCell ⟨w.heap.size + 1, 2, none⟩ (.slice p1 ps.length k1)).setCell ⟨w.heap.size + 1, 3, none⟩ (.slice sa says.length sc)).setCell ⟨w.heap.size + 1, 4, none⟩ (.slice p3 ts.length k3)).heap[w.heap.size + 1]? = some (.cells #[.int .i64 ua, .int .i64 un, .slice p1 ps.length k1, .slice sa says.length sc, .slice p3 ts.length k3] 34) := by rw [Lib.heap_setCell_same sk4]; rfl
      refine wpOp_skip (w' := (((((y).setCell ⟨w.heap.size + 1, 0, none⟩ (.int .i64 ua)).setCell ⟨w.heap.size + 1, 1, none⟩ (.int .i64 un)).setCell ⟨w.heap.size + 1, 2, none⟩ (.slice p1 ps.length k1)).setCell ⟨w.heap.size + 1, 3, none⟩ (.slice sa says.length sc)).setCell ⟨w.heap.size + 1, 4, none⟩ (.slice p3 ts.length k3)) rfl (wanted_none rfl) rfl ?hr ?_
      case hr =>
        show Sem.run Try.prog (execOp (Act.eval ⟨tm, df⟩) _) y = _
        generalize Act.eval ⟨tm, df⟩ = ev at *
        clear hI
        go_simp
      have HGR : Hid (y.grownBy ((((((y).setCell ⟨w.heap.size + 1, 0, none⟩ (.int .i64 ua)).setCell ⟨w.heap.size + 1, 1, none⟩ (.int .i64 un)).setCell ⟨w.heap.size + 1, 2, none⟩ (.slice p1 ps.length k1)).setCell ⟨w.heap.size + 1, 3, none⟩ (.slice sa says.length sc)).setCell ⟨w.heap.size + 1, 4, none⟩ (.slice p3 ts.length k3)) (some (w.heap.size + 1))) := ((((grown_set y _ 0 _).trans_row (grown_set _ _ 1 _)).trans_row (grown_set _ _ 2 _)).trans_row (grown_set _ _ 3 _)).trans_row (grown_set _ _ 4 _)
      have HBF : Hid (Below w.heap.size w ((((((y).setCell ⟨w.heap.size + 1, 0, none⟩ (.int .i64 ua)).setCell ⟨w.heap.size + 1, 1, none⟩ (.int .i64 un)).setCell ⟨w.heap.size + 1, 2, none⟩ (.slice p1 ps.length k1)).setCell ⟨w.heap.size + 1, 3, none⟩ (.slice sa says.length sc)).setCell ⟨w.heap.size + 1, 4, none⟩ (.slice p3 ts.length k3))) := ((HB.out.trans (hI.below.mono HB.out.size))).grown HGR.out (Nat.le_trans HB.out.size hI.below.size) (fun j e => by cases e; omega)
      have HPS : Hid _ := rl_own_le (base' := w.heap.size) (o1.kept HGR.out (.inr (fun e => by have := (o1.lt _ e).1; omega))) (by omega)
      have HTS : Hid _ := rl_own_le (base' := w.heap.size) (o2.kept HGR.out (.inr (fun e => by have := (o2.lt _ e).1; omega))) (by omega)
      have HSS : Hid (FactsP w1.heap.size ((((((y).setCell ⟨w.heap.size + 1, 0, none⟩ (.int .i64 ua)).setCell ⟨w.heap.size + 1, 1, none⟩ (.int .i64 un)).setCell ⟨w.heap.size + 1, 2, none⟩ (.slice p1 ps.length k1)).setCell ⟨w.heap.size + 1, 3, none⟩ (.slice sa says.length sc)).setCell ⟨w.heap.size + 1, 4, none⟩ (.slice p3 ts.length k3)) (.slice sa says.length sc) says) := factsP_grown (factsP_below HFP.out hI.below) HGR.out (by omega)
      have d0 : ((((((y).setCell ⟨w.heap.size + 1, 0, none⟩ (.int .i64 ua)).setCell ⟨w.heap.size + 1, 1, none⟩ (.int .i64 un)).setCell ⟨w.heap.size + 1, 2, none⟩ (.slice p1 ps.length k1)).setCell ⟨w.heap.size + 1, 3, none⟩ (.slice sa says.length sc)).setCell ⟨w.heap.size + 1, 4, none⟩ (.slice p3 ts.length k3)).cell? ⟨w.heap.size + 1, 0, none⟩ = some (.int .i64 ua) := by rw [Lib.cell_of_heap sk5]; rfl
      have d1 : ((((((y).setCell ⟨w.heap.size + 1, 0, none⟩ (.int .i64 ua)).setCell ⟨w.heap.size + 1, 1, none⟩ (.int .i64 un)).setCell ⟨w.heap.size + 1, 2, none⟩ (.slice p1 ps.length k1)).setCell ⟨w.heap.size + 1, 3, none⟩ (.slice sa says.length sc)).setCell ⟨w.heap.size + 1, 4, none⟩ (.slice p3 ts.length k3)).cell? ⟨w.heap.size + 1, 1, none⟩ = some (.int .i64 un) := by rw [Lib.cell_of_heap sk5]; rfl
      have d2 : ((((((y).setCell ⟨w.heap.size + 1, 0, none⟩ (.int .i64 ua)).setCell ⟨w.heap.size + 1, 1, none⟩ (.int .i64 un)).setCell ⟨w.heap.size + 1, 2, none⟩ (.slice p1 ps.length k1)).setCell ⟨w.heap.size + 1, 3, none⟩ (.slice sa says.length sc)).setCell ⟨w.heap.size + 1, 4, none⟩ (.slice p3 ts.length k3)).cell? ⟨w.heap.size + 1, 2, none⟩ = some (.slice p1 ps.length k1) := by rw [Lib.cell_of_heap sk5]; rfl
      have d3 : ((((((y).setCell ⟨w.heap.size + 1, 0, none⟩ (.int .i64 ua)).setCell ⟨w.heap.size + 1, 1, none⟩ (.int .i64 un)).setCell ⟨w.heap.size + 1, 2, none⟩ (.slice p1 ps.length k1)).setCell ⟨w.heap.size + 1, 3, none⟩ (.slice sa says.length sc)).setCell ⟨w.heap.size + 1, 4, none⟩ (.slice p3 ts.length k3)).cell? ⟨w.heap.size + 1, 3, none⟩ = some (.slice sa says.length sc) := by rw [Lib.cell_of_heap sk5]; rfl
      have d4 : ((((((y).setCell ⟨w.heap.size + 1, 0, none⟩ (.int .i64 ua)).setCell ⟨w.heap.size + 1, 1, none⟩ (.int .i64 un)).setCell ⟨w.heap.size + 1, 2, none⟩ (.slice p1 ps.length k1)).setCell ⟨w.heap.size + 1, 3, none⟩ (.slice sa says.length sc)).setCell ⟨w.heap.size + 1, 4, none⟩ (.slice p3 ts.length k3)).cell? ⟨w.heap.size + 1, 4, none⟩ = some (.slice p3 ts.length k3) := by rw [Lib.cell_of_heap sk5]; rfl
      have hszE := hI.size
      have hstE := hI.still
      obtain rfl : df = [] := hI.defers
      clear hI o1 o2 e33 e2 sk0 sk1 sk2 sk3 sk4 sk5 sz0 sz1 sz2 sz3 sz4 sy0 sy1 sy2 sy3 sy4
      generalize (((((y).setCell ⟨w.heap.size + 1, 0, none⟩ (.int .i64 ua)).setCell ⟨w.heap.size + 1, 1, none⟩ (.int .i64 un)).setCell ⟨w.heap.size + 1, 2, none⟩ (.slice p1 ps.length k1)).setCell ⟨w.heap.size + 1, 3, none⟩ (.slice sa says.length sc)).setCell ⟨w.heap.size + 1, 4, none⟩ (.slice p3 ts.length k3) = yf at *
      show Exit.then _ _ Exit.normal ⟨tm, []⟩ yf
      have hF8 := tmps_fold [24, 25, 26, 27, 28, 29, 30, 31, 32, 33] tm _ hszE hstE
      clear hszE hstE
      simp only [List.foldl_cons, List.foldl_nil] at hF8
      generalize tm.getD 24 undef = x24 at hF8
      generalize tm.getD 25 undef = x25 at hF8
      generalize tm.getD 26 undef = x26 at hF8
      generalize tm.getD 27 undef = x27 at hF8
      generalize tm.getD 28 undef = x28 at hF8
      generalize tm.getD 29 undef = x29 at hF8
      generalize tm.getD 30 undef = x30 at hF8
      generalize tm.getD 31 undef = x31 at hF8
      generalize tm.getD 32 undef = x32 at hF8
      generalize tm.getD 33 undef = x33 at hF8
      simp only [List.setIfInBounds_toArray, List.set_cons_zero, List.set_cons_succ] at hF8
      subst hF8
      go_wp2_with fail
      refine bodyPost_ret (v := .agg #[.int .i64 ua, .int .i64 un, .slice p1 ps.length k1, .slice sa says.length sc, .slice p3 ts.length k3]) (by simp [results, Try.results21, go_sem, d0, d1, d2, d3, d4]) rfl ?_
      exact ⟨⟨⟨⟨ua, un⟩, ps, says, ts⟩, .slice p1 ps.length k1, .slice sa says.length sc, .slice p3 ts.length k3⟩, rfl, rfl, ⟨HPS.out, factsP_le HSS.out (by omega), HTS.out, HFF.out, HL.out⟩, HBF.out⟩
end Go.Proofs.Ytmfaodapofamfaa

