/- Own texts, one behind the other (part 7). -/
import Derived.Test.YtmfaodapofamfaaGreatBundleF
import Derived.Test.YtmfaodapofamfaaGreatRows
import Derived.WideKeyEntry
/- Missing: what is not known of what is there. -/
namespace Go.Proofs.YtmfaodapofamfaaGreat
open Go.RowKit

/-- All blocks but those of updates stand. -/
def Kt (z z' : World) : Prop := ∀ (k : Nat) (a : Array Value) (t : TypeId), t ≠ 30 → z.heap[k]? = some (.cells a t) → z'.heap[k]? = some (.cells a t)
theorem Kt.below {z z' : World} (h : Below z.heap.size z z') : Kt z z' := fun _ _ _ _ e => (h.block _ (Array.getElem?_eq_some_iff.1 e).1).trans e
theorem Kt.trans {a b c : World} (h : Kt a b) (k : Kt b c) : Kt a c := fun i x t h1 h3 => k i x t h1 (h i x t h1 h3)
theorem kt_append {W W' : World} {B : Nat} {v : Value} {q : List Uv} (h : URow W B v q) (hg : W.grownBy W' v.ownBlock) : Kt W W' := fun k a t ht e => by
  refine (hg.block k (Array.getElem?_eq_some_iff.1 e).1 (fun e2 => ?_)).trans e
  obtain ⟨_, h | ⟨g, cap, cur, rfl, _, hh, _⟩⟩ := h
  · rw [h.1] at e2
    cases e2
  · have e3 : k = g := by cases e2; rfl
    subst e3
    rw [hh] at e
    injection e with e
    injection e with _ e _
    exact ht e.symm
theorem UvP.kt {B : Nat} {w w' : World} {x : Uv} (h : UvP B w x) (k : Kt w w') : UvP B w' x := by
  obtain ⟨q, e, h1, h2⟩ := h.s
  exact ⟨own_type h.p (fun i a => k i a 26 (by decide)), ⟨q, e, own_type h1 (fun i a => k i a 84 (by decide)), fun p hp => own_type (h2 p hp) (fun i a => k i a 3 (by decide))⟩, own_type h.t (fun i a => k i a 26 (by decide)), h.f, h.l⟩
theorem Gs.right_args {u : Wr.Up} (h : Wr.Right u) {f : Rl.Fc} (hf : f ∈ u.says) : f.args.length ≤ 3 := by
  have := h.fs f hf
  unfold Wr.factOk at this
  simp at this
  omega
noncomputable def Gs.missErr (h w : List Wr.Up) (ids : List Wr.Id) : Int := if Dg.check h w ≠ 0 then Dg.check h w else if 200 < ids.length then 2 else 0
noncomputable def Gs.missOut (h w : List Wr.Up) (ids : List Wr.Id) : List Wr.Up := if Gs.missErr h w ids = 0 then Gs.missing h ids else []
theorem Gs.miss_step {q : List Uv} {ids : List Wr.Id} {k : Nat} (hk : k < q.length) : (ups (q.take (k + 1))).filter (fun u => !Gs.knows (ups q) ids u) = (ups (q.take k)).filter (fun u => !Gs.knows (ups q) ids u) ++ if Gs.knows (ups q) ids (uvD q k).u then [] else [(uvD q k).u] := by
  rw [uvD_take q k hk, ups_append, List.filter_append]
  have e : ups [uvD q k] = [(uvD q k).u] := rfl
  rw [e]
  cases h : Gs.knows (ups q) ids (uvD q k).u <;> simp [h]
theorem Gs.known_at {q : List Uv} {ids : List Wr.Id} {k : Nat} (hk : k < q.length) : (Gs.known (ups q) ids).getD k false = Gs.knows (ups q) ids (uvD q k).u := by
  have eu : uvD q k = q[k] := by
    unfold uvD
    rw [List.getD_eq_getElem?_getD, List.getElem?_eq_getElem hk]
    rfl
  rw [eu]
  simp [Gs.known, ups, List.getElem?_eq_getElem hk]

set_option maxRecDepth 100000 in
set_option maxHeartbeats 4000000 in
theorem Missing_any (hq wq : List Uv) (hv wv : Value) (ids : List Wr.Id) (iv : Value) (w : World) (hV : UpsV w hv hq) (wV : UpsV w wv wq) (hl : hq.length ≤ 4611686018427387903 ∧ wq.length ≤ 4611686018427387903) (hok : ∀ y, y ∈ hq ++ wq → UvOk w y) (hI : IdsV w iv ids) (hil : ids.length ≤ 9223372036854775807) :
    Calls Tryz.prog 21 #[repVal hv wv, iv] w fun e w' => ∃ (v : Value) (R : List Uv), e = .returned (.tuple #[v, .int .i64 (Gs.missErr (ups hq) (ups wq) ids)]) ∧ UpsV w' v R ∧ (∀ x, x ∈ R → UvOk w' x) ∧ ups R = Gs.missOut (ups hq) (ups wq) ids ∧ Below w.heap.size w w' := by
  obtain ⟨ah, ch, rfl, hch, hAt⟩ := id hV
  obtain ⟨aw, cw, rfl, hcw, wAt⟩ := id wV
  obtain ⟨ai, ci, rfl, hci, hAi⟩ := id hI
  clear hch hcw wAt hci hAi
  obtain ⟨E, hE⟩ : ∃ E, E = Gs.missErr (ups hq) (ups wq) ids := ⟨_, rfl⟩
  obtain ⟨c, hc⟩ : ∃ c, c = Dg.check (ups hq) (ups wq) := ⟨_, rfl⟩
  have HE : Hid (E = Gs.missErr (ups hq) (ups wq) ids) := hE
  rw [← hE]
  have HOUT : Hid (E ≠ 0 → [] = Gs.missOut (ups hq) (ups wq) ids) := fun h => by unfold Gs.missOut; rw [if_neg (by rw [← hE]; exact h)]
  have HOK : Hid (c = 0 → Dg.Ok (ups hq) (ups wq)) := fun h => Dg.check_ok.mp (hc ▸ h)
  have HR : Hid (∀ z, Below w.heap.size w z → UpsV z (.slice ah hq.length ch) hq ∧ UpsV z (.slice aw wq.length cw) wq ∧ (∀ y, y ∈ hq ++ wq → UvOk z y) ∧ IdsV z (.slice ai ids.length ci) ids) := fun z hz => ⟨hV.kc (Kc.below hz), wV.kc (Kc.below hz), (fun y hy => (hok y hy).below hz), idsV_below hI hz⟩
  have H15 : Hid (∀ z, Below w.heap.size w z → Calls Tryz.prog 15 #[.agg #[.slice ah hq.length ch, .slice aw wq.length cw]] z fun e w' => e = .returned (.int .i64 c) ∧ Below z.heap.size z w') := fun z hz => by
    obtain ⟨k1, k2, k3, _⟩ := HR.out z hz
    rw [hc]
    exact DCheck_any hq wq _ _ z k1 k2 hl k3
  have HCC : Hid (c = Dg.check (ups hq) (ups wq)) := hc
  clear hV wV hI hok hl hAt hE hc
  have b0 := heap_alloc_new w (.cells #[.slice ah hq.length ch, .slice aw wq.length cw] 24)
  have g0 := new_below w (.cells #[.slice ah hq.length ch, .slice aw wq.length cw] 24)
  go_enter Tryz.func21, Tryz.ntmps21
  go_upto_region 1 with fail
  generalize w.alloc (.cells #[.slice ah hq.length ch, .slice aw wq.length cw] 24) = w1 at *
  have HX1 : Hid (∀ z, Below w1.heap.size w1 z → z.cell? ⟨w.heap.size, 0, none⟩ = some (.slice ah hq.length ch) ∧ z.cell? ⟨w.heap.size, 1, none⟩ = some (.slice aw wq.length cw)) := fun z hz => ⟨cell_below hz (by rw [Lib.cell_of_heap b0]; rfl), cell_below hz (by rw [Lib.cell_of_heap b0]; rfl)⟩
  have HG1 : Hid (Below w.heap.size w w1) := g0
  clear b0 g0
  obtain ⟨x0, x1⟩ := HX1.out w1 (Below.refl _ _)
  go_wp2_with fail
  refine Calls.mono (H15.out w1 HG1.out) ?_
  rintro _ w2 ⟨rfl, hb2⟩
  have HX2 : Hid (∀ z, Below w2.heap.size w2 z → z.cell? ⟨w.heap.size, 0, none⟩ = some (.slice ah hq.length ch) ∧ z.cell? ⟨w.heap.size, 1, none⟩ = some (.slice aw wq.length cw)) := fun z hz => HX1.out z (hb2.trans (hz.mono hb2.size))
  have HG2 : Hid (Below w.heap.size w w2) := HG1.out.trans (hb2.mono HG1.out.size)
  clear x0 x1 hb2 HX1 HG1 H15
  by_cases h0 : c = 0
  case neg =>
    have d0 : (!decide (c = 0)) = true := by simp [h0]
    have hE2 : E = c := by rw [HE.out, HCC.out]; unfold Gs.missErr; rw [if_pos (by rw [← HCC.out]; exact h0)]
    subst hE2
    go_wp2_with fail
    go_ret2
    exact ⟨_, [], rfl, ups_nil _, (fun x hx => by cases hx), HOUT.out h0, HG2.out⟩
  subst h0
  have HO : Hid (Dg.Ok (ups hq) (ups wq)) := HOK.out rfl
  have hfew := HO.out.few
  rw [ups_length, ups_length] at hfew
  clear HOK
  by_cases h1 : ids.length ≤ 200
  case neg =>
    have d0 : decide ((200 : Int) < (ids.length : Int)) = true := decide_eq_true (by omega)
    have d0' : decide ((ids.length : Int) > 200) = true := decide_eq_true (by omega)
    have hE2 : E = 2 := by rw [HE.out]; unfold Gs.missErr; rw [if_neg (fun h => h HCC.out.symm), if_pos (by omega)]
    subst hE2
    go_wp2_with fail
    go_ret2
    exact ⟨_, [], rfl, ups_nil _, (fun x hx => by cases hx), HOUT.out (by decide), HG2.out⟩
  have d0 : decide ((200 : Int) < (ids.length : Int)) = false := decide_eq_false (by omega)
  have d0' : decide ((ids.length : Int) > 200) = false := decide_eq_false (by omega)
  have hE2 : E = 0 := by rw [HE.out]; unfold Gs.missErr; rw [if_neg (fun h => h HCC.out.symm), if_neg (by omega)]
  subst hE2
  have HFI : Hid (Gs.missing (ups hq) ids = Gs.missOut (ups hq) (ups wq) ids) := by show _ = _; unfold Gs.missOut; rw [if_pos HE.out.symm]
  have HEA : Hid (∀ y, y ∈ hq → Wr.check y.u = 0) := fun y hy => HO.out.each y.u (List.mem_append_left _ (List.mem_map_of_mem hy))
  have HKB : Hid _ := knownBy_any hq ids (.slice ai ids.length ci) (.slice ah hq.length ch) w2 HO.out.rh (by omega) (HR.out w2 HG2.out).2.2.2 (by omega) (HR.out w2 HG2.out).1 (fun y hy => ⟨(HR.out w2 HG2.out).2.2.1 y (List.mem_append_left _ hy), (Wr.right_of (HEA.out y hy)).ps, (Wr.right_of (HEA.out y hy)).ts⟩)
  obtain ⟨x0, x1⟩ := HX2.out w2 (Below.refl _ _)
  clear HE HOUT HCC
  go_wp2_with fail
  refine Calls.mono HKB.out ?_
  rintro _ wO ⟨K, rfl, hrow, hKl, hb3⟩
  have HXO : Hid (∀ z, Below wO.heap.size wO z → z.cell? ⟨w.heap.size, 0, none⟩ = some (.slice ah hq.length ch) ∧ z.cell? ⟨w.heap.size, 1, none⟩ = some (.slice aw wq.length cw)) := fun z hz => HX2.out z (hb3.trans (hz.mono hb3.size))
  have HGO : Hid (Below w.heap.size w wO) := HG2.out.trans (hb3.mono HG2.out.size)
  have HROW : Hid (wO.heap[K]? = some (.cells (boolRow (Gs.known (ups hq) ids)) 4)) := hrow
  clear x0 x1 hb3 HX2 HG2 HKB hrow hKl d0 d0'
  go_wp2_with fail
  go_loopw [7, 23] (fun mv iv wr => ∃ (k : Nat) (R : List Uv), k ≤ hq.length ∧ iv = .int .i64 k ∧ Hid (ups R = (ups (hq.take k)).filter (fun u => !Gs.knows (ups hq) ids u)) ∧ URow wr wO.heap.size mv R ∧ Hid (R.length ≤ k ∧ ∀ x, x ∈ R → UvP wO.heap.size wr x) ∧ Hid (Below wO.heap.size wO wr)) (fun _ iv _ => hq.length - (intOf iv).toNat)
  case atStart => exact ⟨0, [], Nat.zero_le _, rfl, rfl, World.ownsRow_nil _ _ _ _, ⟨Nat.le_refl _, (fun x hx => by cases hx)⟩, Below.refl _ _⟩
  case round =>
    obtain ⟨k, R, hk, rfl, HU, hrw, HP, HB⟩ := hrel
    obtain ⟨aR, cR, rfl⟩ := own_slice hrw
    have hRk := HP.out.1
    by_cases hlt : k < hq.length
    · have g1 : decide (k < hq.length) = true := decide_eq_true hlt
      have g1' : decide ((k : Int) < (hq.length : Int)) = true := decide_eq_true (by omega)
      have HBw : Hid (Below w.heap.size w wr) := HGO.out.trans (HB.out.mono HGO.out.size)
      have hst := Gs.miss_step (ids := ids) hlt
      have kc := boolRow_cell (i := k) ((HB.out.block _ (Array.getElem?_eq_some_iff.1 HROW.out).1).trans HROW.out) (by unfold Gs.known; rw [List.length_map, ups_length]; exact hlt)
      rw [Gs.known_at hlt] at kc
      obtain ⟨x0, x1⟩ := HXO.out wr HB.out
      cases hkn : Gs.knows (ups hq) ids (uvD hq k).u with
      | true =>
        rw [hkn] at kc hst
        have HU2 : Hid (ups R = (ups (hq.take (k + 1))).filter (fun u => !Gs.knows (ups hq) ids u)) := by
          show _ = _
          rw [hst, HU.out]
          simp
        have HRW : Hid (URow wr wO.heap.size (.slice aR R.length cR) R) := hrw
        clear hst hkn HU hrw
        go_wp2_with fail
        go_roundw
        case rel => exact ⟨k + 1, R, hlt, by go_num, HU2.out, HRW.out, ⟨by omega, HP.out.2⟩, HB.out⟩
        case measure => simp [intOf]; omega
      | false =>
        rw [hkn] at kc hst
        have HU2 : Hid (∀ x' : Uv, x'.u = (uvD hq k).u → ups (R ++ [x']) = (ups (hq.take (k + 1))).filter (fun u => !Gs.knows (ups hq) ids u)) := fun x' e => by
          rw [hst, ups_append, HU.out]
          simp [ups, e]
        clear hst hkn HU
        have hxo := (HR.out wr HBw.out).2.2.1 _ (List.mem_append_left _ (uvD_mem hq k hlt))
        have hxr := Wr.right_of (HEA.out _ (uvD_mem hq k hlt))
        obtain ⟨ah', ch', eh, _, hAA⟩ := (HR.out wr HBw.out).1
        cases eh
        obtain ⟨b, off, eb, p0, p1, p2, p3, p4⟩ := ups_at hAA k hlt
        clear hAA
        generalize uvD hq k = x at *
        obtain ⟨b1, m1, f1, b2, m2, f2, b3, m3, f3, e1, e2, e3⟩ := hxo.forms
        have HCP : Hid _ := Copy_any x wr hxo ⟨hxr.ps, hxr.says, hxr.ts⟩ (fun f hf => Gs.right_args hxr hf)
        clear hxo hxr
        obtain ⟨⟨⟨va, vn⟩, ps, says, ts⟩, vp, vs, vt⟩ := x
        dsimp only at *
        subst e1 e2 e3
        subst eb
        go_wp2_with fail
        refine Calls.mono HCP.out ?_
        rintro _ wd ⟨x', rfl, hxu, hxp, hbd⟩
        have HM3 : Hid _ := HU2.out x' hxu
        have hrow3 := ownsRow_below hrw hbd
        have HB3 : Hid (Below wO.heap.size wO wd) := HB.out.trans (hbd.mono HB.out.size)
        have hxp2 : UvP wO.heap.size wd x' := hxp.le HB.out.size
        have HP3 : Hid (∀ x, x ∈ R → UvP wO.heap.size wd x) := fun x hx => (HP.out.2 x hx).below hbd
        obtain ⟨c1, l1, k1, c2, l2, k2, c3, l3, k3, e1, e2, e3⟩ := hxp2.ok.forms
        clear hxu hxp hrw hbd HB HU2 HP HCP p0 p1 p2 p3 p4 kc x0 x1
        obtain ⟨⟨⟨ua, un⟩, ps', says', ts'⟩, vp, vs, vt⟩ := x'
        dsimp only at *
        subst e1 e2 e3
        have HXP : Hid (UvP wO.heap.size wd ⟨⟨⟨ua, un⟩, ps', says', ts'⟩, .slice c1 l1 k1, .slice c2 l2 k2, .slice c3 l3 k3⟩) := hxp2
        clear hxp2
        go_wp2_with (at_builtin; refine wp_append_ups (W := wd) rfl _ _ rfl wO.heap.size (HB3.out.alloc HB3.out.size _).size _ R rfl (hrow3.alloc _) (some ⟨wd.heap.size, 0, none⟩) 1 [(⟨⟨⟨ua, un⟩, ps', says', ts'⟩, .slice c1 l1 k1, .slice c2 l2 k2, .slice c3 l3 k3⟩ : Uv)] rfl (fun h => by cases h) (ups_one _ ⟨⟨⟨ua, un⟩, ps', says', ts'⟩, .slice c1 l1 k1, .slice c2 l2 k2, .slice c3 l3 k3⟩) (one_ok HXP.out.ok) (by rw [List.length_singleton]; omega) ?_; intro vs9 z9 hown9 hgrow9)
        have hB9 : Below wO.heap.size wO z9 := (HB3.out.alloc HB3.out.size _).grown hgrow9 (HB3.out.alloc HB3.out.size _).size (fun j e => (hrow3.lt j e).1)
        have hkt : Kt wd z9 := (Kt.below (new_below wd _)).trans (kt_append (hrow3.alloc _) hgrow9)
        obtain ⟨ao9, cap9, rfl⟩ := own_slice hown9
        have RF : Hid (URow z9 wO.heap.size (.slice ao9 (R ++ [(⟨⟨⟨ua, un⟩, ps', says', ts'⟩, .slice c1 l1 k1, .slice c2 l2 k2, .slice c3 l3 k3⟩ : Uv)]).length cap9) (R ++ [(⟨⟨⟨ua, un⟩, ps', says', ts'⟩, .slice c1 l1 k1, .slice c2 l2 k2, .slice c3 l3 k3⟩ : Uv)])) := hown9
        have B9 : Hid (Below wO.heap.size wO z9) := hB9
        have HP9 : Hid ((R ++ [(⟨⟨⟨ua, un⟩, ps', says', ts'⟩, .slice c1 l1 k1, .slice c2 l2 k2, .slice c3 l3 k3⟩ : Uv)]).length ≤ k + 1 ∧ ∀ x, x ∈ R ++ [(⟨⟨⟨ua, un⟩, ps', says', ts'⟩, .slice c1 l1 k1, .slice c2 l2 k2, .slice c3 l3 k3⟩ : Uv)] → UvP wO.heap.size z9 x) := ⟨by rw [List.length_append, List.length_singleton]; omega, fun x hx => by
          rcases List.mem_append.mp hx with h9 | h9
          · exact (HP3.out x h9).kt hkt
          · rw [List.mem_singleton.mp h9]
            exact HXP.out.kt hkt⟩
        clear hB9 hown9 hgrow9 hkt hrow3 HB3 HP3 HXP
        go_wp2_with fail
        go_roundw
        case rel => exact ⟨k + 1, _, hlt, by go_num, HM3.out, RF.out, HP9.out, B9.out⟩
        case measure => simp [intOf]; omega
    · have g1 : decide (k < hq.length) = false := decide_eq_false hlt
      have g1' : decide ((k : Int) < (hq.length : Int)) = false := decide_eq_false (by omega)
      have HF : Hid (ups R = Gs.missOut (ups hq) (ups wq) ids) := by
        show _ = _
        rw [← HFI.out, HU.out, List.take_of_length_le (by omega)]
        rfl
      have HUV : Hid (UpsV wr (.slice aR R.length cR) R) := own_ups hrw
      have HBw : Hid (Below w.heap.size w wr) := HGO.out.trans (HB.out.mono HGO.out.size)
      clear hrw HU
      go_wp2_with fail
      go_ret2
      exact ⟨_, R, rfl, HUV.out, (fun x hx => (HP.out.2 x hx).ok), HF.out, HBw.out⟩
end Go.Proofs.YtmfaodapofamfaaGreat

/- Maps that count ids. -/
namespace Go.Proofs.YtmfaodapofamfaaGreat
open Go.RowKit Go.Maps

set_option maxRecDepth 100000
theorem idKey : WideMaps.KeyLaw Tryz.prog 26 := deep_law_laid idLaid (m := 5) (by decide) (by decide) (by kernel_rfl) (by rw [Tryz.underlying26])
theorem intZero (w : World) : (zeroValue 3).run Tryz.prog w = .ok (.int .i64 0) w := by kernel_rfl
/-- A map's datum that tells how often each of these ids was named. -/
def NmD (L : List Wr.Id) (D : DataW Unit) : Prop := ∀ x, Wr.isId x = true → D.atKey (keyLit x) (.lit (.int .i64 0)) = .lit (.int .i64 (L.count x))
def NmAt (w : World) (B : Nat) (L : List Wr.Id) : Prop := ∃ D : DataW Unit, w.ownsMap Tryz.prog 26 (plainElem Tryz.prog 3) B L.length D ∧ NmD L D
theorem NmAt.below {w w' : World} {B : Nat} {L : List Wr.Id} (h : NmAt w B L) (hb : Below w.heap.size w w') : NmAt w' B L := by
  obtain ⟨D, ⟨es, clock, h1, h2, h3, h4⟩, hN⟩ := h
  exact ⟨D, ⟨es, clock, (hb.block _ (Array.getElem?_eq_some_iff.mp h1).1).trans h1, h2, h3, h4⟩, hN⟩
theorem nmAt_made (w : World) : NmAt (w.alloc (.map #[] 0)) w.heap.size [] := ⟨_, World.ownsMap_made _ _ _ _, fun _ _ => rfl⟩
/-- 'named[x]' read. -/
theorem NmAt.look {w : World} {B : Nat} {L : List Wr.Id} (h : NmAt w B L) {x : Wr.Id} (hx : Wr.isId x = true) : (Instr.lookup 111 (.map (some B)) (idVal x) false).run Tryz.prog w = .ok (.int .i64 (L.count x)) w := by
  obtain ⟨D, h1, h2⟩ := h
  obtain ⟨c, r1, r2, _⟩ := h1.lookup_int idLaw Tryz.underlying111 Tryz.underlying3 (intZero w) (keyOf_id hx)
  rw [h2 x hx] at r2
  have : c = (L.count x : Int) := by simpa using r2.symm
  rw [← this]
  exact r1
theorem setBlock_twice (w : World) (b : Nat) (o o' : Obj) : ChangeMaps.setBlock (ChangeMaps.setBlock w b o) b o' = ChangeMaps.setBlock w b o' := by
  unfold ChangeMaps.setBlock
  simp
theorem setBlock_self {w : World} {b : Nat} {o : Obj} (h : w.heap[b]? = some o) : ChangeMaps.setBlock w b o = w := by
  obtain ⟨hb, rfl⟩ := Array.getElem?_eq_some_iff.mp h
  have e : w.heap.setIfInBounds b w.heap[b] = w.heap := by
    apply Array.ext (by simp)
    intro i h1 h2
    rw [Array.getElem_setIfInBounds]
    split
    · rename_i hbi
      subst hbi
      rfl
    · rfl
  show { w with heap := w.heap.setIfInBounds b w.heap[b] } = w
  rw [e]
/-- 'named[x]++': what the three operations do. -/
theorem NmAt.inc {w : World} {B : Nat} {L : List Wr.Id} (h : NmAt w B L) (hl : L.length ≤ 1000000) {x : Wr.Id} (hx : Wr.isId x = true) :
    ∃ (v0 : Value) (st : Nat) (w1 w2 : World), (Instr.mapEntry 111 (.map (some B)) (idVal x)).run Tryz.prog w = .ok (.tuple #[v0, .int .i64 st]) w1 ∧ (Instr.lookup 111 (.map (some B)) (idVal x) false).run Tryz.prog w1 = .ok (.int .i64 (L.count x)) w1 ∧
      (Instr.entryStore 111 (.map (some B)) (.int .i64 st) (.int .i64 ((L.count x : Int) + 1))).run Tryz.prog w1 = .ok () w2 ∧ NmAt w2 B (L ++ [x]) ∧ w.grownBy w2 (some B) := by
  have hlook := h.look hx
  obtain ⟨D, hown, hD⟩ := h
  have hT := hown.tidy idLaw
  have hcnt : L.count x ≤ L.length := List.count_le_length
  obtain ⟨es, clock, hb, F, hs, rfl⟩ := id hown
  obtain ⟨v0, st, es1, clock1, r1, hv0, hstore⟩ := WideElems.entry_then_store idKey Tryz.underlying111 (z := .int .i64 0) intZero hb F (keyOf_id hx)
  have hb1 : (ChangeMaps.setBlock w B (.map es1 clock1)).heap[B]? = some (.map es1 clock1) := ChangeMaps.heap_setBlock_same hb _
  obtain ⟨es', clock', r3, r4⟩ := hstore (ChangeMaps.setBlock w B (.map es1 clock1)) (.int .i64 ((L.count x : Int) + 1)) hb1
  -- what a plain store would leave
  obtain ⟨w', q1, q2, q3⟩ := hown.update idLaw Tryz.underlying111 (by unfold maxLen; omega) (keyOf_id hx) (plainElem_int (a := (L.count x : Int) + 1) Tryz.underlying3 (WalkArith.wf_i64 (by omega)))
  rw [r4] at q1
  have hw' : w' = ChangeMaps.setBlock w B (.map es' clock') := by injection q1 with _ e; exact e.symm
  have hss : ChangeMaps.setBlock (ChangeMaps.setBlock w B (.map es1 clock1)) B (.map es' clock') = w' := by
    rw [hw', setBlock_twice]
  have hlk : (Instr.lookup 111 (.map (some B)) (idVal x) false).run Tryz.prog (ChangeMaps.setBlock w B (.map es1 clock1)) = .ok (.int .i64 (L.count x)) (ChangeMaps.setBlock w B (.map es1 clock1)) := by
    rcases idKey.find w (keyOf_id hx) es.toList F.keys with ⟨f1, f2⟩ | ⟨j, e0, f1, f2, f3⟩
    · -- it was not there: nought is there now
      have m1 : (Instr.mapEntry 111 (.map (some B)) (idVal x)).run Tryz.prog w = .ok (.tuple #[.int .i64 0, goInt clock]) (ChangeMaps.setBlock w B (.map (es.push ⟨idVal x, .int .i64 0, clock⟩) (clock + 1))) := by
        simp [Instr.mapEntry, run_underlying Tryz.underlying111, MapKept.run_getObj_map hb, idKey.check w false (keyOf_id hx), f1, MapKept.run_setObj_map _ hb, Result.andThen, ChangeMaps.setBlock]
      have m2 : (Instr.mapUpdate 111 (.map (some B)) (idVal x) (.int .i64 0)).run Tryz.prog w = .ok () (ChangeMaps.setBlock w B (.map (es.push ⟨idVal x, .int .i64 0, clock⟩) (clock + 1))) := by
        simp [Instr.mapUpdate, run_underlying Tryz.underlying111, MapKept.run_getObj_map hb, idKey.check w false (keyOf_id hx), f1, MapKept.run_setObj_map _ hb, ChangeMaps.setBlock]
      rw [m1] at r1
      have e1 : ChangeMaps.setBlock w B (.map es1 clock1) = ChangeMaps.setBlock w B (.map (es.push ⟨idVal x, .int .i64 0, clock⟩) (clock + 1)) := by injection r1 with _ e; exact e.symm
      obtain ⟨w9, p1, p2, _⟩ := hown.update idLaw Tryz.underlying111 (by unfold maxLen; omega) (keyOf_id hx) (plainElem_int (a := 0) Tryz.underlying3 (by decide))
      rw [m2] at p1
      have e2 : w9 = ChangeMaps.setBlock w B (.map es1 clock1) := by rw [e1]; injection p1 with _ e; exact e.symm
      rw [← e2]
      obtain ⟨c, g1, g2, _⟩ := p2.lookup_int idLaw Tryz.underlying111 Tryz.underlying3 (intZero w9) (keyOf_id hx)
      rw [atKey_put_same hT.isMap (keyLit_is _)] at g2
      have hc0 : c = 0 := by simpa using g2.symm
      have hcn : (L.count x : Int) = 0 := by
        have l1 := hlook
        have l2 : (Instr.lookup 111 (.map (some B)) (idVal x) false).run Tryz.prog w = .ok (.int .i64 0) w := by
          simp [Instr.lookup, run_underlying Tryz.underlying111, MapKept.run_getObj_map hb, idKey.check w es.isEmpty (keyOf_id hx), f1]
        rw [l2] at l1
        injection l1 with l1 _
        injection l1 with _ l1
        exact l1.symm
      rw [hcn, ← hc0]
      exact g1
    · -- it was there: nothing has turned
      have hj : es[j]? = some e0 := by simpa using f2
      have hsame : es.modify j (fun e => { e with key := idVal x }) = es := by
        apply Array.ext'
        rw [Array.toList_modify]
        apply List.ext_getElem?
        intro i
        rw [List.getElem?_modify]
        by_cases hij : j = i
        · subst hij
          rw [f2]
          simp [← f3]
        · simp [hij]
      have m1 : (Instr.mapEntry 111 (.map (some B)) (idVal x)).run Tryz.prog w = .ok (.tuple #[e0.val, goInt e0.born]) (ChangeMaps.setBlock w B (.map es clock)) := by
        simp [Instr.mapEntry, run_underlying Tryz.underlying111, MapKept.run_getObj_map hb, idKey.check w false (keyOf_id hx), f1, hj, f3, idKey.stays w (keyOf_id hx), hsame, MapKept.run_setObj_map _ hb, Result.andThen, ChangeMaps.setBlock]
      rw [m1] at r1
      have e1 : ChangeMaps.setBlock w B (.map es1 clock1) = w := by
        have e : ChangeMaps.setBlock w B (.map es1 clock1) = ChangeMaps.setBlock w B (.map es clock) := by injection r1 with _ e; exact e.symm
        rw [e, setBlock_self hb]
      rw [e1]
      exact hlook
  refine ⟨v0, st, ChangeMaps.setBlock w B (.map es1 clock1), w', r1, hlk, ?_, ?_, q3⟩
  · rw [← hss]; exact r3
  · refine ⟨_, by rw [List.length_append]; exact q2, fun y hy => ?_⟩
    rw [List.count_append]
    by_cases e : y = x
    · subst e
      rw [atKey_put_same hT.isMap (keyLit_is _)]
      simp
    · rw [atKey_put_other (fun e2 => e (keyLit_inj hy hx e2)), hD y hy]
      have : List.count y [x] = 0 := by rw [List.count_eq_zero]; simp; exact e
      rw [this]
      rfl
end Go.Proofs.YtmfaodapofamfaaGreat

/- Package slices: DeleteFunc of updates, by what is named. -/
namespace Go.Proofs.YtmfaodapofamfaaGreat
open Go.RowKit Go.Maps

theorem row_cutU {w : World} {B g cap n : Nat} {xs : List Value} {q : List Uv} (h : w.ownsRow B 30 5 (.slice (some ⟨g, 0, none⟩) n cap) n xs) (hn : q.length ≤ n) (hq : ∀ j, j < q.length * 5 → xs[j]? = ((q.map uvCells).flatten)[j]?) : UGRow w B g cap q := by
  obtain ⟨h1, h2⟩ := h
  rcases h2 with ⟨h2, _⟩ | ⟨g', cap', cur, hv, hb, hh, hc1, hc2, hc3, hc4⟩
  · cases h2
  · injection hv with e1 _ e3
    injection e1 with e1
    injection e1 with e1
    subst e1 e3
    refine ⟨ups_flat _, .inr ⟨g, cap, cur, rfl, hb, hh, by omega, hc2, hc3, ?_⟩⟩
    apply List.ext_getElem?
    intro t
    rw [List.getElem?_take]
    by_cases ht : t < q.length * 5
    · rw [if_pos ht, ← hq t ht, ← hc4, List.getElem?_take, if_pos (by omega)]
    · rw [if_neg ht, List.getElem?_eq_none]
      rw [ups_flat]
      omega
/-- What is behind the first ones is cleared. -/
theorem clear_rowU (w : World) (B g cap : Nat) (q : List Uv) (k : Nat) (h : UGRow w B g cap q) (hk : k < q.length) :
    ∃ w', (∀ ty, (Builtin.clear_ #[22] ty #[.slice (some ⟨g, k * 5, none⟩) (q.length - k) (cap - k)]).run Tryz.prog w = .ok (.tuple #[]) w') ∧ UGRow w' B g cap (q.take k) ∧ w.grownBy w' (some g) := by
  obtain ⟨m, hm⟩ : ∃ m, q.length - k = m + 1 := ⟨q.length - k - 1, by omega⟩
  obtain ⟨vs, hvs⟩ : ∃ vs, vs = (Builtin.zeroCells (Value.agg #[.int .i64 0, .int .i64 0, .slice none 0 0, .slice none 0 0, .slice none 0 0]).cells (m + 1)).toList := ⟨_, rfl⟩
  have hlen : vs.length = (m + 1) * 5 := by rw [hvs]; simp [Builtin.zeroCells, Value.cells]
  have hone : ∀ v ∈ vs, v.oneCell' = true := by
    intro v hv
    rw [hvs] at hv
    simp [Builtin.zeroCells, Value.cells] at hv
    obtain ⟨a, ha, rfl⟩ := hv
    have h5 : a % 5 = 0 ∨ a % 5 = 1 ∨ a % 5 = 2 ∨ a % 5 = 3 ∨ a % 5 = 4 := by omega
    rcases h5 with h2 | h2 | h2 | h2 | h2
    · simp [h2]; rfl
    · simp [h2]; rfl
    · simp [h2]; rfl
    · simp [h2]; rfl
    · simp [h2]; rfl
  have hst := run_storeCells_cells (P := Tryz.prog) g (k * 5) vs 0 w (by
    intro j hj
    rw [hlen] at hj
    have hc := World.ownsRow.cellAt h (k * 5 + j) (by omega)
    obtain ⟨x, hx, hx2⟩ := uc_at q (k * 5 + j) (by omega)
    rw [Nat.add_zero, hc, hx2, List.getElem?_eq_getElem (show (k * 5 + j) % 5 < (uvCells x).length by show _ < 5; omega)]
    rfl) (by intro j _; exact World.ownsRow.frozenAt h _) hone
  simp only [Nat.add_zero] at hst
  obtain ⟨ys, a1, a2, a3, a4⟩ := own_sets vs (k * 5) w _ h
  refine ⟨w.setCells g (k * 5) vs, ?_, row_cutU (q := q.take k) a3 (by rw [List.length_take]; omega) (fun j hj => ?_), a4⟩
  · intro ty
    have hz : ∀ w, (zeroValue 30).run Tryz.prog w = .ok (.agg #[.int .i64 0, .int .i64 0, .slice none 0 0, .slice none 0 0, .slice none 0 0]) w := fun w => by kernel_rfl
    rw [hm]
    simp [Builtin.clear_, run_underlying Tryz.underlying22, hz, ← hvs, hst]
  · rw [List.length_take] at hj
    rw [a2 j (by omega)]
    obtain ⟨x, hx, hx2⟩ := uc_at q j (by omega)
    obtain ⟨z, hz, hz2⟩ := uc_at (q.take k) j (by rw [List.length_take]; omega)
    rw [List.getElem?_take, if_pos (by omega), hx] at hz
    obtain rfl : x = z := by simpa using hz
    rw [hx2, hz2]

set_option maxRecDepth 100000 in
set_option maxHeartbeats 1000000 in
theorem named1_any (B NB : Nat) (L : List Wr.Id) (x : Uv) (w w0 : World) (hM : NmAt w B L) (hbx : w.cell? ⟨NB, 0, none⟩ = some (.map (some B))) (hx : UvOk w0 x) (hi : Wr.isId x.u.id = true) :
    Calls Tryz.prog 81 #[uvVal x, .pointer (some ⟨NB, 0, none⟩)] w fun e w' => e = .returned (.bool (decide (0 < L.count x.u.id))) ∧ Below w.heap.size w w' := by
  obtain ⟨a1, n1, d1, a2, n2, d2, a3, n3, d3, e1, e2, e3⟩ := hx.forms
  obtain ⟨⟨⟨ua, un⟩, ps, says, ts⟩, vp, vs, vt⟩ := x
  dsimp only at *
  subst e1 e2 e3
  have HB1 : Hid (Below w.heap.size w (w.alloc (.cells #[.int .i64 ua, .int .i64 un, .slice a1 n1 d1, .slice a2 n2 d2, .slice a3 n3 d3] 30))) := (Below.refl _ _).alloc (Nat.le_refl _) _
  have c9 : (w.alloc (.cells #[.int .i64 ua, .int .i64 un, .slice a1 n1 d1, .slice a2 n2 d2, .slice a3 n3 d3] 30)).cell? ⟨NB, 0, none⟩ = some (.map (some B)) := cell_below HB1.out hbx
  have hlk := (hM.below HB1.out).look hi
  clear hM hx hi
  go_enter Tryz.func81, Tryz.ntmps81
  go_wp2_with fail
  go_ret
  refine ⟨?_, HB1.out⟩
  simp
set_option maxRecDepth 100000 in
set_option maxHeartbeats 1000000 in
theorem indexD_any (NB : Nat) (P : Wr.Up → Bool) (q : List Uv) (v : Value) (w : World) (hV : UpsV w v q) (hl : q.length ≤ 1000) (hok : ∀ x, x ∈ q → UvOk w x) (hC : ∀ z x, Below w.heap.size w z → x ∈ q → Calls Tryz.prog 81 #[uvVal x, .pointer (some ⟨NB, 0, none⟩)] z fun e w' => e = .returned (.bool (P x.u)) ∧ Below z.heap.size z w') :
    Calls Tryz.prog 108 #[v, .func (.func 81) #[] #[.pointer (some ⟨NB, 0, none⟩)]] w fun e w' => ((e = .returned (.int .i64 (-1)) ∧ (∀ x, x ∈ q → P x.u = false)) ∨ ∃ k : Nat, e = .returned (.int .i64 k) ∧ k < q.length ∧ P (uvD q k).u = true ∧ ∀ x, x ∈ q.take k → P x.u = false) ∧ Below w.heap.size w w' := by
  obtain ⟨ao, cap, rfl, _, hA⟩ := hV
  have HA : Hid (UpsAt w ao q) := hA
  have HF : Hid (∀ x, x ∈ q → UvOk w x) := hok
  have HC : Hid (∀ z x, Below w.heap.size w z → x ∈ q → Calls Tryz.prog 81 #[uvVal x, .pointer (some ⟨NB, 0, none⟩)] z fun e w' => e = .returned (.bool (P x.u)) ∧ Below z.heap.size z w') := hC
  clear hok hC hA
  go_enter Tryz.func108, Tryz.ntmps108
  go_wp2_with fail
  go_loopw [8] (fun iv wr => ∃ k : Nat, k ≤ q.length ∧ iv = .int .i64 k ∧ Hid (∀ x, x ∈ q.take k → P x.u = false) ∧ Below w.heap.size w wr) (fun iv _ => q.length - (intOf iv).toNat)
  case atStart => exact ⟨0, Nat.zero_le _, rfl, fun x hx => absurd hx (by simp), Below.refl _ _⟩
  case round =>
    obtain ⟨k, hk, rfl, HR, hbw⟩ := hrel
    by_cases hlt : k < q.length
    · obtain ⟨b, off, rfl, c0, c1, c2, c3, c4⟩ := ups_at (HA.out.kc (Kc.below hbw)) k hlt
      have hm := uvD_mem q k hlt
      have HX : Hid (Calls Tryz.prog 81 #[uvVal (uvD q k), .pointer (some ⟨NB, 0, none⟩)] wr fun e w' => e = .returned (.bool (P (uvD q k).u)) ∧ Below wr.heap.size wr w') := HC.out wr _ hbw hm
      have HT : Hid (P (uvD q k).u = false → ∀ x, x ∈ q.take (k + 1) → P x.u = false) := fun h x hx => by
        rw [uvD_take q k hlt] at hx
        rcases List.mem_append.mp hx with hx | hx
        · exact HR.out x hx
        · rw [List.mem_singleton.mp hx]; exact h
      have HPK : Hid (∀ b, P (uvD q k).u = b → P (uvD q k).u = b) := fun _ h => h
      obtain ⟨a1, n1, d1, a2, n2, d2, a3, n3, d3, e1, e2, e3⟩ := (HF.out _ hm).forms
      have HUV : Hid (uvD q k = uvD q k) := rfl
      cases hbx : P (uvD q k).u
      · rw [hbx] at HX
        have HT2 : Hid _ := HT.out hbx
        clear HT HPK hbx HUV hm
        generalize uvD q k = x at *
        obtain ⟨⟨⟨ua, un⟩, ps, says, ts⟩, vp, vs, vt⟩ := x
        dsimp only at *
        subst e1 e2 e3
        go_wp2_with (go_at_call 81; refine Calls.mono HX.out ?_; rintro e z1 ⟨rfl, hg1⟩)
        have hb1 := hbw.trans (hg1.mono hbw.size)
        go_roundw
        case rel => exact ⟨k + 1, hlt, by go_num, HT2.out, hb1⟩
        case measure => simp [intOf]; omega
      · rw [hbx] at HX
        have HPT : Hid (P (uvD q k).u = true) := hbx
        clear HT HPK hbx HUV hm
        generalize hxe : uvD q k = x at *
        have HXE : Hid (uvD q k = x) := hxe
        clear hxe
        obtain ⟨⟨⟨ua, un⟩, ps, says, ts⟩, vp, vs, vt⟩ := x
        dsimp only at *
        subst e1 e2 e3
        go_wp2_with (go_at_call 81; refine Calls.mono HX.out ?_; rintro e z1 ⟨rfl, hg1⟩)
        go_ret
        exact ⟨.inr ⟨k, rfl, hlt, by rw [HXE.out]; exact HPT.out, HR.out⟩, hbw.trans (hg1.mono hbw.size)⟩
    · have hdd : decide (k < q.length) = false := decide_eq_false hlt
      have HE : Hid (∀ x, x ∈ q → P x.u = false) := fun x hx => HR.out x (by rw [List.take_of_length_le (by omega)]; exact hx)
      go_wp2_with fail
      go_ret
      exact ⟨.inl ⟨rfl, HE.out⟩, hbw⟩
/-- What is left of updates. -/
def keepU (P : Wr.Up → Bool) (q : List Uv) : List Uv := q.filter (fun x => !P x.u)
theorem keepU_all {P : Wr.Up → Bool} {q : List Uv} (h : ∀ x, x ∈ q → P x.u = false) : keepU P q = q := List.filter_eq_self.mpr fun x hx => by rw [h x hx]; rfl
theorem keepU_snoc (P : Wr.Up → Bool) (q : List Uv) (x : Uv) : keepU P (q ++ [x]) = if P x.u = true then keepU P q else keepU P q ++ [x] := by
  unfold keepU
  rw [List.filter_append]
  cases h : P x.u <;> simp [h]
theorem keepU_len (P : Wr.Up → Bool) (q : List Uv) : (keepU P q).length ≤ q.length := List.length_filter_le _ _
end Go.Proofs.YtmfaodapofamfaaGreat

/- Package slices: DeleteFunc of updates. -/
namespace Go.Proofs.YtmfaodapofamfaaGreat
open Go.RowKit Go.Maps

set_option maxRecDepth 100000 in
set_option maxHeartbeats 4000000 in
theorem delete_any (NB : Nat) (P : Wr.Up → Bool) (q : List Uv) (v : Value) (w0 w : World) (hb0 : Below w0.heap.size w0 w) (hrow : URow w w0.heap.size v q) (hl : q.length ≤ 1000) (hok : ∀ x, x ∈ q → UvOk w0 x) (hC : ∀ z x, Below w0.heap.size w0 z → x ∈ q → Calls Tryz.prog 81 #[uvVal x, .pointer (some ⟨NB, 0, none⟩)] z fun e w' => e = .returned (.bool (P x.u)) ∧ Below z.heap.size z w') :
    Calls Tryz.prog 79 #[v, .func (.func 81) #[] #[.pointer (some ⟨NB, 0, none⟩)]] w fun e w' => ∃ v', e = .returned v' ∧ URow w' w0.heap.size v' (keepU P q) ∧ Below w0.heap.size w0 w' := by
  have HI : Hid (Calls Tryz.prog 108 #[v, .func (.func 81) #[] #[.pointer (some ⟨NB, 0, none⟩)]] w fun e w' => ((e = .returned (.int .i64 (-1)) ∧ (∀ x, x ∈ q → P x.u = false)) ∨ ∃ k : Nat, e = .returned (.int .i64 k) ∧ k < q.length ∧ P (uvD q k).u = true ∧ ∀ x, x ∈ q.take k → P x.u = false) ∧ Below w.heap.size w w') := indexD_any NB P q v w (own_ups hrow) hl (fun x hx => (hok x hx).below hb0) (fun z x hz hx => hC z x (hb0.trans (hz.mono hb0.size)) hx)
  have HO : Hid (∀ x, x ∈ q → UvOk w0 x) := hok
  have HC : Hid (∀ z x, Below w0.heap.size w0 z → x ∈ q → Calls Tryz.prog 81 #[uvVal x, .pointer (some ⟨NB, 0, none⟩)] z fun e w' => e = .returned (.bool (P x.u)) ∧ Below z.heap.size z w') := hC
  obtain ⟨av, cap, rfl⟩ := own_slice hrow
  clear hok hC
  go_enter Tryz.func79, Tryz.ntmps79
  go_wp2_with fail
  refine Calls.mono HI.out ?_
  rintro e w1 ⟨⟨rfl, hall⟩ | ⟨k, rfl, hk, hpk, htk⟩, hb1⟩
  · have HK : Hid (keepU P q = q) := keepU_all hall
    have HR1 : Hid (URow w1 w0.heap.size (.slice av q.length cap) q) := ownsRow_below hrow hb1
    have HB1 : Hid (Below w0.heap.size w0 w1) := hb0.trans (hb1.mono hb0.size)
    clear hall hrow HI hb1 hb0
    go_wp2_with fail
    go_ret
    exact ⟨_, rfl, by rw [HK.out]; exact HR1.out, HB1.out⟩
  · obtain ⟨g, rfl⟩ : ∃ g, av = some ⟨g, 0, none⟩ := by
      rcases ownsRow_forms9 hrow with ⟨_, h0⟩ | ⟨g, c, hv⟩
      · omega
      · injection hv with hv
        exact ⟨g, hv⟩
    have hcap : q.length ≤ cap := by
      obtain ⟨_, _, e9, h9, _⟩ := own_cells hrow
      injection e9 with _ _ e9
      omega
    have hrow1 := ownsRow_below hrow hb1
    have hbw1 := hb0.trans (hb1.mono hb0.size)
    have HST : Hid (q.take k = keepU P (q.take (k + 1))) := by
      show _ = _
      rw [uvD_take q k hk, keepU_snoc, if_pos hpk, keepU_all htk]
    have gne : ((k : Int) == -1) = false := by
      have : ¬ (k : Int) = -1 := by omega
      exact beq_false_of_ne this
    have hkl := hk
    clear hpk htk HI hrow hb1 hb0
    go_wp2_with fail
    go_loopw [5, 6] (fun iv jv wr => ∃ (i j : Nat) (R : List Uv), i < j ∧ j ≤ q.length ∧ iv = .int .i64 i ∧ jv = .int .i64 j ∧ R.length = q.length ∧ wr.ownsRow w0.heap.size 30 5 (.slice (some ⟨g, 0, none⟩) q.length cap) q.length (R.map uvCells).flatten ∧ Hid (R.take i = keepU P (q.take j)) ∧ Hid (R.drop j = q.drop j) ∧ Hid (∀ x, x ∈ R → x ∈ q) ∧ Below w0.heap.size w0 wr) (fun _ jv _ => q.length - (intOf jv).toNat)
    case atStart => exact ⟨k, k + 1, q, by omega, by omega, rfl, by go_num, rfl, hrow1, HST.out, rfl, fun _ h => h, hbw1⟩
    case round =>
      clear hrow1 hbw1 HST gne
      obtain ⟨i, j, R, hij, hj, rfl, rfl, hRl, hrow, HTK, HDR, HMQ, hb⟩ := hrel
      have HRL : Hid (R.length = q.length) := hRl
      have hglt : w0.heap.size ≤ g := (hrow.lt g rfl).1
      clear hRl
      have hrow : UGRow wr w0.heap.size g cap R := by
        unfold UGRow
        rw [HRL.out]
        exact hrow
      by_cases hlt : j < q.length
      · have hin := row_in hrow (m := j) (by rw [HRL.out]; exact hlt)
        have hRj : uvD R j = uvD q j := by
          have h1 : R[j]? = q[j]? := by
            have := congrArg (fun l => l[0]?) HDR.out
            simpa using this
          unfold uvD
          rw [List.getD_eq_getElem?_getD, List.getD_eq_getElem?_getD, h1]
        rw [hRj] at hin
        have hmem := uvD_mem q j hlt
        have hxo := HO.out _ hmem
        have HTJ : Hid (q.take (j + 1) = q.take j ++ [uvD q j]) := uvD_take q j hlt
        have HCX : Hid (∀ z, Below w0.heap.size w0 z → Calls Tryz.prog 81 #[uvVal (uvD q j), .pointer (some ⟨NB, 0, none⟩)] z fun e w' => e = .returned (.bool (P (uvD q j).u)) ∧ Below z.heap.size z w') := fun z hz => HC.out z _ hz hmem
        have HDR2 : Hid (R.drop (j + 1) = q.drop (j + 1)) := by
          show _ = _
          have := congrArg (List.drop 1) HDR.out
          rw [List.drop_drop, List.drop_drop] at this
          exact this
        have HKS : Hid (keepU P (q.take (j + 1)) = if P (uvD q j).u = true then keepU P (q.take j) else keepU P (q.take j) ++ [uvD q j]) := by
          show _ = _
          rw [HTJ.out, keepU_snoc]
        clear hRj HTJ HDR
        have HMX : Hid (uvD q j ∈ q) := hmem
        clear hmem
        generalize uvD q j = x at *
        obtain ⟨b1, m1, f1, b2, m2, f2, b3, m3, f3, o1, o2, o3⟩ := hxo.forms
        obtain ⟨⟨⟨xa, xn⟩, ps, says, ts⟩, vp, vs, vt⟩ := x
        dsimp only at *
        subst o1 o2 o3
        obtain ⟨c0, c1, c2, c3, c4⟩ := id hin
        dsimp only at c0 c1 c2 c3 c4
        have hsz := hb.size
        have HBN : Hid (Below w0.heap.size w0 (wr.alloc (.cells #[.int .i64 xa, .int .i64 xn, .slice b1 m1 f1, .slice b2 m2 f2, .slice b3 m3 f3] 30))) := hb.alloc hsz _
        have HBW : Hid (Below wr.heap.size wr (wr.alloc (.cells #[.int .i64 xa, .int .i64 xn, .slice b1 m1 f1, .slice b2 m2 f2, .slice b3 m3 f3] 30))) := (Below.refl _ _).alloc (Nat.le_refl _) _
        have HNW : Hid ((wr.alloc (.cells #[.int .i64 xa, .int .i64 xn, .slice b1 m1 f1, .slice b2 m2 f2, .slice b3 m3 f3] 30)).heap[wr.heap.size]? = some (.cells #[.int .i64 xa, .int .i64 xn, .slice b1 m1 f1, .slice b2 m2 f2, .slice b3 m3 f3] 30)) := rl_new wr _
        cases hpx : P ⟨⟨xa, xn⟩, ps, says, ts⟩
        · -- it stays
          rw [hpx] at HCX
          have hKS := HKS.out
          rw [hpx] at hKS
          go_upto_region 9 with (go_at_call 81; refine Calls.mono (HCX.out _ HBN.out) ?_; rintro e z1 ⟨rfl, hg1⟩)
          have hb1 := HBW.out.trans (hg1.mono HBW.out.size)
          have hB1 := HBN.out.trans (hg1.mono HBN.out.size)
          have hnw := (hg1.block _ (by simp)).trans HNW.out
          have k0 : z1.cell? ⟨wr.heap.size, 0, none⟩ = some (.int .i64 xa) := by rw [Lib.cell_of_heap hnw]; rfl
          have k1' : z1.cell? ⟨wr.heap.size, 1, none⟩ = some (.int .i64 xn) := by rw [Lib.cell_of_heap hnw]; rfl
          have k2' : z1.cell? ⟨wr.heap.size, 2, none⟩ = some (.slice b1 m1 f1) := by rw [Lib.cell_of_heap hnw]; rfl
          have k3' : z1.cell? ⟨wr.heap.size, 3, none⟩ = some (.slice b2 m2 f2) := by rw [Lib.cell_of_heap hnw]; rfl
          have k4' : z1.cell? ⟨wr.heap.size, 4, none⟩ = some (.slice b3 m3 f3) := by rw [Lib.cell_of_heap hnw]; rfl
          have hrow7 := ownsRow_below hrow hb1
          have hiR : i < R.length := by rw [HRL.out]; omega
          have hr7 := row_in hrow7 (m := i) hiR
          have hyq := HO.out _ (HMQ.out _ (uvD_mem R i hiR))
          obtain ⟨e1, l1, k1, e2, l2, k2, e3, l3, k3, y1, y2, y3⟩ := hyq.forms
          generalize uvD R i = y at *
          obtain ⟨⟨⟨ya, yn⟩, ps9, says9, ts9⟩, vp9, vs9, vt9⟩ := y
          dsimp only at *
          subst y1 y2 y3
          dsimp only [UpIn] at hr7
          have rz0 : (z1).cell? ⟨g, i * 5, none⟩ = some (.int .i64 ya) := by exact hr7.1
          have ry0 : (z1).frozen? ⟨g, i * 5, none⟩ = false := by exact World.ownsRow.frozenAt hrow7 _
          have rz1 : ((z1).setCell ⟨g, i * 5, none⟩ (.int .i64 xa)).cell? ⟨g, i * 5 + 1, none⟩ = some (.int .i64 yn) := by rw [cell_set_ne _ (by omega)]; exact hr7.2.1
          have ry1 : ((z1).setCell ⟨g, i * 5, none⟩ (.int .i64 xa)).frozen? ⟨g, i * 5 + 1, none⟩ = false := by rw [World.frozen?_setCell]; exact World.ownsRow.frozenAt hrow7 _
          have rz2 : (((z1).setCell ⟨g, i * 5, none⟩ (.int .i64 xa)).setCell ⟨g, i * 5 + 1, none⟩ (.int .i64 xn)).cell? ⟨g, i * 5 + 2, none⟩ = some (.slice e1 l1 k1) := by rw [cell_set_ne _ (by omega)]; rw [cell_set_ne _ (by omega)]; exact hr7.2.2.1
          have ry2 : (((z1).setCell ⟨g, i * 5, none⟩ (.int .i64 xa)).setCell ⟨g, i * 5 + 1, none⟩ (.int .i64 xn)).frozen? ⟨g, i * 5 + 2, none⟩ = false := by rw [World.frozen?_setCell]; rw [World.frozen?_setCell]; exact World.ownsRow.frozenAt hrow7 _
          have rz3 : ((((z1).setCell ⟨g, i * 5, none⟩ (.int .i64 xa)).setCell ⟨g, i * 5 + 1, none⟩ (.int .i64 xn)).setCell ⟨g, i * 5 + 2, none⟩ (.slice b1 m1 f1)).cell? ⟨g, i * 5 + 3, none⟩ = some (.slice e2 l2 k2) := by rw [cell_set_ne _ (by omega)]; rw [cell_set_ne _ (by omega)]; rw [cell_set_ne _ (by omega)]; exact hr7.2.2.2.1
          have ry3 : ((((z1).setCell ⟨g, i * 5, none⟩ (.int .i64 xa)).setCell ⟨g, i * 5 + 1, none⟩ (.int .i64 xn)).setCell ⟨g, i * 5 + 2, none⟩ (.slice b1 m1 f1)).frozen? ⟨g, i * 5 + 3, none⟩ = false := by rw [World.frozen?_setCell]; rw [World.frozen?_setCell]; rw [World.frozen?_setCell]; exact World.ownsRow.frozenAt hrow7 _
          have rz4 : (((((z1).setCell ⟨g, i * 5, none⟩ (.int .i64 xa)).setCell ⟨g, i * 5 + 1, none⟩ (.int .i64 xn)).setCell ⟨g, i * 5 + 2, none⟩ (.slice b1 m1 f1)).setCell ⟨g, i * 5 + 3, none⟩ (.slice b2 m2 f2)).cell? ⟨g, i * 5 + 4, none⟩ = some (.slice e3 l3 k3) := by rw [cell_set_ne _ (by omega)]; rw [cell_set_ne _ (by omega)]; rw [cell_set_ne _ (by omega)]; rw [cell_set_ne _ (by omega)]; exact hr7.2.2.2.2
          have ry4 : (((((z1).setCell ⟨g, i * 5, none⟩ (.int .i64 xa)).setCell ⟨g, i * 5 + 1, none⟩ (.int .i64 xn)).setCell ⟨g, i * 5 + 2, none⟩ (.slice b1 m1 f1)).setCell ⟨g, i * 5 + 3, none⟩ (.slice b2 m2 f2)).frozen? ⟨g, i * 5 + 4, none⟩ = false := by rw [World.frozen?_setCell]; rw [World.frozen?_setCell]; rw [World.frozen?_setCell]; rw [World.frozen?_setCell]; exact World.ownsRow.frozenAt hrow7 _
          have hput : UGRow ((((((z1).setCell ⟨g, i * 5, none⟩ (.int .i64 xa)).setCell ⟨g, i * 5 + 1, none⟩ (.int .i64 xn)).setCell ⟨g, i * 5 + 2, none⟩ (.slice b1 m1 f1)).setCell ⟨g, i * 5 + 3, none⟩ (.slice b2 m2 f2)).setCell ⟨g, i * 5 + 4, none⟩ (.slice b3 m3 f3)) w0.heap.size g cap (R.set i ⟨⟨⟨xa, xn⟩, ps, says, ts⟩, .slice b1 m1 f1, .slice b2 m2 f2, .slice b3 m3 f3⟩) := by
            unfold UGRow
            rw [List.length_set, flat5_set R i _ hiR]
            exact (World.ownsRow.stored (World.ownsRow.stored (World.ownsRow.stored (World.ownsRow.stored (World.ownsRow.stored hrow7 (i * 5) _).1 (i * 5 + 1) _).1 (i * 5 + 2) _).1 (i * 5 + 3) _).1 (i * 5 + 4) _).1
          have HGR : Hid (z1.grownBy ((((((z1).setCell ⟨g, i * 5, none⟩ (.int .i64 xa)).setCell ⟨g, i * 5 + 1, none⟩ (.int .i64 xn)).setCell ⟨g, i * 5 + 2, none⟩ (.slice b1 m1 f1)).setCell ⟨g, i * 5 + 3, none⟩ (.slice b2 m2 f2)).setCell ⟨g, i * 5 + 4, none⟩ (.slice b3 m3 f3)) (some g)) := ((((grown_set z1 _ _ _).trans_row (grown_set _ _ _ _)).trans_row (grown_set _ _ _ _)).trans_row (grown_set _ _ _ _)).trans_row (grown_set _ _ _ _)
          have HB8 : Hid (Below w0.heap.size w0 ((((((z1).setCell ⟨g, i * 5, none⟩ (.int .i64 xa)).setCell ⟨g, i * 5 + 1, none⟩ (.int .i64 xn)).setCell ⟨g, i * 5 + 2, none⟩ (.slice b1 m1 f1)).setCell ⟨g, i * 5 + 3, none⟩ (.slice b2 m2 f2)).setCell ⟨g, i * 5 + 4, none⟩ (.slice b3 m3 f3))) := hB1.grown HGR.out hB1.size (fun k e => by cases e; exact hglt)
          have HPUT : Hid (((((((z1).setCell ⟨g, i * 5, none⟩ (.int .i64 xa)).setCell ⟨g, i * 5 + 1, none⟩ (.int .i64 xn)).setCell ⟨g, i * 5 + 2, none⟩ (.slice b1 m1 f1)).setCell ⟨g, i * 5 + 3, none⟩ (.slice b2 m2 f2)).setCell ⟨g, i * 5 + 4, none⟩ (.slice b3 m3 f3)).ownsRow w0.heap.size 30 5 (.slice (some ⟨g, 0, none⟩) q.length cap) q.length ((R.set i ⟨⟨⟨xa, xn⟩, ps, says, ts⟩, .slice b1 m1 f1, .slice b2 m2 f2, .slice b3 m3 f3⟩).map uvCells).flatten) := by
            have h9 := hput
            unfold UGRow at h9
            rw [List.length_set, HRL.out] at h9
            exact h9
          have HT2 : Hid ((R.set i ⟨⟨⟨xa, xn⟩, ps, says, ts⟩, .slice b1 m1 f1, .slice b2 m2 f2, .slice b3 m3 f3⟩).take (i + 1) = keepU P (q.take (j + 1))) := by
            show _ = _
            rw [hKS]
            simp only [Bool.false_eq_true, if_false]
            rw [← HTK.out, List.take_add_one, List.take_set_of_le (Nat.le_refl _), List.getElem?_set, if_pos rfl, if_pos hiR]
            rfl
          have HD3 : Hid ((R.set i ⟨⟨⟨xa, xn⟩, ps, says, ts⟩, .slice b1 m1 f1, .slice b2 m2 f2, .slice b3 m3 f3⟩).drop (j + 1) = q.drop (j + 1)) := by
            show _ = _
            rw [List.drop_set, if_pos (by omega)]
            exact HDR2.out
          have HM3 : Hid (∀ x, x ∈ R.set i ⟨⟨⟨xa, xn⟩, ps, says, ts⟩, .slice b1 m1 f1, .slice b2 m2 f2, .slice b3 m3 f3⟩ → x ∈ q) := fun x hx => by
            rcases List.mem_or_eq_of_mem_set hx with h | h
            · exact HMQ.out x h
            · rw [h]; exact HMX.out
          clear hrow hb hrow7 hput hin hr7 HTK HKS hKS HCX hnw hyq hg1 hb1 hB1 c0 c1 c2 c3 c4
          go_wp2_with fail
          go_roundw
          case rel => exact ⟨i + 1, j + 1, R.set i ⟨⟨⟨xa, xn⟩, ps, says, ts⟩, .slice b1 m1 f1, .slice b2 m2 f2, .slice b3 m3 f3⟩, by omega, by omega, by go_num, by go_num, by rw [List.length_set]; exact HRL.out, HPUT.out, HT2.out, HD3.out, HM3.out, HB8.out⟩
          case measure => simp [intOf]; omega
        · rw [hpx] at HCX
          have hKS := HKS.out
          rw [hpx] at hKS
          have HT2 : Hid (R.take i = keepU P (q.take (j + 1))) := by
            show _ = _
            rw [hKS, HTK.out]
            rfl
          have HROW : Hid (∀ z, Below wr.heap.size wr z → z.ownsRow w0.heap.size 30 5 (.slice (some ⟨g, 0, none⟩) q.length cap) q.length (R.map uvCells).flatten) := fun z hz => by
            have h9 := ownsRow_below hrow hz
            rw [HRL.out] at h9
            exact h9
          clear HKS hKS HTK hin hrow
          go_wp2_with (go_at_call 81; refine Calls.mono (HCX.out _ HBN.out) ?_; rintro e z1 ⟨rfl, hg1⟩)
          have HR1 : Hid _ := HROW.out z1 (HBW.out.trans (hg1.mono HBW.out.size))
          have HB8 : Hid (Below w0.heap.size w0 z1) := HBN.out.trans (hg1.mono HBN.out.size)
          clear HROW hg1 HCX
          go_roundw
          case rel => exact ⟨i, j + 1, R, by omega, by omega, rfl, by go_num, HRL.out, HR1.out, HT2.out, HDR2.out, HMQ.out, HB8.out⟩
          case measure => simp [intOf]; omega
      · obtain rfl : j = q.length := by omega
        obtain ⟨w9, hcl, hrow9, hgr⟩ := clear_rowU wr w0.heap.size g cap R i hrow (by rw [HRL.out]; omega)
        rw [HRL.out] at hcl
        have HKQ : Hid (R.take i = keepU P q) := by
          show _ = _
          rw [HTK.out, List.take_length]
        have HLN : Hid ((keepU P q).length = i) := by
          show _ = _
          rw [← HKQ.out, List.length_take, HRL.out]
          omega
        have HFN : Hid (URow w9 w0.heap.size (.slice (some ⟨g, 0, none⟩) i cap) (keepU P q) ∧ Below w0.heap.size w0 w9) := by
          refine ⟨?_, hb.grown hgr hb.size (fun k e => by cases e; exact hglt)⟩
          have h9 := hrow9
          unfold UGRow at h9
          rw [HKQ.out, HLN.out] at h9
          show World.ownsRow _ _ _ _ _ _ _
          rw [HLN.out]
          exact h9
        clear hrow hrow9 hgr HTK HKQ hb
        have hiq : i ≤ q.length := by omega
        have hic : i ≤ cap := by omega
        have hjj : decide (q.length < q.length) = false := by simp
        go_wp2_with fail
        go_ret
        exact ⟨_, rfl, HFN.out.1, HFN.out.2⟩
end Go.Proofs.YtmfaodapofamfaaGreat

/- Package dag: unnamed. -/
namespace Go.Proofs.YtmfaodapofamfaaGreat
open Go.RowKit Go.Maps

theorem flatMap_take {α β : Type} (f : α → List β) (q : List α) (k : Nat) (x : α) (h : q.take (k + 1) = q.take k ++ [x]) : (q.take (k + 1)).flatMap f = (q.take k).flatMap f ++ f x := by
  rw [h, List.flatMap_append]
  simp
theorem ids_take {l : List Wr.Id} {k : Nat} (hk : k < l.length) : l.take (k + 1) = l.take k ++ [idD l k] := by
  rw [List.take_succ_eq_append_getElem hk]
  simp [idD, List.getD_eq_getElem?_getD, hk]
theorem flat_len {q : List Uv} {f : Uv → List Wr.Id} (h : ∀ x, x ∈ q → (f x).length ≤ 6) : ∀ k, ((q.take k).flatMap f).length ≤ k * 6 := by
  intro k
  induction k with
  | zero => simp
  | succ k ih =>
    by_cases hk : k < q.length
    · rw [flatMap_take f q k _ (uvD_take q k hk), List.length_append]
      have := h _ (uvD_mem q k hk)
      omega
    · have e : q.take (k + 1) = q.take k := by rw [List.take_of_length_le (by omega), List.take_of_length_le (by omega)]
      rw [e]
      omega

set_option maxRecDepth 100000 in
set_option maxHeartbeats 1000000 in
theorem namesP_any (x : Uv) (w w0 : World) (hx : UvOk w0 x) : Calls Tryz.prog 37 #[uvVal x] w fun e w' => e = .returned x.p ∧ Below w.heap.size w w' := by
  obtain ⟨a1, n1, d1, a2, n2, d2, a3, n3, d3, e1, e2, e3⟩ := hx.forms
  obtain ⟨⟨⟨ua, un⟩, ps, says, ts⟩, vp, vs, vt⟩ := x
  dsimp only at *
  subst e1 e2 e3
  have HB1 : Hid (Below w.heap.size w (w.alloc (.cells #[.int .i64 ua, .int .i64 un, .slice a1 n1 d1, .slice a2 n2 d2, .slice a3 n3 d3] 30))) := (Below.refl _ _).alloc (Nat.le_refl _) _
  clear hx
  go_enter Tryz.func37, Tryz.ntmps37
  go_wp2_with fail
  go_ret
  exact ⟨rfl, HB1.out⟩
set_option maxRecDepth 100000 in
set_option maxHeartbeats 4000000 in
theorem unnamedP_any (q : List Uv) (v : Value) (w : World) (hV : UpsV w v q) (hl : q.length ≤ 1000) (hok : ∀ x, x ∈ q → UvOk w x) (hid : ∀ x, x ∈ q → IdsOk x.u) :
    Calls Tryz.prog 36 #[v, .func (.func 37) #[] #[]] w fun e w' => ∃ v', e = .returned v' ∧ URow w' w.heap.size v' (keepU (fun u => decide (0 < (q.flatMap (fun x => x.u.ps)).count u.id)) q) ∧ Below w.heap.size w w' := by
  have HO : Hid (∀ x, x ∈ q → UvOk w x ∧ IdsOk x.u) := fun x hx => ⟨hok x hx, hid x hx⟩
  have HV : Hid (UpsV w v q) := hV
  have HLF : Hid (∀ k, ((q.take k).flatMap (fun x => x.u.ps)).length ≤ k * 6) := flat_len (fun x hx => (hid x hx).lp)
  obtain ⟨ao, cap, rfl, _, hA⟩ := hV
  have HA : Hid (UpsAt w ao q) := hA
  clear hok hid hA
  have hmm := @run_makeMap Tryz.prog
  have hbm : Below w.heap.size w ((w.alloc (.map #[] 0)).alloc (.cells #[.map (some w.heap.size)] 111)) := ((Below.refl _ _).alloc (Nat.le_refl _) _).alloc (by simp) _
  have hs2 : ((w.alloc (.map #[] 0)).alloc (.cells #[.map (some w.heap.size)] 111)).heap.size = w.heap.size + 2 := by simp
  have hx2 : ((w.alloc (.map #[] 0)).alloc (.cells #[.map (some w.heap.size)] 111)).heap[w.heap.size + 1]? = some (.cells #[.map (some w.heap.size)] 111) := by
    have := rl_new (w.alloc (.map #[] 0)) (.cells #[.map (some w.heap.size)] 111)
    rw [World.size_alloc] at this
    exact this
  have hn2 : NmAt ((w.alloc (.map #[] 0)).alloc (.cells #[.map (some w.heap.size)] 111)) w.heap.size [] := (nmAt_made w).below ((Below.refl _ _).alloc (Nat.le_refl _) _)
  go_enter Tryz.func36, Tryz.ntmps36
  go_upto_region 2 with fail
  generalize (w.alloc (.map #[] 0)).alloc (.cells #[.map (some w.heap.size)] 111) = w2 at *
  go_wp2_with fail
  clear hmm
  go_loopw [13] (fun iv wr => ∃ k : Nat, k ≤ q.length ∧ iv = .int .i64 k ∧ Hid (NmAt wr w.heap.size ((q.take k).flatMap (fun x => x.u.ps))) ∧ Hid (wr.heap[w.heap.size + 1]? = some (.cells #[.map (some w.heap.size)] 111)) ∧ Below w.heap.size w wr) (fun iv _ => q.length - (intOf iv).toNat)
  case atStart => exact ⟨0, Nat.zero_le _, rfl, hn2, hx2, hbm⟩
  case round =>
    clear hn2 hx2 hbm hs2
    obtain ⟨k, hk, rfl, HN, HX, hbw⟩ := hrel
    by_cases hlt : k < q.length
    · obtain ⟨b, off, rfl, c0, c1, c2, c3, c4⟩ := ups_at (HA.out.kc (Kc.below hbw)) k hlt
      have hmem := uvD_mem q k hlt
      have hxo := HO.out _ hmem
      have HFT : Hid ((q.take (k + 1)).flatMap (fun x => x.u.ps) = (q.take k).flatMap (fun x => x.u.ps) ++ (uvD q k).u.ps) := flatMap_take (fun x : Uv => x.u.ps) q k _ (uvD_take q k hlt)
      have hlen := HLF.out k
      generalize (q.take k).flatMap (fun x => x.u.ps) = L0 at *
      have HNM : Hid (∀ z, Calls Tryz.prog 37 #[uvVal (uvD q k)] z fun e w' => e = .returned (uvD q k).p ∧ Below z.heap.size z w') := fun z => namesP_any _ z w hxo.1
      have HIV : Hid (IdsV w (uvD q k).p (uvD q k).u.ps) := hxo.1.p
      have HII : Hid (∀ y, y ∈ (uvD q k).u.ps → Wr.isId y = true) := hxo.2.ps
      have hl6 : (uvD q k).u.ps.length ≤ 6 := hxo.2.lp
      obtain ⟨a1, n1, d1, a2, n2, d2, a3, n3, d3, e1, e2, e3⟩ := hxo.1.forms
      obtain ⟨ia, ic, hie, _, _⟩ := hxo.1.p
      clear hxo hmem
      generalize uvD q k = x at *
      obtain ⟨⟨⟨ua, un⟩, ps, says, ts⟩, vp, vs, vt⟩ := x
      dsimp only at *
      subst e1 e2 e3
      injection hie with hie1 hie2 hie3
      subst hie1 hie2 hie3
      have HB1 : Hid (Below wr.heap.size wr (wr.alloc (.cells #[.int .i64 ua, .int .i64 un, .slice a1 ps.length d1, .slice a2 n2 d2, .slice a3 n3 d3] 30))) := (Below.refl _ _).alloc (Nat.le_refl _) _
      go_upto_region 6 with (go_at_call 37; refine Calls.mono (HNM.out _) ?_; rintro e w3 ⟨rfl, hb3⟩)
      have hb13 := HB1.out.trans (hb3.mono HB1.out.size)
      have hbw3 := hbw.trans (hb13.mono hbw.size)
      have HN3 : Hid (NmAt w3 w.heap.size L0) := HN.out.below hb13
      have HX3 : Hid (w3.heap[w.heap.size + 1]? = some (.cells #[.map (some w.heap.size)] 111)) := (hb13.block _ (Array.getElem?_eq_some_iff.1 HX.out).1).trans HX.out
      clear HN HX c0 c1 c2 c3 c4 HB1 hb3 hb13 hbw HNM
      go_loopw [21] (fun iv wr => ∃ m : Nat, m ≤ ps.length ∧ iv = .int .i64 m ∧ Hid (NmAt wr w.heap.size (L0 ++ ps.take m)) ∧ Hid (wr.heap[w.heap.size + 1]? = some (.cells #[.map (some w.heap.size)] 111)) ∧ Below w.heap.size w wr) (fun iv _ => ps.length - (intOf iv).toNat)
      case atStart => exact ⟨0, Nat.zero_le _, rfl, by rw [List.take_zero, List.append_nil]; exact HN3.out, HX3.out, hbw3⟩
      case round =>
        clear HN3 HX3 hbw3
        obtain ⟨m, hm, rfl, HN, HX, hbw⟩ := hrel
        by_cases hmt : m < ps.length
        · obtain ⟨_, _, e9, _, hA9⟩ := idsV_below HIV.out hbw
          cases e9
          obtain ⟨b9, off9, rfl, c0, c1⟩ := ids_at hA9 m hmt
          have hyi := HII.out (idD ps m) (by simp [idD, hmt])
          have HTM : Hid (L0 ++ ps.take (m + 1) = (L0 ++ ps.take m) ++ [idD ps m]) := by
            show _ = _
            rw [ids_take hmt, List.append_assoc]
          have hlm : (L0 ++ ps.take m).length ≤ 1000000 := by rw [List.length_append, List.length_take]; omega
          generalize L0 ++ ps.take m = L1 at *
          generalize idD ps m = y at *
          obtain ⟨ya, yn⟩ := y
          dsimp only at c0 c1
          have hbA : Below wr.heap.size wr (wr.alloc (.cells #[.int .i64 ya, .int .i64 yn] 26)) := (Below.refl _ _).alloc (Nat.le_refl _) _
          have hsw := hbw.size
          have HBA : Hid (Below w.heap.size w (wr.alloc (.cells #[.int .i64 ya, .int .i64 yn] 26))) := hbw.alloc hsw _
          have HNA : Hid (NmAt (wr.alloc (.cells #[.int .i64 ya, .int .i64 yn] 26)) w.heap.size L1) := HN.out.below hbA
          have HXA : Hid ((wr.alloc (.cells #[.int .i64 ya, .int .i64 yn] 26)).heap[w.heap.size + 1]? = some (.cells #[.map (some w.heap.size)] 111)) := (hbA.block _ (Array.getElem?_eq_some_iff.1 HX.out).1).trans HX.out
          have HYA : Hid ((wr.alloc (.cells #[.int .i64 ya, .int .i64 yn] 26)).heap[wr.heap.size]? = some (.cells #[.int .i64 ya, .int .i64 yn] 26)) := rl_new wr _
          go_upto_region 8 with fail
          generalize wr.heap.size = yb at *
          generalize wr.alloc (.cells #[.int .i64 ya, .int .i64 yn] 26) = w4 at *
          clear c0 c1 HN HX hbw hbA hsw
          have hnd : NmAt w4.drew w.heap.size L1 := HNA.out.below ⟨rfl, rfl, rfl, Nat.le_refl _, fun _ _ => rfl⟩
          have hlk := hnd.look hyi
          obtain ⟨v0, st, w5, w6, hen, hlk2, hst, hn6, hg6⟩ := hnd.inc hlm hyi
          have d0 : w4.drew.cell? ⟨w.heap.size + 1, 0, none⟩ = some (.map (some w.heap.size)) := by show w4.cell? _ = _; rw [Lib.cell_of_heap HXA.out]; rfl
          have d1' : w4.drew.cell? ⟨yb, 0, none⟩ = some (.int .i64 ya) := by show w4.cell? _ = _; rw [Lib.cell_of_heap HYA.out]; rfl
          have d2' : w4.drew.cell? ⟨yb, 1, none⟩ = some (.int .i64 yn) := by show w4.cell? _ = _; rw [Lib.cell_of_heap HYA.out]; rfl
          have HN6 : Hid (NmAt w6 w.heap.size (L1 ++ [⟨ya, yn⟩])) := hn6
          have HG6 : Hid (Below w.heap.size w w6) := HBA.out.grown ⟨hg6.os, hg6.tape, hg6.output, hg6.size, hg6.block⟩ HBA.out.size (fun j e => by cases e; exact Nat.le_refl _)
          have HX6 : Hid (w6.heap[w.heap.size + 1]? = some (.cells #[.map (some w.heap.size)] 111)) := (hg6.block _ (Array.getElem?_eq_some_iff.1 HXA.out).1 (fun e => by injection e; omega)).trans HXA.out
          have hcw : IntKind.i64.wrap ((L1.count ⟨ya, yn⟩ : Int) + 1) = (L1.count ⟨ya, yn⟩ : Int) + 1 := by
            have : L1.count ⟨ya, yn⟩ ≤ L1.length := List.count_le_length
            simp [IntKind.wrap, IntKind.bits, IntKind.signed]
            omega
          clear hnd hn6 hg6 HNA HBA HXA HYA
          generalize (L1.count ⟨ya, yn⟩ : Int) = cc at *
          go_region
          all_goals (
            go_wp2_with fail
            go_roundw
            case rel => exact ⟨m + 1, hmt, by go_num, by rw [HTM.out]; exact HN6.out, HX6.out, HG6.out⟩
            case measure => simp [intOf]; omega)
        · have hdd : decide (m < ps.length) = false := decide_eq_false hmt
          obtain rfl : m = ps.length := by omega
          have HNE : Hid (NmAt wr w.heap.size ((q.take (k + 1)).flatMap (fun x => x.u.ps))) := by
            have h9 := HN.out
            rw [List.take_length, ← HFT.out] at h9
            exact h9
          clear HN
          go_wp2_with fail
          go_roundw
          case rel => exact ⟨k + 1, hlt, by go_num, HNE.out, HX.out, hbw⟩
          case measure => simp [intOf]; omega
    · have hdd : decide (k < q.length) = false := decide_eq_false hlt
      obtain rfl : k = q.length := by omega
      have hne := HN.out
      rw [List.take_length] at hne
      have HNE : Hid (NmAt wr w.heap.size (q.flatMap (fun x => x.u.ps))) := hne
      have HCL : Hid (Calls Tryz.prog 80 #[.slice ao q.length cap] wr fun e w' => ∃ v', e = .returned v' ∧ URow w' wr.heap.size v' q ∧ Below wr.heap.size wr w') := cloneUps_any q _ wr (HV.out.kc (Kc.below hbw)) (fun x hx => (HO.out x hx).1.below hbw) hl
      have HBW : Hid (Below w.heap.size w wr) := hbw
      clear hne HN hbw
      go_wp2_with fail
      refine Calls.mono HCL.out ?_
      rintro e w7 ⟨v7, rfl, hr7, hb7⟩
      have HDD : Hid (Calls Tryz.prog 79 #[v7, .func (.func 81) #[] #[.pointer (some ⟨w.heap.size + 1, 0, none⟩)]] w7 fun e w' => ∃ v', e = .returned v' ∧ URow w' wr.heap.size v' (keepU (fun u => decide (0 < (q.flatMap (fun x => x.u.ps)).count u.id)) q) ∧ Below wr.heap.size wr w') :=
        delete_any (w.heap.size + 1) _ q v7 wr w7 hb7 hr7 hl (fun x hx => (HO.out x hx).1.below HBW.out) (fun z x hz hx => named1_any w.heap.size (w.heap.size + 1) _ x z w (HNE.out.below hz) (by rw [Lib.cell_of_heap ((hz.block _ (Array.getElem?_eq_some_iff.1 HX.out).1).trans HX.out)]; rfl) (HO.out x hx).1 (HO.out x hx).2.id)
      obtain ⟨a7, c7, rfl⟩ := own_slice hr7
      clear hr7 hb7 HCL
      go_wp2_with fail
      refine Calls.mono HDD.out ?_
      rintro e w8 ⟨v8, rfl, hr8, hb8⟩
      obtain ⟨qk, HKK⟩ : ∃ qk, Hid (keepU (fun u => decide (0 < (q.flatMap (fun x => x.u.ps)).count u.id)) q = qk) := ⟨_, rfl⟩
      rw [HKK.out] at hr8
      obtain ⟨a8, c8, rfl⟩ := own_slice hr8
      have HR8 : Hid (URow w8 w.heap.size (.slice a8 qk.length c8) qk) := rl_own_le (base' := w.heap.size) hr8 HBW.out.size
      have HB8 : Hid (Below w.heap.size w w8) := HBW.out.trans (hb8.mono HBW.out.size)
      clear hr8 hb8 HDD
      go_wp2_with fail
      go_ret
      exact ⟨_, rfl, by rw [HKK.out]; exact HR8.out, HB8.out⟩

end Go.Proofs.YtmfaodapofamfaaGreat

/- Package dag: Heads and Facts. -/
namespace Go.Proofs.YtmfaodapofamfaaGreat
open Go.RowKit Go.Maps

namespace Dg
/-- Is it named by one of them? -/
def named (f : Wr.Up → List Wr.Id) (h : List Wr.Up) (u : Wr.Up) : Bool := h.any fun v => Wr.has (f v) u.id
def free (f : Wr.Up → List Wr.Id) (h : List Wr.Up) : List Wr.Up := h.filter fun u => !named f h u
def heads (h : List Wr.Up) : List Wr.Id := (free Wr.Up.ps h).map Wr.Up.id
/-- Something, if nothing is wrong. -/
def ifOk {α : Type} (e : Int) (l : List α) : List α := if e = 0 then l else []
theorem ifOk_ok {α : Type} {e : Int} (h : e = 0) (l : List α) : ifOk e l = l := if_pos h
theorem ifOk_no {α : Type} {e : Int} (h : ¬ e = 0) (l : List α) : ifOk e l = [] := if_neg h
end Dg
theorem named_count (f : Wr.Up → List Wr.Id) (q : List Uv) (u : Wr.Up) : decide (0 < (q.flatMap (fun x => f x.u)).count u.id) = Dg.named f (ups q) u := by
  have h : (0 < (q.flatMap (fun x => f x.u)).count u.id) ↔ Dg.named f (ups q) u = true := by
    rw [List.count_pos_iff]
    unfold Dg.named ups
    rw [List.mem_flatMap, List.any_map, List.any_eq_true]
    constructor
    · rintro ⟨x, hx, h⟩
      exact ⟨x, hx, by unfold Wr.has; simpa using h⟩
    · rintro ⟨x, hx, h⟩
      exact ⟨x, hx, by unfold Wr.has at h; simpa using h⟩
  cases hb : Dg.named f (ups q) u with
  | true => exact decide_eq_true (h.mpr hb)
  | false => exact decide_eq_false (fun e => by rw [h.mp e] at hb; cases hb)
theorem ups_keep (P : Wr.Up → Bool) (q : List Uv) : ups (keepU P q) = (ups q).filter (fun u => !P u) := by
  unfold ups keepU
  rw [List.filter_map]
  rfl
theorem ups_free (f : Wr.Up → List Wr.Id) (q : List Uv) : ups (keepU (fun u => decide (0 < (q.flatMap (fun x => f x.u)).count u.id)) q) = Dg.free f (ups q) := by
  rw [ups_keep]
  unfold Dg.free
  congr 1
  funext u
  rw [named_count f q u]
theorem keepU_mem {P : Wr.Up → Bool} {q : List Uv} {x : Uv} (h : x ∈ keepU P q) : x ∈ q := (List.mem_filter.mp h).1

set_option maxRecDepth 100000 in
set_option maxHeartbeats 4000000 in
theorem Heads_any (hq wq : List Uv) (hv wv : Value) (w : World) (hV : UpsV w hv hq) (wV : UpsV w wv wq) (hl : hq.length ≤ 4611686018427387903 ∧ wq.length ≤ 4611686018427387903) (hok : ∀ x, x ∈ hq ++ wq → UvOk w x) :
    Calls Tryz.prog 7 #[repVal hv wv] w fun e w' => ∃ v', e = .returned (.tuple #[v', .int .i64 (Dg.check (ups hq) (ups wq))]) ∧ IdsV w' v' (Dg.ifOk (Dg.check (ups hq) (ups wq)) (Dg.heads (ups hq))) ∧ Below w.heap.size w w' := by
  obtain ⟨i0, hi, hz0, hz1, hz2⟩ := info_parts id_info
  have HO : Hid (∀ x, x ∈ hq ++ wq → UvOk w x) := hok
  have HHV : Hid (UpsV w hv hq) := hV
  have HCK0 : Hid (∀ z, Below w.heap.size w z → Calls Tryz.prog 15 #[repVal hv wv] z fun e w' => e = .returned (.int .i64 (Dg.check (ups hq) (ups wq))) ∧ Below z.heap.size z w') := fun z hz => DCheck_any hq wq _ _ z (hV.kc (Kc.below hz)) (wV.kc (Kc.below hz)) hl (fun x hx => (hok x hx).below hz)
  obtain ⟨ah, ch, rfl, _, _⟩ := hV
  obtain ⟨aw, cw, rfl, _, _⟩ := wV
  clear hok
  have HB1 : Hid (Below w.heap.size w (w.alloc (.cells #[.slice ah hq.length ch, .slice aw wq.length cw] 24))) := (Below.refl _ _).alloc (Nat.le_refl _) _
  have HH1 : Hid ((w.alloc (.cells #[.slice ah hq.length ch, .slice aw wq.length cw] 24)).heap[w.heap.size]? = some (.cells #[.slice ah hq.length ch, .slice aw wq.length cw] 24)) := rl_new w _
  go_enter Tryz.func7, Tryz.ntmps7
  go_upto_region 1 with fail
  generalize w.alloc (.cells #[.slice ah hq.length ch, .slice aw wq.length cw] 24) = w1 at *
  have HF : Hid (∀ z, Below w1.heap.size w1 z → z.cell? ⟨w.heap.size, 0, none⟩ = some (.slice ah hq.length ch) ∧ z.cell? ⟨w.heap.size, 1, none⟩ = some (.slice aw wq.length cw)) := fun z hz => by
    have hh1 := (hz.block _ (Array.getElem?_eq_some_iff.1 HH1.out).1).trans HH1.out
    exact ⟨by rw [Lib.cell_of_heap hh1]; rfl, by rw [Lib.cell_of_heap hh1]; rfl⟩
  obtain ⟨c0, c1⟩ := HF.out w1 (Below.refl _ _)
  go_upto_region 2 with (go_at_call 15; refine Calls.mono (HCK0.out _ HB1.out) ?_; rintro e w2 ⟨rfl, hb2⟩)
  have HG2 : Hid (Below w.heap.size w w2) := HB1.out.trans (hb2.mono HB1.out.size)
  clear c0 c1 HCK0
  obtain ⟨c0, c1⟩ := HF.out w2 hb2
  clear hb2
  by_cases hck : Dg.check (ups hq) (ups wq) = 0
  rotate_left
  · have hne : (Dg.check (ups hq) (ups wq) != 0) = true := by simpa using hck
    go_wp2_with fail
    go_ret2
    exact ⟨_, rfl, by rw [Dg.ifOk_no hck]; exact ⟨none, 0, rfl, ⟨Nat.le_refl _, fun _ => rfl⟩, .inl rfl⟩, HG2.out⟩
  have HCK : Hid (Dg.check (ups hq) (ups wq) = 0) := hck
  have HOKR : Hid (Dg.Ok (ups hq) (ups wq)) := Dg.check_ok.mp hck
  rw [hck]
  clear hck
  have hfew : hq.length ≤ 200 := by have := HOKR.out.few; rw [ups_length, ups_length] at this; omega
  have HID : Hid (∀ x, x ∈ hq → UvOk w x ∧ Wr.check x.u = 0) := fun x hx => ⟨HO.out x (List.mem_append_left _ hx), HOKR.out.each x.u (List.mem_append_left _ (List.mem_map.mpr ⟨x, hx, rfl⟩))⟩
  have HUN : Hid (Calls Tryz.prog 36 #[.slice ah hq.length ch, .func (.func 37) #[] #[]] w2 fun e w' => ∃ v', e = .returned v' ∧ URow w' w2.heap.size v' (keepU (fun u => decide (0 < (hq.flatMap (fun x => x.u.ps)).count u.id)) hq) ∧ Below w2.heap.size w2 w') := unnamedP_any hq _ w2 (HHV.out.kc (Kc.below HG2.out)) (by omega) (fun x hx => (HID.out x hx).1.below HG2.out) (fun x hx => idsOk_of (HID.out x hx).2)
  have HUF : Hid (ups (keepU (fun u => decide (0 < (hq.flatMap (fun x => x.u.ps)).count u.id)) hq) = Dg.free Wr.Up.ps (ups hq)) := ups_free Wr.Up.ps hq
  have HKM : Hid (∀ x, x ∈ keepU (fun u => decide (0 < (hq.flatMap (fun x => x.u.ps)).count u.id)) hq → x ∈ hq) := fun x hx => keepU_mem hx
  have HKL : Hid ((keepU (fun u => decide (0 < (hq.flatMap (fun x => x.u.ps)).count u.id)) hq).length ≤ 200) := Nat.le_trans (keepU_len _ _) hfew
  generalize keepU (fun u => decide (0 < (hq.flatMap (fun x => x.u.ps)).count u.id)) hq = q at *
  go_upto_region 6 with (go_at_call 36; refine Calls.mono HUN.out ?_; rintro e w3 ⟨v3, rfl, hr3, hb3⟩; obtain ⟨a3, k3, rfl⟩ := own_slice hr3)
  have HR3 : Hid (UpsV w3 (.slice a3 q.length k3) q) := own_ups hr3
  have HG3 : Hid (Below w.heap.size w w3) := HG2.out.trans (hb3.mono HG2.out.size)
  have hql : q.length ≤ 200 := HKL.out
  clear hr3 hb3 HUN c0 c1
  go_loopw [5, 17] (fun vs iv wr => ∃ k : Nat, k ≤ q.length ∧ iv = .int .i64 k ∧ wr.ownsRow w3.heap.size 26 2 vs k (((ups (q.take k)).map Wr.Up.id).map idCells).flatten ∧ Below w3.heap.size w3 wr) (fun _ iv _ => q.length - (intOf iv).toNat)
  case atStart => exact ⟨0, Nat.zero_le _, rfl, World.ownsRow_nil _ _ _ _, Below.refl _ _⟩
  case round =>
    obtain ⟨k, hk, rfl, ho, hbw⟩ := hrel
    obtain ⟨av, cv, rfl⟩ := own_slice ho
    have hsz := hbw.size
    by_cases hlt : k < q.length
    · obtain ⟨_, _, e9, _, hA9⟩ := HR3.out.kc (Kc.below hbw)
      cases e9
      obtain ⟨b, off, rfl, c0, c1, c2, c3, c4⟩ := ups_at hA9 k hlt
      have hx := (HID.out _ (HKM.out _ (uvD_mem q k hlt))).1
      have HTK : Hid ((((ups (q.take (k + 1))).map Wr.Up.id).map idCells).flatten = (((ups (q.take k)).map Wr.Up.id).map idCells).flatten ++ idCells (uvD q k).u.id) := by
        show _ = _
        rw [uvD_take q k hlt, ups_append, List.map_append, List.map_append, List.flatten_append]
        simp [ups]
      obtain ⟨a1, n1, d1, a2, n2, d2, a4, n4, d4, e1, e2, e3⟩ := hx.forms
      generalize uvD q k = x at *
      obtain ⟨⟨⟨ua, un⟩, ps, says, ts⟩, vp, vs, vt⟩ := x
      dsimp only at *
      subst e1 e2 e3
      generalize (((ups (q.take k)).map Wr.Up.id).map idCells).flatten = X0 at *
      clear hA9 hx
      have HBN : Hid (Below w3.heap.size w3 (wr.alloc (.cells #[.int .i64 ua, .int .i64 un, .slice a1 n1 d1, .slice a2 n2 d2, .slice a4 n4 d4] 30))) := hbw.alloc hsz _
      have ho2 := ho.alloc (.cells #[.int .i64 ua, .int .i64 un, .slice a1 n1 d1, .slice a2 n2 d2, .slice a4 n4 d4] 30)
      clear ho
      go_upto_region 8 with fail
      have HCX : Hid ((wr.alloc (.cells #[.int .i64 ua, .int .i64 un, .slice a1 n1 d1, .slice a2 n2 d2, .slice a4 n4 d4] 30)).heap[wr.heap.size]? = some (.cells #[.int .i64 ua, .int .i64 un, .slice a1 n1 d1, .slice a2 n2 d2, .slice a4 n4 d4] 30)) := rl_new wr _
      generalize wr.alloc (.cells #[.int .i64 ua, .int .i64 un, .slice a1 n1 d1, .slice a2 n2 d2, .slice a4 n4 d4] 30) = w5 at *
      have x0 : w5.cell? ⟨wr.heap.size, 0, none⟩ = some (.int .i64 ua) := by rw [Lib.cell_of_heap HCX.out]; rfl
      have x1 : w5.cell? ⟨wr.heap.size, 1, none⟩ = some (.int .i64 un) := by rw [Lib.cell_of_heap HCX.out]; rfl
      have hs5 := HBN.out.size
      clear c0 c1 c2 c3 c4
      go_wp2_with (at_builtin; refine wpList_append_own _ rfl _ _ 27 rfl w3.heap.size 26 i0 _ 2 16 Tryz.underlying27 hi hz0 hz1 hz2 rfl (by decide) _ _ _ rfl (ho2.alloc _) ⟨w5.heap.size, 0, none⟩ 1 1 (idCells ⟨ua, un⟩) rfl rfl (news2 w5 _ _ 26) (by intro u hu; simp at hu; rcases hu with rfl | rfl <;> rfl) (by unfold maxLen; omega) (by omega) (by simp; omega) ?_; intro v6 w6 hown6 hgrow6 _; obtain ⟨a6, c6, rfl⟩ := own_slice hown6)
      have HO6 : Hid (w6.ownsRow w3.heap.size 26 2 (.slice a6 (k + 1) c6) (k + 1) (((ups (q.take (k + 1))).map Wr.Up.id).map idCells).flatten) := by
        show World.ownsRow _ _ _ _ _ _ _
        rw [HTK.out]
        exact hown6
      have HB6 : Hid (Below w3.heap.size w3 w6) := (HBN.out.alloc hs5 _).grown hgrow6 (by simp; omega) (fun j hj => (ho2.lt j hj).1)
      clear hown6 hgrow6 ho2 HTK
      go_roundw
      case rel => exact ⟨k + 1, hlt, by go_num, HO6.out, HB6.out⟩
      case measure => simp [intOf]; omega
    · have hdd : decide (k < q.length) = false := decide_eq_false hlt
      obtain rfl : k = q.length := by omega
      have HE : Hid (IdsV wr (.slice av q.length cv) (Dg.heads (ups hq))) := by
        have e : Dg.heads (ups hq) = (ups q).map Wr.Up.id := by unfold Dg.heads; rw [HUF.out]
        have el : ((ups q).map Wr.Up.id).length = q.length := by rw [List.length_map, ups_length]
        have h9 := ho
        rw [List.take_length, ← el] at h9
        show IdsV _ _ _
        rw [e, ← el]
        exact own_ids h9
      have HBE : Hid (Below w.heap.size w wr) := HG3.out.trans (hbw.mono HG3.out.size)
      clear ho hbw
      go_wp2_with fail
      go_ret2
      exact ⟨_, by rw [HCK.out]; rfl, by rw [Dg.ifOk_ok HCK.out]; exact HE.out, HBE.out⟩
end Go.Proofs.YtmfaodapofamfaaGreat

/- What dagBegun asks, plain. -/
namespace Go.Proofs.YtmfaodapofamfaaGreat
namespace Dg
open Wr
theorem beg_mem {u a b : Up} : u ∈ [a, b] ↔ u = a ∨ u = b := by simp
theorem beg_c1 : Wr.check firstU = 0 := by decide
theorem beg_c2 : Wr.check secondU = 0 := by decide
theorem beg_ok0 : Ok [] [] := ⟨by decide, (fun u hu => by cases hu), rfl, rfl, (fun u hu => by cases hu), ⟨fun u => ⟨(fun h => by cases h), (fun h => by cases h.1)⟩, fun u => ⟨(fun h => by cases h), (fun h => by cases h.1)⟩⟩⟩
end Dg
end Go.Proofs.YtmfaodapofamfaaGreat

/- Package dag: Facts. -/
namespace Go.Proofs.YtmfaodapofamfaaGreat
open Go.RowKit Go.Maps

end Go.Proofs.YtmfaodapofamfaaGreat

/- dagBegun. -/
namespace Go.Proofs.YtmfaodapofamfaaGreat
open Go.RowKit

theorem UpV.ok {w : World} {u : Wr.Up} {vp vs vt : Value} (h : UpV w u vp vs vt) : UvOk w ⟨u, vp, vs, vt⟩ := ⟨h.1, h.2.1, h.2.2.1, h.2.2.2.1, by have := h.2.2.2.2; dsimp only; omega⟩
theorem beg_check {h w : List Wr.Up} (e1 : h = [Wr.firstU, Wr.secondU]) (e2 : w = []) : Dg.check h w = 0 := by
  subst e1 e2
  have hA : Dg.Apart [Wr.secondU, Wr.firstU] := Dg.apart_of_nodup (by decide)
  have h1 : Dg.Cm [Wr.secondU, Wr.firstU] Wr.firstU.id := .mk Wr.firstU (by simp) (fun x hx => by cases hx)
  have h2 : Dg.Cm [Wr.secondU, Wr.firstU] Wr.secondU.id := .mk Wr.secondU (by simp) (fun x hx => by
    have hx2 : x = ⟨0, 1⟩ := by simpa [Dg.under, Wr.secondU] using hx
    rw [hx2]
    exact h1)
  have hall : ∀ u, u ∈ [Wr.secondU, Wr.firstU] → Dg.Cm [Wr.secondU, Wr.firstU] u.id := fun u hu => by
    rcases Dg.beg_mem.mp hu with rfl | rfl
    · exact h2
    · exact h1
  have hi : Dg.Is [Wr.secondU, Wr.firstU] [Wr.firstU, Wr.secondU] [] := by
    refine ⟨⟨fun u => ?_, fun u => ⟨(fun h => by cases h), (fun h => absurd (hall u h.1) h.2)⟩⟩, by decide, rfl⟩
    rw [Dg.beg_mem]
    exact ⟨fun h => ⟨Dg.beg_mem.mpr h.symm, hall u (Dg.beg_mem.mpr h.symm)⟩, fun h => (Dg.beg_mem.mp h.1).symm⟩
  refine Dg.check_ok.mpr (hi.ok hA (fun u hu => ?_) (by decide))
  rcases Dg.beg_mem.mp hu with rfl | rfl
  · exact Dg.beg_c2
  · exact Dg.beg_c1
end Go.Proofs.YtmfaodapofamfaaGreat

/- dagBegun. -/
namespace Go.Proofs.YtmfaodapofamfaaGreat
open Go.RowKit

theorem UpV.below {w w' : World} {u : Wr.Up} {vp vs vt : Value} (h : UpV w u vp vs vt) (hb : Below w.heap.size w w') : UpV w' u vp vs vt := ⟨idsV_below h.1 hb, factsV_below h.2.1 hb, idsV_below h.2.2.1 hb, h.2.2.2.1, h.2.2.2.2⟩
def Up1 (u : Wr.Up) (w : World) (v : Value) : Prop := ∃ a1 n1 c1 a2 n2 c2 a3 n3 c3, v = .agg #[.int .i64 u.id.a, .int .i64 u.id.n, .slice a1 n1 c1, .slice a2 n2 c2, .slice a3 n3 c3] ∧ UpV w u (.slice a1 n1 c1) (.slice a2 n2 c2) (.slice a3 n3 c3)
theorem up1_of {u : Wr.Up} {w : World} {vp vs vt : Value} (h : UpV w u vp vs vt) : Up1 u w (upVal u vp vs vt) := by
  obtain ⟨a1, c1, rfl, _⟩ := id h.1
  obtain ⟨a2, c2, rfl, _⟩ := id h.2.1
  obtain ⟨a3, c3, rfl, _⟩ := id h.2.2.1
  exact ⟨a1, _, c1, a2, _, c2, a3, _, c3, rfl, h⟩
def Ups2 (w : World) (v : Value) : Prop := ∃ a, v = .slice a 2 2 ∧ ∃ R1 R2, UpsV w (.slice a 2 2) [R1, R2] ∧ UvOk w R1 ∧ UvOk w R2 ∧ R1.u = Wr.firstU ∧ R2.u = Wr.secondU
theorem Ups2.below {w w' : World} {v : Value} (h : Ups2 w v) (hb : Below w.heap.size w w') : Ups2 w' v := by
  obtain ⟨a, e, R1, R2, h1, h2, h3, h4, h5⟩ := h
  exact ⟨a, e, R1, R2, h1.kc (Kc.below hb), h2.below hb, h3.below hb, h4, h5⟩
theorem ups2_new {y : World} {p1 p2 p3 p4 p5 p6 : Option Addr} {n1 n2 n3 n4 n5 n6 q1 q2 q3 q4 q5 q6 : Nat} (hU : UpV y Wr.firstU (.slice p1 n1 q1) (.slice p2 n2 q2) (.slice p3 n3 q3)) (hV : UpV y Wr.secondU (.slice p4 n4 q4) (.slice p5 n5 q5) (.slice p6 n6 q6)) :
    Ups2 (y.alloc (.cells #[.int .i64 0, .int .i64 1, .slice p1 n1 q1, .slice p2 n2 q2, .slice p3 n3 q3, .int .i64 1, .int .i64 1, .slice p4 n4 q4, .slice p5 n5 q5, .slice p6 n6 q6] 30)) (.slice (some ⟨y.heap.size, 0, none⟩) 2 2) := by
  have hb := new_below y (.cells #[.int .i64 0, .int .i64 1, .slice p1 n1 q1, .slice p2 n2 q2, .slice p3 n3 q3, .int .i64 1, .int .i64 1, .slice p4 n4 q4, .slice p5 n5 q5, .slice p6 n6 q6] 30)
  have hh := heap_alloc_new y (.cells #[.int .i64 0, .int .i64 1, .slice p1 n1 q1, .slice p2 n2 q2, .slice p3 n3 q3, .int .i64 1, .int .i64 1, .slice p4 n4 q4, .slice p5 n5 q5, .slice p6 n6 q6] 30)
  refine ⟨_, rfl, ⟨Wr.firstU, _, _, _⟩, ⟨Wr.secondU, _, _, _⟩, ⟨_, _, rfl, ⟨Nat.le_refl _, (fun h => by cases h)⟩, .inr ⟨_, 0, rfl, fun i hi => ?_⟩⟩, (hU.below hb).ok, (hV.below hb).ok, rfl, rfl⟩
  match i, hi with
  | 0, _ => exact ⟨by rw [Lib.cell_of_heap hh]; rfl, by rw [Lib.cell_of_heap hh]; rfl, by rw [Lib.cell_of_heap hh]; rfl, by rw [Lib.cell_of_heap hh]; rfl, by rw [Lib.cell_of_heap hh]; rfl⟩
  | 1, _ => exact ⟨by rw [Lib.cell_of_heap hh]; rfl, by rw [Lib.cell_of_heap hh]; rfl, by rw [Lib.cell_of_heap hh]; rfl, by rw [Lib.cell_of_heap hh]; rfl, by rw [Lib.cell_of_heap hh]; rfl⟩
end Go.Proofs.YtmfaodapofamfaaGreat

/- What the document's AddOf does, plain; and a box that is written. -/
namespace Go.Proofs.YtmfaodapofamfaaGreat
open Go.RowKit

namespace Dg
open Wr
def put (c : List Up) (x : Up) : List Up := ins x c
end Dg
/-- What one round has done so far. -/
structure PassJ (c q : List Uv) (k : Nat) (c' l' : List Uv) (mv : Bool) : Prop where
  pass : Dg.pass Dg.put (ups c) (ups q) = ((Dg.pass Dg.put (ups c') (ups (q.drop k))).1, ups l' ++ (Dg.pass Dg.put (ups c') (ups (q.drop k))).2)
  perm : (c' ++ l' ++ q.drop k).Perm (c ++ q)
  no : mv = false → l'.length = k
  yes : mv = true → l'.length < k
theorem PassJ.start (c q : List Uv) : PassJ c q 0 c [] false := ⟨rfl, by simp, fun _ => rfl, fun h => by cases h⟩
theorem PassJ.le {c q c' l' : List Uv} {k : Nat} {mv : Bool} (h : PassJ c q k c' l' mv) : l'.length ≤ k := by
  cases mv with
  | false => exact Nat.le_of_eq (h.no rfl)
  | true => exact Nat.le_of_lt (h.yes rfl)
theorem PassJ.move {c q c' l' : List Uv} {k : Nat} {mv : Bool} (h : PassJ c q k c' l' mv) (hk : k < q.length) (hc : Dg.carry (ups c') (uvD q k).u = true) : PassJ c q (k + 1) (insV (uvD q k) c') l' true := by
  refine ⟨?_, ?_, (fun e => by cases e), fun _ => by have := h.le; omega⟩
  · rw [h.pass, uvD_drop q k hk]
    have e : ups (uvD q k :: q.drop (k + 1)) = (uvD q k).u :: ups (q.drop (k + 1)) := rfl
    rw [e, Dg.pass_yes hc, ups_insV]
    rfl
  · refine List.Perm.trans ?_ h.perm
    rw [uvD_drop q k hk]
    generalize uvD q k = x
    generalize q.drop (k + 1) = r
    rw [List.append_assoc, List.append_assoc]
    refine ((insV_perm x c').append_right (l' ++ r)).trans ?_
    refine List.Perm.trans ?_ (List.Perm.append_left c' (List.perm_middle (a := x) (l₁ := l') (l₂ := r)).symm)
    exact (List.perm_middle (a := x) (l₁ := c') (l₂ := l' ++ r)).symm
theorem PassJ.stay {c q c' l' : List Uv} {k : Nat} {mv : Bool} (h : PassJ c q k c' l' mv) (hk : k < q.length) (hc : Dg.carry (ups c') (uvD q k).u = false) : PassJ c q (k + 1) c' (l' ++ [uvD q k]) mv := by
  refine ⟨?_, ?_, fun e => by rw [List.length_append, h.no e]; rfl, fun e => by rw [List.length_append]; have := h.yes e; simp; omega⟩
  · rw [h.pass, uvD_drop q k hk]
    have e : ups (uvD q k :: q.drop (k + 1)) = (uvD q k).u :: ups (q.drop (k + 1)) := rfl
    rw [e, Dg.pass_no hc, ups_append, List.append_assoc]
    rfl
  · refine List.Perm.trans ?_ h.perm
    rw [uvD_drop q k hk]
    simp only [List.append_assoc, List.cons_append, List.nil_append]
    exact List.Perm.refl _
/-- What stands between two rounds. -/
structure AddJ (h0 q0 c q : List Uv) (mv : Bool) : Prop where
  set : Dg.settle Dg.put (ups h0) (ups q0) = if mv then Dg.settle Dg.put (ups c) (ups q) else (ups c, ups q)
  perm : (c ++ q).Perm (h0 ++ q0)
theorem PassJ.fin {h0 q0 c q c' l' : List Uv} {k : Nat} {mv : Bool} (ha : AddJ h0 q0 c q true) (h : PassJ c q k c' l' mv) (hk : ¬ k < q.length) (hk2 : k ≤ q.length) : AddJ h0 q0 c' l' mv ∧ (mv = true → l'.length < q.length) ∧ l'.length ≤ q.length := by
  have e : q.drop k = [] := List.drop_of_length_le (by omega)
  have h1 := h.pass
  have h2 := h.perm
  rw [e] at h1 h2
  rw [List.append_nil] at h2
  have h3 : Dg.pass Dg.put (ups c) (ups q) = (ups c', ups l') := by
    rw [h1]
    show (ups c', ups l' ++ []) = _
    rw [List.append_nil]
  refine ⟨⟨?_, h2.trans ha.perm⟩, fun e => by have := h.yes e; omega, by have := h.le; omega⟩
  have h4 : Dg.settle Dg.put (ups h0) (ups q0) = Dg.settle Dg.put (ups c) (ups q) := ha.set
  cases mv with
  | false =>
    have h5 := h.no rfl
    rw [h4, Dg.settle_end (by rw [h3]; show (ups l').length = _; rw [ups_length, ups_length]; omega), h3]
    rfl
  | true =>
    have h5 := h.yes rfl
    rw [h4, Dg.settle_on (by rw [h3]; show ¬ (ups l').length = _; rw [ups_length, ups_length]; omega), h3]
    rfl
/-- What AddOf answers. -/
def AddR (hq wq : List Uv) (x : Uv) (c l : List Uv) (b : Bool) : Prop :=
  (Dg.hasU (ups hq ++ ups wq) x.u.id = true ∧ b = true ∧ c = hq ∧ l = wq) ∨
  (Dg.hasU (ups hq ++ ups wq) x.u.id = false ∧ 200 ≤ hq.length + wq.length ∧ b = false ∧ c = [] ∧ l = []) ∨
  (Dg.hasU (ups hq ++ ups wq) x.u.id = false ∧ hq.length + wq.length < 200 ∧ b = true ∧ Dg.settle Dg.put (ups hq) (Dg.ins x.u (ups wq)) = (ups c, ups l))
/-- All but two blocks stand. -/
def Kb (g r : Nat) (w z : World) : Prop := w.heap.size ≤ z.heap.size ∧ ∀ j, j < w.heap.size → j ≠ g → j ≠ r → z.heap[j]? = w.heap[j]?
theorem Kb.refl (g r : Nat) (w : World) : Kb g r w w := ⟨Nat.le_refl _, fun _ _ _ _ => rfl⟩
theorem Kb.trans {g r : Nat} {a b c : World} (h : Kb g r a b) (k : Kb g r b c) : Kb g r a c := ⟨Nat.le_trans h.1 k.1, fun j hj h1 h2 => (k.2 j (Nat.lt_of_lt_of_le hj h.1) h1 h2).trans (h.2 j hj h1 h2)⟩
theorem Kb.left {g r : Nat} {w z : World} (h : w.grownBy z (some g)) : Kb g r w z := ⟨h.size, fun j hj h1 _ => h.block j hj (fun e => h1 (by injection e))⟩
theorem Kb.right {g r : Nat} {w z : World} (h : w.grownBy z (some r)) : Kb g r w z := ⟨h.size, fun j hj _ h2 => h.block j hj (fun e => h2 (by injection e))⟩
theorem Kb.below {g r : Nat} {w z : World} (h : Below w.heap.size w z) : Kb g r w z := ⟨h.size, fun j hj _ _ => h.block j hj⟩
/-- A row that stands where the boxes g and r are written. -/
def RowS (g r : Nat) (wr : World) (v : Value) (c : List Uv) : Prop := ∀ z, Kb g r wr z → UpsV z v c
theorem RowS.here {g r : Nat} {wr : World} {v : Value} {c : List Uv} (h : RowS g r wr v c) : UpsV wr v c := h wr (Kb.refl _ _ _)
theorem RowS.on {g r : Nat} {wr z : World} {v : Value} {c : List Uv} (h : RowS g r wr v c) (hg : Kb g r wr z) : RowS g r z v c := fun y hy => h y (hg.trans hy)
theorem rowS_old {w wr : World} {g r : Nat} {v : Value} {c : List Uv} (h : UpsV w v c) (hb : Below w.heap.size w wr) (hg : w.heap.size ≤ g) (hr : w.heap.size ≤ r) : RowS g r wr v c := fun z hz => by
  refine h.kc (fun b o u e => ?_)
  have hlt := cell_lt e
  rw [cell_heap ((hz.2 b (Nat.lt_of_lt_of_le hlt hb.size) (by omega) (by omega)).trans (hb.block b hlt))]
  exact e
theorem rowS_own {wr : World} {B g r : Nat} {v : Value} {c : List Uv} {a a2 : Array Value} (h : URow wr B v c) (hg : wr.heap[g]? = some (.cells a 24)) (hr : wr.heap[r]? = some (.cells a2 24)) : RowS g r wr v c := fun z hz => by
  refine own_ups (B := B) ⟨h.1, ?_⟩
  rcases h.2 with e | ⟨k, cap, cur, e, hB, hk, hrest⟩
  · exact .inl e
  · have ne : ∀ (j : Nat) (u : Array Value), wr.heap[j]? = some (.cells u 24) → k ≠ j := fun j u hj e2 => by
      subst e2
      rw [hk] at hj
      injection hj with hj
      injection hj with _ h2
      cases h2
    exact .inr ⟨k, cap, cur, e, hB, (hz.2 k (Array.getElem?_eq_some_iff.1 hk).1 (ne g a hg) (ne r a2 hr)).trans hk, hrest⟩
theorem own_first {w : World} {B : Nat} {v : Value} {c : List Uv} (h : URow w B v c) (hc : c ≠ []) : ∃ k, v.ownBlock = some k ∧ w.cell? ⟨k, 0, none⟩ = some (.int .i64 (uvD c 0).u.id.a) ∧ w.cell? ⟨k, 1, none⟩ = some (.int .i64 (uvD c 0).u.id.n) := by
  have hl : 0 < c.length := List.length_pos_iff.mpr hc
  obtain ⟨ao, cap, e, _, hA⟩ := own_ups h
  rcases h.2 with ⟨_, e2⟩ | ⟨k, cap2, cur, e2, _, _, _⟩
  · omega
  · rw [e2] at e
    injection e with e3 _ _
    subst e3
    obtain ⟨b, off, e4, h0, h1, _⟩ := ups_at hA 0 hl
    injection e4 with e5
    injection e5 with e6 e7 _
    subst e6 e7
    exact ⟨k, by rw [e2]; rfl, h0, h1⟩
theorem own_apart {w : World} {B B' : Nat} {v v' : Value} {c l : List Uv} (h : URow w B v c) (h' : URow w B' v' l) (hc : c ≠ []) (hl : l ≠ []) (hn : ((ups (c ++ l)).map Wr.Up.id).Nodup) : v.ownBlock ≠ v'.ownBlock := by
  obtain ⟨k, e1, a0, a1⟩ := own_first h hc
  obtain ⟨k', e2, b0, b1⟩ := own_first h' hl
  intro e
  rw [e1, e2] at e
  injection e with e
  subst e
  rw [a0] at b0
  rw [a1] at b1
  injection b0 with b0
  injection b0 with _ b0
  injection b1 with b1
  injection b1 with _ b1
  rw [ups_append, List.map_append, List.nodup_append] at hn
  have m1 : (uvD c 0).u.id ∈ (ups c).map Wr.Up.id := List.mem_map.mpr ⟨_, List.mem_map.mpr ⟨_, uvD_mem c 0 (List.length_pos_iff.mpr hc), rfl⟩, rfl⟩
  have m2 : (uvD l 0).u.id ∈ (ups l).map Wr.Up.id := List.mem_map.mpr ⟨_, List.mem_map.mpr ⟨_, uvD_mem l 0 (List.length_pos_iff.mpr hl), rfl⟩, rfl⟩
  refine hn.2.2 _ m1 _ m2 ?_
  generalize (uvD c 0).u.id = x at *
  generalize (uvD l 0).u.id = y at *
  obtain ⟨xa, xn⟩ := x
  obtain ⟨ya, yn⟩ := y
  dsimp only at b0 b1
  rw [b0, b1]
/-- Has, while others are put behind another row. -/
def HasS (g r : Nat) (wO wr : World) (v : Value) (c : List Uv) : Prop := RowS g r wO v c ∨ (c ≠ [] ∧ URow wr wO.heap.size v c)
theorem HasS.row {g r : Nat} {wO wr : World} {v : Value} {c : List Uv} {a a2 : Array Value} (h : HasS g r wO wr v c) (hk : Kb g r wO wr) (hg : wr.heap[g]? = some (.cells a 24)) (hr : wr.heap[r]? = some (.cells a2 24)) : RowS g r wr v c := by
  rcases h with h | ⟨_, h⟩
  · exact h.on hk
  · exact rowS_own h hg hr
theorem HasS.on {g r : Nat} {wO wr z : World} {v : Value} {c : List Uv} (h : HasS g r wO wr v c) (hb : Below wr.heap.size wr z) : HasS g r wO z v c := by
  rcases h with h | ⟨h1, h⟩
  · exact .inl h
  · exact .inr ⟨h1, ownsRow_below h hb⟩
theorem HasS.app {g r B : Nat} {wO wr z : World} {v lv : Value} {c l : List Uv} (h : HasS g r wO wr v c) (hrow : URow wr B lv l) (hnil : l = [] → lv = .slice none 0 0) (hg : wr.grownBy z lv.ownBlock) (hn : ((ups (c ++ l)).map Wr.Up.id).Nodup) : HasS g r wO z v c := by
  rcases h with h | ⟨h1, h⟩
  · exact .inl h
  · refine .inr ⟨h1, h.kept hg (.inr ?_)⟩
    by_cases hl : l = []
    · rw [hnil hl]
      obtain ⟨k, e, _⟩ := own_first h h1
      rw [e]
      exact fun e2 => by cases e2
    · exact own_apart h hrow h1 hl hn
theorem Kb.app {g r : Nat} {wO wr z : World} {o : Option Nat} (h : Kb g r wO wr) (hg : wr.grownBy z o) (ho : ∀ j, o = some j → wO.heap.size ≤ j) : Kb g r wO z :=
  ⟨Nat.le_trans h.1 hg.size, fun j hj h1 h2 => (hg.block j (Nat.lt_of_lt_of_le hj h.1) (fun e => by have := ho j e.symm; omega)).trans (h.2 j hj h1 h2)⟩
def lenAt : Option Value → Nat
  | some (.slice _ n _) => n
  | _ => 0
end Go.Proofs.YtmfaodapofamfaaGreat

/- Add and AddOf answer the same, plain. -/
namespace Go.Proofs.YtmfaodapofamfaaGreat

end Go.Proofs.YtmfaodapofamfaaGreat

/- Many updates added, plain. -/
namespace Go.Proofs.YtmfaodapofamfaaGreat
namespace Dg
open Wr (Up)

def mores (l us : List Up) : List Up := us.foldl more l
theorem mores_snoc (l us : List Up) (u : Up) : mores l (us ++ [u]) = more (mores l us) u := by
  unfold mores
  rw [List.foldl_append]
  rfl
theorem hasU_congr {l m : List Up} (h : ∀ u, u ∈ l ↔ u ∈ m) (x : Wr.Id) : hasU l x = hasU m x := by
  rw [Bool.eq_iff_iff, hasU_iff, hasU_iff]
  exact ⟨fun ⟨u, h1, h2⟩ => ⟨u, (h u).mp h1, h2⟩, fun ⟨u, h1, h2⟩ => ⟨u, (h u).mpr h1, h2⟩⟩
theorem more_congr {l m : List Up} (h : ∀ u, u ∈ l ↔ u ∈ m) (u : Up) : ∀ v, v ∈ more l u ↔ v ∈ more m u := fun v => by
  rw [more_mem, more_mem, hasU_congr h, h]
theorem mores_nodup : ∀ {us l : List Up}, (l.map Up.id).Nodup → ((mores l us).map Up.id).Nodup
  | [], _, h => h
  | u :: us, l, h => mores_nodup (us := us) (l := more l u) (more_nodup h)
theorem more_len (l : List Up) (u : Up) : (more l u).length ≤ l.length + 1 := by
  unfold more
  split
  · omega
  · rw [List.length_append]; exact Nat.le_refl _
theorem mores_check {us l : List Up} (h1 : ∀ u, u ∈ l → Wr.check u = 0) (h2 : ∀ u, u ∈ us → Wr.check u = 0) : ∀ u, u ∈ mores l us → Wr.check u = 0 := by
  induction us generalizing l with
  | nil => exact h1
  | cons x us ih =>
    refine ih (l := more l x) (fun u hu => ?_) (fun u hu => h2 u (List.mem_cons_of_mem _ hu))
    rcases more_mem.mp hu with h | ⟨_, rfl⟩
    · exact h1 u h
    · exact h2 u (by simp)
/-- What stands when the first of us have been added. -/
theorem Is.on {all h w : List Up} {u : Up} (hi : Is all h w) {h' w' : List Up} (hn : Is (more (h ++ w) u) h' w') : Is (more all u) h' w' :=
  hn.congr (more_congr (fun v => by rw [List.mem_append]; exact hi.parts.mem v) u)
theorem Is.len {all h w : List Up} (hi : Is all h w) (hn : (all.map Up.id).Nodup) (hA : ((h ++ w).map Up.id).Nodup) : h.length + w.length = all.length := by
  have hp : ((h ++ w).map Up.id).Perm (all.map Up.id) := (List.perm_ext_iff_of_nodup hA hn).mpr fun x => by
    simp only [List.mem_map]
    constructor
    · rintro ⟨u, hu, e⟩
      exact ⟨u, (hi.parts.mem u).mp (List.mem_append.mp hu), e⟩
    · rintro ⟨u, hu, e⟩
      exact ⟨u, List.mem_append.mpr ((hi.parts.mem u).mpr hu), e⟩
  have := hp.length_eq
  rw [List.length_map, List.length_map, List.length_append] at this
  exact this
theorem Is.nd {all h w : List Up} (hi : Is all h w) (hA : Apart all) : ((h ++ w).map Up.id).Nodup := by
  refine nodup_app hi.rh hi.rw_ fun u hu => ?_
  rcases hb : hasU h u.id with _ | _
  · rfl
  · obtain ⟨v, hv, e⟩ := hasU_iff.mp hb
    have h1 := (hi.parts.mem v).mp (.inl hv)
    have h2 := (hi.parts.mem u).mp (.inr hu)
    have e2 := hA v u h1 h2 e
    subst e2
    exact absurd ((hi.parts.1 v).mp hv).2 ((hi.parts.2 v).mp hu).2
theorem Is.okN {all h w : List Up} (hi : Is all h w) (hn : (all.map Up.id).Nodup) (he : ∀ u, u ∈ all → Wr.check u = 0) (hl : all.length ≤ 200) : Ok h w :=
  hi.ok (apart_of_nodup hn) he (by rw [hi.len hn (hi.nd (apart_of_nodup hn))]; exact hl)
end Dg
end Go.Proofs.YtmfaodapofamfaaGreat

