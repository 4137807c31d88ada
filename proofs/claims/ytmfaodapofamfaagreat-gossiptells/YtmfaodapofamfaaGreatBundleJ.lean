/- Own texts, one behind the other (part 10). -/
import Derived.Test.YtmfaodapofamfaaGreatBundleI
import Derived.Test.YtmfaodapofamfaaGreatRows
/- BehindOf: of each update whether it is one of some ids, or behind one. -/
namespace Go.Proofs.YtmfaodapofamfaaGreat
open Go.RowKit

def notB : Value → Bool
  | .bool b => !b
  | _ => false
def rowLeft (LB : Nat) (w : World) : Nat := match w.heap[LB]? with
  | some (.cells c _ _) => c.toList.countP notB
  | _ => 0
theorem rowLeft_eq {w1 W : World} {LB : Nat} {f : List Bool} (h : BRow w1 LB W f) : rowLeft LB W = Gs.left f := by
  unfold rowLeft
  rw [h.row]
  show (boolRow f).toList.countP notB = _
  unfold boolRow Gs.left
  rw [List.countP_map]
  rfl

set_option maxRecDepth 100000 in
set_option maxHeartbeats 4000000 in
theorem BehindOf_any (q : List Uv) (ids : List Wr.Id) (lv iv : Value) (w : World) (hV : UpsV w lv q) (hl : q.length ≤ 1000) (hok : ∀ y, y ∈ q → UvOk w y ∧ y.u.ps.length ≤ 6 ∧ y.u.ts.length ≤ 6) (hI : IdsV w iv ids) (hil : ids.length ≤ 9223372036854775806) (hnd : ((ups q).map Wr.Up.id).Nodup) :
    Calls Tryz.prog 61 #[lv, iv] w fun e w' => ∃ K, e = .returned (.slice (some ⟨K, 0, none⟩) q.length q.length) ∧ w'.heap[K]? = some (.cells (boolRow (Gs.known (ups q) ids)) 4) ∧ w.heap.size ≤ K ∧ Below w.heap.size w w' := by
  have HV : Hid (UpsV w lv q) := hV
  have HOK : Hid (∀ y, y ∈ q → UvOk w y ∧ y.u.ps.length ≤ 6 ∧ y.u.ts.length ≤ 6) := hok
  have HJ : Hid (Dg.Inj q) := Dg.inj_of_nodup hnd
  obtain ⟨ao, cap, rfl, _, hA⟩ := hV
  obtain ⟨ai, ci, rfl, _, hAi⟩ := hI
  have HA : Hid (UpsAt w ao q) := hA
  have HAI : Hid (IdsAt w ai ids) := hAi
  have hmk := run_make_row' (P := Tryz.prog) 92 4 (.bool false) 1 Tryz.underlying92 (by kernel_rfl) rfl .i64 .i64 q.length (by omega) (by omega)
  simp only [made_boolRow] at hmk
  have HB1 : Hid (Below w.heap.size w (w.alloc (.cells (boolRow (List.replicate q.length false)) 4))) := (Below.refl _ _).alloc (Nat.le_refl _) _
  have HW1 : Hid ((w.alloc (.cells (boolRow (List.replicate q.length false)) 4)).heap[w.heap.size]? = some (.cells (boolRow (List.replicate q.length false)) 4)) := rl_new w _
  clear hok hnd hA hAi
  go_enter Tryz.func61, Tryz.ntmps61
  go_wp2_with fail
  generalize w.alloc (.cells (boolRow (List.replicate q.length false)) 4) = w1 at *
  clear hmk
  have HST : Hid (BRow w1 w.heap.size w1 (List.replicate q.length false)) := ⟨HW1.out, grown_refl _ _⟩
  have HTO : Hid (∀ z f, BRow w1 w.heap.size z f → Below w.heap.size w z) := fun z f hz => below_row HB1.out hz.gr (Nat.le_refl _)
  clear HW1
  go_loopw [6] (fun iv wr => ∃ (k : Nat) (f : List Bool), k ≤ ids.length ∧ iv = .int .i64 k ∧ Hid (Gs.BhH q ids k f) ∧ Hid (BRow w1 w.heap.size wr f)) (fun iv _ => ids.length - (intOf iv).toNat)
  case atStart => exact ⟨0, _, Nat.zero_le _, rfl, Gs.BhH.start q ids, HST.out⟩
  case round =>
    clear HST
    obtain ⟨k, f, hk, rfl, HH, HR⟩ := hrel
    by_cases hlt : k < ids.length
    · have g1 : decide (k < ids.length) = true := decide_eq_true hlt
      have HSK : Hid (Dg.hasU (ups q) (idD ids k) = false → Gs.BhH q ids (k + 1) f) := fun h => HH.out.skip hlt h
      have HMK : Hid (∀ a, a < q.length → (uvD q a).u.id = idD ids k → Gs.BhH q ids (k + 1) (f.set a true)) := fun a ha he => HH.out.mark hlt ha he HJ.out
      have hfl : f.length = q.length := HH.out.st.len
      have hbw := HTO.out wr f HR.out
      obtain ⟨bi, oi, ei, i0, i1⟩ := ids_at HAI.out k hlt
      have j0 := cell_below hbw i0
      have j1 := cell_below hbw i1
      clear i0 i1
      generalize idD ids k = x at *
      obtain ⟨xa, xn⟩ := x
      dsimp only at j0 j1
      subst ei
      have HPL : Hid _ := PlaceOf_any q ⟨xa, xn⟩ (.slice ao q.length cap) wr (HV.out.kc (Kc.below hbw)) (by omega)
      clear hbw HH
      go_wp2_with fail
      refine Calls.mono HPL.out ?_
      rintro _ w2 ⟨r, rfl, hr, hb2⟩
      have HR2 : Hid (BRow w1 w.heap.size w2 f) := HR.out.below hb2
      clear HPL hb2 HR j0 j1
      rcases hr with ⟨rfl, hn⟩ | ⟨m, rfl, hm, hme⟩
      · have HN : Hid _ := HSK.out hn
        clear HSK HMK hn
        go_wp2_with fail
        go_roundw
        case rel => exact ⟨k + 1, f, hlt, by go_num, HN.out, HR2.out⟩
        case measure => simp [intOf]; omega
      · have d0 : decide ((m : Int) ≥ 0) = true := decide_eq_true (by omega)
        have d0' : decide (0 ≤ (m : Int)) = true := decide_eq_true (by omega)
        have HN : Hid _ := HMK.out m hm hme
        have kc := boolRow_cell HR2.out.row (i := m) (by omega)
        have kf := Lib.frozen_of_heap HR2.out.row m
        have HR3 : Hid (BRow w1 w.heap.size (w2.setCell ⟨w.heap.size, m, none⟩ (.bool true)) (f.set m true)) := HR2.out.set m true
        clear HSK HMK hme HR2
        go_wp2_with fail
        go_roundw
        case rel => exact ⟨k + 1, _, hlt, by go_num, HN.out, HR3.out⟩
        case measure => simp [intOf]; omega
    · have g1 : decide (k < ids.length) = false := decide_eq_false hlt
      have HBI : Hid (Gs.BhI q ids f) := HH.out.st
      have HHD : Hid (∀ i, i < q.length → (uvD q i).u.id ∈ ids → Gs.at_ f i = true) := fun i hi hm => HH.out.heads i hi (by rw [List.take_of_length_le (by omega)]; exact hm)
      clear HH hk hlt HAI
      generalize wr = wL at *
      go_wp2_with fail
      go_loopw [8] (fun cv wr => ∃ (f : List Bool) (ch : Bool), cv = .bool ch ∧ Hid (Gs.BhI q ids f) ∧ Hid (∀ i, i < q.length → (uvD q i).u.id ∈ ids → Gs.at_ f i = true) ∧ Hid (ch = false → ∃ f0, Gs.BhP q ids f0 0 f false) ∧ Hid (BRow w1 w.heap.size wr f)) (fun cv wr => 2 * rowLeft w.heap.size wr + bit cv)
      case atStart => exact ⟨f, true, rfl, HBI.out, HHD.out, (fun e => by cases e), HR.out⟩
      case round =>
        clear HBI HHD HR
        obtain ⟨f, ch, rfl, HBI, HHD, HFN, HR⟩ := hrel
        generalize wr = wO at *
        cases ch
        · obtain ⟨f0, hP⟩ := HFN.out rfl
          have hrow := HR.out.row
          rw [hP.known] at hrow
          have HBW : Hid (Below w.heap.size w wO) := HTO.out _ _ HR.out
          clear HFN HBI HHD HR hP
          go_wp2_with fail
          go_ret
          exact ⟨w.heap.size, rfl, hrow, Nat.le_refl _, HBW.out⟩
        · clear HFN
          have HLF : Hid (rowLeft w.heap.size wO = Gs.left f) := rowLeft_eq HR.out
          go_wp2_with fail
          go_loopw [8, 9] (fun cv iv wr => ∃ (f' : List Bool) (ch : Bool) (k : Nat), k ≤ q.length ∧ cv = .bool ch ∧ iv = .int .i64 ((k : Int) - 1) ∧ Hid (Gs.BhP q ids f k f' ch) ∧ Hid (BRow w1 w.heap.size wr f')) (fun _ iv _ => (intOf iv + 1).toNat)
          case atStart => exact ⟨f, false, q.length, Nat.le_refl _, rfl, by go_num, Gs.BhP.start HBI.out HHD.out, HR.out⟩
          case round =>
            clear HBI HHD HR
            obtain ⟨f', ch, k, hk, rfl, rfl, HP, HR⟩ := hrel
            cases k with
            | zero =>
              have em : ((0 : Nat) : Int) - 1 = -1 := by omega
              rw [em]
              clear em
              have HBI2 : Hid (Gs.BhI q ids f') := HP.out.st
              have HHD2 : Hid (∀ i, i < q.length → (uvD q i).u.id ∈ ids → Gs.at_ f' i = true) := HP.out.hd
              have HFN2 : Hid (ch = false → ∃ f0, Gs.BhP q ids f0 0 f' false) := fun e => ⟨f, by rw [← e]; exact HP.out⟩
              have HMS : Hid (2 * rowLeft w.heap.size wr + bit (.bool ch) < 2 * rowLeft w.heap.size wO + bit (.bool true)) := by
                show _ < _
                rw [rowLeft_eq HR.out, HLF.out]
                have h1 := HP.out.le
                cases ch with
                | true => have h2 := HP.out.yes rfl; simp [bit]; omega
                | false => simp [bit]; omega
              clear HP HLF
              go_wp2_with fail
              go_roundw
              case rel => exact ⟨f', ch, rfl, HBI2.out, HHD2.out, HFN2.out, HR.out⟩
              case measure => exact HMS.out
            | succ i =>
              have em : ((i + 1 : Nat) : Int) - 1 = (i : Int) := by omega
              rw [em]
              clear em
              have d0 : decide ((i : Int) ≥ 0) = true := decide_eq_true (by omega)
              have d0' : decide (0 ≤ (i : Int)) = true := decide_eq_true (by omega)
              have hlt : i < q.length := hk
              have HBM : Hid (Below w.heap.size w wr) := HTO.out _ _ HR.out
              have HQ0 : Hid (Gs.BhQ q ids f i 0 f' ch) := Gs.BhQ.start HP.out
              obtain ⟨b, off, eb, p0, p1, p2, p3, p4⟩ := ups_at HA.out i hlt
              have c0 := cell_below HBM.out p0
              have c1 := cell_below HBM.out p1
              have c2 := cell_below HBM.out p2
              have c3 := cell_below HBM.out p3
              have c4 := cell_below HBM.out p4
              clear p0 p1 p2 p3 p4 HP
              have hx := HOK.out _ (uvD_mem q i hlt)
              have hun : (Dg.under (uvD q i).u).length ≤ 12 := by unfold Dg.under; rw [List.length_append]; omega
              have HUC : Hid (Calls Tryz.prog 84 #[uvVal (uvD q i)] wr fun e w' => ∃ v, e = .returned v ∧ IdsV w' v (Dg.under (uvD q i).u) ∧ Below wr.heap.size wr w') := Under_any _ _ (hx.1.below HBM.out) hx.2
              have HFI : Hid (∀ m f2 c, Gs.BhQ q ids f i m f2 c → (Dg.under (uvD q i).u).length ≤ m ∨ Gs.at_ f2 i = false → Gs.BhP q ids f i f2 c) := fun m f2 c h1 h2 => h1.fin h2
              have HSK : Hid (∀ m f2 c, m < (Dg.under (uvD q i).u).length → Gs.BhQ q ids f i m f2 c → (∀ j, j < q.length → (uvD q j).u.id = idD (Dg.under (uvD q i).u) m → Gs.at_ f2 j = true) → Gs.BhQ q ids f i (m + 1) f2 c) := fun m f2 c h0 h1 h2 => h1.skip h0 h2
              have HMA : Hid (∀ m f2 c a, m < (Dg.under (uvD q i).u).length → Gs.BhQ q ids f i m f2 c → Gs.at_ f2 i = true → a < q.length → (uvD q a).u.id = idD (Dg.under (uvD q i).u) m → Gs.at_ f2 a = false → Gs.BhQ q ids f i (m + 1) (f2.set a true) true) := fun m f2 c a h0 h1 h2 h3 h4 h5 => h1.mark hlt h2 h0 h3 h4 h5
              obtain ⟨a1, n1, d1, a2, n2, d2, a3, n3, d3, e1, e2, e3⟩ := hx.1.forms
              clear hx
              generalize Dg.under (uvD q i).u = l at *
              generalize uvD q i = x at *
              obtain ⟨⟨⟨ua, un⟩, ps, says, ts⟩, vp, vs, vt⟩ := x
              dsimp only at *
              subst e1 e2 e3
              subst eb
              go_wp2_with fail
              refine Calls.mono HUC.out ?_
              rintro _ wU ⟨v, rfl, hI, hbU⟩
              obtain ⟨a9, c9, rfl, _, hL⟩ := hI
              have HL : Hid (IdsAt wU a9 l) := hL
              have HRU : Hid (BRow w1 w.heap.size wU f') := HR.out.below hbU
              clear c0 c1 c2 c3 c4 HUC hL hbU HBM
              go_wp2_with fail
              go_loopw [8, 11] (fun cv mv wr => ∃ (m : Nat) (f2 : List Bool) (c : Bool), m ≤ l.length ∧ cv = .bool c ∧ mv = .int .i64 m ∧ Hid (Gs.BhQ q ids f i m f2 c) ∧ Hid (BRow w1 w.heap.size wr f2) ∧ Hid (wU.grownBy wr (some w.heap.size))) (fun _ mv _ => l.length - (intOf mv).toNat)
              case atStart => exact ⟨0, f', ch, Nat.zero_le _, rfl, rfl, HQ0.out, HRU.out, grown_refl _ _⟩
              case round =>
                clear HQ0 HR
                obtain ⟨m, f2, c, hm, rfl, rfl, HQ, HR2, HG2⟩ := hrel
                generalize wr = wI at *
                have hfl : f2.length = q.length := HQ.out.st.len
                have kc := boolRow_cell HR2.out.row (i := i) (by omega)
                by_cases hml : m < l.length
                case neg =>
                  have g2 : decide (m < l.length) = false := decide_eq_false hml
                  have HN : Hid _ := HFI.out m f2 c HQ.out (.inl (by omega))
                  clear HFI HSK HMA HQ kc
                  go_wp2_with fail
                  go_roundw
                  case rel => exact ⟨f2, c, i, by omega, rfl, by go_num, HN.out, HR2.out⟩
                  case measure => simp [intOf]
                have g2 : decide (m < l.length) = true := decide_eq_true hml
                cases hfi : f2.getD i false with
                | false =>
                  rw [hfi] at kc
                  have HN : Hid _ := HFI.out m f2 c HQ.out (.inr hfi)
                  clear HFI HSK HMA HQ hfi
                  go_wp2_with fail
                  go_roundw
                  case rel => exact ⟨f2, c, i, by omega, rfl, by go_num, HN.out, HR2.out⟩
                  case measure => simp [intOf]
                | true =>
                  rw [hfi] at kc
                  have HS2 : Hid ((∀ j, j < q.length → (uvD q j).u.id = idD l m → Gs.at_ f2 j = true) → Gs.BhQ q ids f i (m + 1) f2 c) := fun h => HSK.out m f2 c hml HQ.out h
                  have HM2 : Hid (∀ a, a < q.length → (uvD q a).u.id = idD l m → Gs.at_ f2 a = false → Gs.BhQ q ids f i (m + 1) (f2.set a true) true) := fun a h3 h4 h5 => HMA.out m f2 c a hml HQ.out hfi h3 h4 h5
                  have hkn := kn_row HRU.out.row HG2.out
                  obtain ⟨bi, oi, ei, i0, i1⟩ := ids_at HL.out m hml
                  have j0 := hkn _ ⟨_, _, i0⟩ _ _ i0
                  have j1 := hkn _ ⟨_, _, i0⟩ _ _ i1
                  clear i0 i1 hkn HQ hfi
                  generalize idD l m = x at *
                  obtain ⟨xa, xn⟩ := x
                  dsimp only at j0 j1
                  subst ei
                  have HPL : Hid _ := PlaceOf_any q ⟨xa, xn⟩ _ wI (HV.out.kc (Kc.below (HTO.out _ _ HR2.out))) (by omega)
                  go_wp2_with fail
                  refine Calls.mono HPL.out ?_
                  rintro _ w2 ⟨r, rfl, hr, hb2⟩
                  have HR3 : Hid (BRow w1 w.heap.size w2 f2) := HR2.out.below hb2
                  have HG3 : Hid (wU.grownBy w2 (some w.heap.size)) := grown_below HG2.out hb2
                  clear HPL hb2 HR2 HG2 j0 j1 kc
                  rcases hr with ⟨rfl, hn⟩ | ⟨a, rfl, ha, hae⟩
                  · have HN : Hid (Gs.BhQ q ids f i (m + 1) f2 c) := HS2.out (fun j hj e => by
                      have h2 := Gs.has_uvD hj
                      rw [e, hn] at h2
                      cases h2)
                    clear HS2 HM2 hn
                    go_wp2_with fail
                    go_roundw
                    case rel => exact ⟨m + 1, f2, c, hml, rfl, by go_num, HN.out, HR3.out, HG3.out⟩
                    case measure => simp [intOf]; omega
                  · have d1 : decide ((a : Int) ≥ 0) = true := decide_eq_true (by omega)
                    have d1' : decide (0 ≤ (a : Int)) = true := decide_eq_true (by omega)
                    have ka := boolRow_cell HR3.out.row (i := a) (by omega)
                    cases hfa : f2.getD a false with
                    | true =>
                      rw [hfa] at ka
                      have HN : Hid (Gs.BhQ q ids f i (m + 1) f2 c) := HS2.out (fun j hj e => by
                        rw [HJ.out j a hj ha (e.trans hae.symm)]
                        exact hfa)
                      clear HS2 HM2 hae hfa
                      go_wp2_with fail
                      go_roundw
                      case rel => exact ⟨m + 1, f2, c, hml, rfl, by go_num, HN.out, HR3.out, HG3.out⟩
                      case measure => simp [intOf]; omega
                    | false =>
                      rw [hfa] at ka
                      have HN : Hid _ := HM2.out a ha hae hfa
                      have kf := Lib.frozen_of_heap HR3.out.row a
                      have HR4 : Hid (BRow w1 w.heap.size (w2.setCell ⟨w.heap.size, a, none⟩ (.bool true)) (f2.set a true)) := HR3.out.set a true
                      have HG4 : Hid (wU.grownBy (w2.setCell ⟨w.heap.size, a, none⟩ (.bool true)) (some w.heap.size)) := grown_trans HG3.out ⟨rfl, rfl, rfl, by simp, fun j _ hn => heap_set_other (fun e => hn (by rw [e]))⟩
                      clear HS2 HM2 hae hfa HR3 HG3
                      go_wp2_with fail
                      go_roundw
                      case rel => exact ⟨m + 1, _, true, hml, rfl, by go_num, HN.out, HR4.out, HG4.out⟩
                      case measure => simp [intOf]; omega
end Go.Proofs.YtmfaodapofamfaaGreat

/- MissingOf: the document's. -/
namespace Go.Proofs.YtmfaodapofamfaaGreat
open Go.RowKit

set_option maxRecDepth 100000 in
set_option maxHeartbeats 4000000 in
theorem MissingOf_any (hq wq : List Uv) (hv wv : Value) (ids : List Wr.Id) (iv : Value) (w : World) (hV : UpsV w hv hq) (wV : UpsV w wv wq) (hl : hq.length ≤ 200) (hok : ∀ y, y ∈ hq → UvOk w y ∧ Wr.check y.u = 0) (hI : IdsV w iv ids) (hil : ids.length ≤ 9223372036854775806) (hnd : ((ups hq).map Wr.Up.id).Nodup) :
    Calls Tryz.prog 23 #[.agg #[hv, wv], iv] w fun e w' => ∃ (v : Value) (R : List Uv), e = .returned v ∧ UpsV w' v R ∧ (∀ x, x ∈ R → UvOk w' x) ∧ ups R = Gs.missing (ups hq) ids ∧ Below w.heap.size w w' := by
  obtain ⟨ah, ch, rfl, hch, hAt⟩ := id hV
  obtain ⟨aw, cw, rfl, hcw, wAt⟩ := id wV
  obtain ⟨ai, ci, rfl, hci, hAi⟩ := id hI
  clear hch hcw wAt hci hAi wV
  have HR : Hid (∀ z, Below w.heap.size w z → UpsV z (.slice ah hq.length ch) hq ∧ (∀ y, y ∈ hq → UvOk z y) ∧ IdsV z (.slice ai ids.length ci) ids) := fun z hz => ⟨hV.kc (Kc.below hz), (fun y hy => (hok y hy).1.below hz), idsV_below hI hz⟩
  have HEA : Hid (∀ y, y ∈ hq → Wr.check y.u = 0) := fun y hy => (hok y hy).2
  clear hV hI hok hAt
  have b0 := heap_alloc_new w (.cells #[.slice ah hq.length ch, .slice aw wq.length cw] 24)
  have g0 := new_below w (.cells #[.slice ah hq.length ch, .slice aw wq.length cw] 24)
  go_enter Tryz.func23, Tryz.ntmps23
  go_upto_region 1 with fail
  generalize w.alloc (.cells #[.slice ah hq.length ch, .slice aw wq.length cw] 24) = w1 at *
  have HX1 : Hid (∀ z, Below w1.heap.size w1 z → z.cell? ⟨w.heap.size, 0, none⟩ = some (.slice ah hq.length ch)) := fun z hz => cell_below hz (by rw [Lib.cell_of_heap b0]; rfl)
  have HG1 : Hid (Below w.heap.size w w1) := g0
  clear b0 g0
  have HKB : Hid _ := BehindOf_any hq ids (.slice ah hq.length ch) (.slice ai ids.length ci) w1 (HR.out w1 HG1.out).1 (by omega) (fun y hy => ⟨(HR.out w1 HG1.out).2.1 y hy, (Wr.right_of (HEA.out y hy)).ps, (Wr.right_of (HEA.out y hy)).ts⟩) (HR.out w1 HG1.out).2.2 hil hnd
  have x0 := HX1.out w1 (Below.refl _ _)
  go_wp2_with fail
  refine Calls.mono HKB.out ?_
  rintro _ wO ⟨K, rfl, hrow, hKl, hb3⟩
  have HXO : Hid (∀ z, Below wO.heap.size wO z → z.cell? ⟨w.heap.size, 0, none⟩ = some (.slice ah hq.length ch)) := fun z hz => HX1.out z (hb3.trans (hz.mono hb3.size))
  have HGO : Hid (Below w.heap.size w wO) := HG1.out.trans (hb3.mono HG1.out.size)
  have HROW : Hid (wO.heap[K]? = some (.cells (boolRow (Gs.known (ups hq) ids)) 4)) := hrow
  clear x0 hb3 HX1 HG1 HKB hrow hKl
  go_wp2_with fail
  go_loopw [6, 7] (fun mv iv wr => ∃ (k : Nat) (R : List Uv), k ≤ hq.length ∧ iv = .int .i64 k ∧ Hid (ups R = (ups (hq.take k)).filter (fun u => !Gs.knows (ups hq) ids u)) ∧ URow wr wO.heap.size mv R ∧ Hid (R.length ≤ k ∧ ∀ x, x ∈ R → x ∈ hq) ∧ Hid (Below wO.heap.size wO wr)) (fun _ iv _ => hq.length - (intOf iv).toNat)
  case atStart => exact ⟨0, [], Nat.zero_le _, rfl, rfl, World.ownsRow_nil _ _ _ _, ⟨Nat.le_refl _, (fun x hx => by cases hx)⟩, Below.refl _ _⟩
  case round =>
    obtain ⟨k, R, hk, rfl, HU, hrw, HP, HB⟩ := hrel
    obtain ⟨aR, cR, rfl⟩ := own_slice hrw
    have hRk := HP.out.1
    have x0 := HXO.out wr HB.out
    by_cases hlt : k < hq.length
    · have g1 : decide (k < hq.length) = true := decide_eq_true hlt
      have g1' : decide ((k : Int) < (hq.length : Int)) = true := decide_eq_true (by omega)
      have HBw : Hid (Below w.heap.size w wr) := HGO.out.trans (HB.out.mono HGO.out.size)
      have hst := Gs.miss_step (ids := ids) hlt
      have kc := boolRow_cell (i := k) ((HB.out.block _ (Array.getElem?_eq_some_iff.1 HROW.out).1).trans HROW.out) (by unfold Gs.known; rw [List.length_map, ups_length]; exact hlt)
      rw [Gs.known_at hlt] at kc
      cases hkn : Gs.knows (ups hq) ids (uvD hq k).u with
      | true =>
        rw [hkn] at kc hst
        have HU2 : Hid (ups R = (ups (hq.take (k + 1))).filter (fun u => !Gs.knows (ups hq) ids u)) := by
          show _ = _
          rw [hst, HU.out]
          simp
        have HRW : Hid (URow wr wO.heap.size (.slice aR R.length cR) R) := hrw
        clear hst hkn HU hrw
        go_wp2_with fail
        go_roundw
        case rel => exact ⟨k + 1, R, hlt, by go_num, HU2.out, HRW.out, ⟨by omega, HP.out.2⟩, HB.out⟩
        case measure => simp [intOf]; omega
      | false =>
        rw [hkn] at kc hst
        have HM3 : Hid (ups (R ++ [uvD hq k]) = (ups (hq.take (k + 1))).filter (fun u => !Gs.knows (ups hq) ids u)) := by
          show _ = _
          rw [hst, ups_append, HU.out]
          simp [ups]
        have HP9 : Hid ((R ++ [uvD hq k]).length ≤ k + 1 ∧ ∀ x, x ∈ R ++ [uvD hq k] → x ∈ hq) := ⟨by rw [List.length_append, List.length_singleton]; omega, fun x hx => by
          rcases List.mem_append.mp hx with h9 | h9
          · exact HP.out.2 x h9
          · rw [List.mem_singleton.mp h9]
            exact uvD_mem hq k hlt⟩
        clear hst hkn HU HP
        have hxo := (HR.out wr HBw.out).2.1 _ (uvD_mem hq k hlt)
        obtain ⟨ah', ch', eh, _, hAA⟩ := (HR.out wr HBw.out).1
        cases eh
        obtain ⟨b, off, eb, p0, p1, p2, p3, p4⟩ := ups_at hAA k hlt
        clear hAA
        generalize uvD hq k = x at *
        obtain ⟨b1, m1, f1, b2, m2, f2, b3, m3, f3, e1, e2, e3⟩ := hxo.forms
        have HX : Hid (UvOk wr x) := hxo
        clear hxo
        obtain ⟨⟨⟨va, vn⟩, ps, says, ts⟩, vp, vs, vt⟩ := x
        dsimp only at *
        subst e1 e2 e3
        subst eb
        go_wp2_with (at_builtin; refine wp_append_ups (W := wr) rfl _ _ rfl wO.heap.size (HB.out.alloc HB.out.size _).size _ R rfl (hrw.alloc _) (some ⟨wr.heap.size, 0, none⟩) 1 [(⟨⟨⟨va, vn⟩, ps, says, ts⟩, .slice b1 m1 f1, .slice b2 m2 f2, .slice b3 m3 f3⟩ : Uv)] rfl (fun h => by cases h) (ups_one _ ⟨⟨⟨va, vn⟩, ps, says, ts⟩, .slice b1 m1 f1, .slice b2 m2 f2, .slice b3 m3 f3⟩) (one_ok HX.out) (by rw [List.length_singleton]; omega) ?_; intro vs9 z9 hown9 hgrow9)
        have hB9 : Below wO.heap.size wO z9 := (HB.out.alloc HB.out.size _).grown hgrow9 (HB.out.alloc HB.out.size _).size (fun j e => (hrw.lt j e).1)
        obtain ⟨ao9, cap9, rfl⟩ := own_slice hown9
        have RF : Hid (URow z9 wO.heap.size (.slice ao9 (R ++ [(⟨⟨⟨va, vn⟩, ps, says, ts⟩, .slice b1 m1 f1, .slice b2 m2 f2, .slice b3 m3 f3⟩ : Uv)]).length cap9) (R ++ [(⟨⟨⟨va, vn⟩, ps, says, ts⟩, .slice b1 m1 f1, .slice b2 m2 f2, .slice b3 m3 f3⟩ : Uv)])) := hown9
        have B9 : Hid (Below wO.heap.size wO z9) := hB9
        clear hB9 hown9 hgrow9 hrw HB p0 p1 p2 p3 p4 kc x0
        go_wp2_with fail
        go_roundw
        case rel => exact ⟨k + 1, _, hlt, by go_num, HM3.out, RF.out, HP9.out, B9.out⟩
        case measure => simp [intOf]; omega
    · have g1 : decide (k < hq.length) = false := decide_eq_false hlt
      have g1' : decide ((k : Int) < (hq.length : Int)) = false := decide_eq_false (by omega)
      have HF : Hid (ups R = Gs.missing (ups hq) ids) := by
        show _ = _
        rw [HU.out, List.take_of_length_le (by omega)]
        rfl
      have HUV : Hid (UpsV wr (.slice aR R.length cR) R) := own_ups hrw
      have HBw : Hid (Below w.heap.size w wr) := HGO.out.trans (HB.out.mono HGO.out.size)
      clear hrw HU
      go_wp2_with fail
      go_ret
      exact ⟨_, R, rfl, HUV.out, (fun x hx => (HR.out wr HBw.out).2.1 x (HP.out.2 x hx)), HF.out, HBw.out⟩
end Go.Proofs.YtmfaodapofamfaaGreat

/- TellOf: the document's. -/
namespace Go.Proofs.YtmfaodapofamfaaGreat
open Go.RowKit

def RoB (all : List Wr.Up) (ob : Bool) (w : World) (v1 v2 : Value) : Prop := ob = true → RepI all w v1 v2
def AoN (all : List Wr.Up) (ob : Bool) (w : World) (v : Value) : Prop := ∃ a1 n1 c1 a2 n2 c2, v = .tuple #[.agg #[.slice a1 n1 c1, .slice a2 n2 c2], .bool ob] ∧ RoB all ob w (.slice a1 n1 c1) (.slice a2 n2 c2)
theorem AoN.kn {all : List Wr.Up} {ob : Bool} {w w' : World} {v : Value} (h : AoN all ob w v) (k : Kn w w') : AoN all ob w' v := by
  obtain ⟨a1, n1, c1, a2, n2, c2, e, h⟩ := h
  exact ⟨a1, n1, c1, a2, n2, c2, e, fun e => (h e).kn k⟩
def RoN (all : List Wr.Up) (ob : Bool) (w : World) (v : Value) : Prop := ∃ a1 n1 c1 a2 n2 c2, v = .agg #[.slice a1 n1 c1, .slice a2 n2 c2] ∧ RoB all ob w (.slice a1 n1 c1) (.slice a2 n2 c2)
theorem RoN.kn {all : List Wr.Up} {ob : Bool} {w w' : World} {v : Value} (h : RoN all ob w v) (k : Kn w w') : RoN all ob w' v := by
  obtain ⟨a1, n1, c1, a2, n2, c2, e, h⟩ := h
  exact ⟨a1, n1, c1, a2, n2, c2, e, fun e => (h e).kn k⟩
def toD (s B : Nat) (all : List Wr.Up) (ob : Bool) (a : Act) (w : World) : Prop := ∃ F, a.tmps.getD s undef = .pointer (some ⟨F, 0, none⟩) ∧ B ≤ F ∧ ∃ a1 n1 c1 a2 n2 c2, w.heap[F]? = some (.cells #[.slice a1 n1 c1, .slice a2 n2 c2] 24) ∧ RoB all ob w (.slice a1 n1 c1) (.slice a2 n2 c2)
theorem addof_rep {all : List Wr.Up} (hf : Fair all) (v1 v2 : Value) (x : Uv) (w : World) (h : RepI all w v1 v2) (hx : UvOk w x) (hc : Wr.check x.u = 0) (ob : Bool) (hob : ob = decide ((Dg.more all x.u).length ≤ 200)) :
    Calls Tryz.prog 11 #[.agg #[v1, v2], uvVal x] w fun e w' => ∃ v, e = .returned v ∧ AoN (Dg.more all x.u) ob w' v ∧ Below w.heap.size w w' := by
  obtain ⟨hq, wq, h1, h2, h3, h4, o, hn⟩ := h.ok hf
  have hi : ∀ y : Uv, Wr.check y.u = 0 → y.u.ps.length ≤ 6 ∧ y.u.ts.length ≤ 6 := fun y hy => ⟨(Wr.right_of hy).ps, (Wr.right_of hy).ts⟩
  have hmem : ∀ v, v ∈ ups hq ++ ups wq ↔ v ∈ all := fun v => by rw [List.mem_append]; exact h4.parts.mem v
  refine (AddOf_any hq wq v1 v2 x w h1 h2 (by have := hf.len; omega) (fun y hy => ⟨h3 y hy, hi y (o.each y.u (by rw [← ups_append]; exact List.mem_map_of_mem hy))⟩) ⟨hx, hi x hc⟩ (by rw [ups_append]; exact o.nd)).mono ?_
  rintro e w' ⟨o1v, o2v, c, l, b, rfl, k1, k2, k3, k4, k5⟩
  obtain ⟨a1, c1, rfl, hj1⟩ := id k1
  obtain ⟨a2, c2, rfl, hj2⟩ := id k2
  have hlen := hf.len
  have key : b = ob ∧ (b = true → RepI (Dg.more all x.u) w' (.slice a1 c.length c1) (.slice a2 l.length c2)) := by
    rcases k4 with ⟨ha, rfl, rfl, rfl⟩ | ⟨ha, hl, rfl, rfl, rfl⟩ | ⟨ha, hl, rfl, hs⟩
    · rw [Dg.hasU_congr hmem] at ha
      have e : Dg.more all x.u = all := by unfold Dg.more; rw [ha]; rfl
      refine ⟨by rw [hob, e]; exact (decide_eq_true hlen).symm, fun _ => ?_⟩
      rw [e]
      exact ⟨_, _, k1, k2, k3, h4⟩
    · rw [Dg.hasU_congr hmem] at ha
      have e : (Dg.more all x.u).length = all.length + 1 := by unfold Dg.more; rw [ha]; simp
      exact ⟨by rw [hob]; exact (decide_eq_false (by omega)).symm, fun h => by cases h⟩
    · have hs2 : Dg.settle (fun c x => Dg.ins x c) (ups hq) (Dg.ins x.u (ups wq)) = (ups c, ups l) := hs
      have h6 := Dg.is_add o ha
      rw [hs2] at h6
      rw [Dg.hasU_congr hmem] at ha
      have e : (Dg.more all x.u).length = all.length + 1 := by unfold Dg.more; rw [ha]; simp
      exact ⟨by rw [hob]; exact (decide_eq_true (by omega)).symm, fun _ => ⟨_, _, k1, k2, k3, h4.on h6⟩⟩
  obtain ⟨rfl, hr⟩ := key
  exact ⟨_, rfl, ⟨a1, _, c1, a2, _, c2, rfl, hr⟩, k5⟩
def toT (B : Nat) (u1 : Option Addr) (n1 g1 : Nat) (u2 : Option Addr) (n2 g2 : Nat) (b f nA cA k o : Nat) (va vn : Int) (b1 : Option Addr) (m1 f1 : Nat) (b2 : Option Addr) (m2 f2 : Nat) (b3 : Option Addr) (m3 f3 : Nat) (all : List Wr.Up) (ob : Bool) (tQ : Nat) (vQ : Value) (WQ : World) : Prop :=
  match tQ with
  | 16 => vQ = .agg #[.slice u1 n1 g1, .slice u2 n2 g2]
  | 17 => vQ = .slice (some ⟨b, f, none⟩) nA cA
  | 18 => vQ = .int .i64 k
  | 19 => vQ = .pointer (some ⟨b, o, none⟩)
  | 20 => vQ = .agg #[.int .i64 va, .int .i64 vn, .slice b1 m1 f1, .slice b2 m2 f2, .slice b3 m3 f3]
  | 21 => AoN all ob WQ vQ
  | 15 => AoN all ob WQ vQ
  | 22 => RoN all ob WQ vQ
  | 23 => vQ = .bool ob
  | 7 => Bxp B WQ vQ
  | 8 => vQ = .bool ob
  | _ => True
theorem toT_mono (B : Nat) (u1 : Option Addr) (n1 g1 : Nat) (u2 : Option Addr) (n2 g2 : Nat) (b f nA cA k o : Nat) (va vn : Int) (b1 : Option Addr) (m1 f1 : Nat) (b2 : Option Addr) (m2 f2 : Nat) (b3 : Option Addr) (m3 f3 : Nat) (all : List Wr.Up) (ob : Bool) (C : Nat) (tQ : Nat) (vQ : Value) (W W' : World) (hb : Rb C W W') (h : toT B u1 n1 g1 u2 n2 g2 b f nA cA k o va vn b1 m1 f1 b2 m2 f2 b3 m3 f3 all ob tQ vQ W) : toT B u1 n1 g1 u2 n2 g2 b f nA cA k o va vn b1 m1 f1 b2 m2 f2 b3 m3 f3 all ob tQ vQ W' := by
  revert h
  unfold toT
  split <;> (intro h; first | exact h | exact AoN.kn h hb.2.1 | exact RoN.kn h hb.2.1 | exact Bxp.rb h hb)

set_option maxRecDepth 100000 in
set_option maxHeartbeats 4000000 in
theorem TellOf_any (hq wq R : List Uv) (hv wv rv : Value) (w : World) (hV : UpsV w hv hq) (wV : UpsV w wv wq) (rV : UpsV w rv R) (hok : ∀ y, y ∈ hq ++ wq → UvOk w y) (rok : ∀ y, y ∈ R → UvOk w y ∧ Wr.check y.u = 0) (hrl : R.length ≤ 1000) (o1 : Dg.Ok (ups hq) (ups wq)) :
    Calls Tryz.prog 24 #[.agg #[hv, wv], rv] w fun e w' => ∃ a1 n1 c1 a2 n2 c2, e = .returned (.tuple #[.agg #[.slice a1 n1 c1, .slice a2 n2 c2], .bool (decide (Gs.tellErr (ups hq ++ ups wq) (ups R) = 0))]) ∧ ReE (Dg.mores (ups hq ++ ups wq) (ups R)) (Gs.tellErr (ups hq ++ ups wq) (ups R)) w' (.slice a1 n1 c1) (.slice a2 n2 c2) ∧ Below w.heap.size w w' := by
  obtain ⟨ah, ch, rfl, q1, q2⟩ := id hV
  obtain ⟨aw, cw, rfl, q3, q4⟩ := id wV
  obtain ⟨ar, cr, rfl, q5, q6⟩ := id rV
  clear q1 q2 q3 q4 q5 q6
  have hf1 := o1.few
  rw [ups_length, ups_length] at hf1
  have HR : Hid (∀ z, Kn w z → UpsV z (.slice ah hq.length ch) hq ∧ UpsV z (.slice aw wq.length cw) wq ∧ (∀ y, y ∈ hq ++ wq → UvOk z y)) := fun z hz => ⟨hV.kn hz, wV.kn hz, fun y hy => (hok y hy).kn hz⟩
  have HRV : Hid (UpsV w (.slice ar R.length cr) R) := rV
  have HRO : Hid (∀ y, y ∈ R → UvOk w y ∧ Wr.check y.u = 0) := rok
  have HO1 : Hid (Dg.Ok (ups hq) (ups wq)) := o1
  clear hV wV rV hok rok o1
  have hu0 := heap_alloc_new w (.cells #[.slice ah hq.length ch, .slice aw wq.length cw] 24)
  have hg0 := new_below w (.cells #[.slice ah hq.length ch, .slice aw wq.length cw] 24)
  have hz0 : (w.alloc (.cells #[.slice ah hq.length ch, .slice aw wq.length cw] 24)).heap.size = w.heap.size + 1 := by simp
  have hu1 := heap_alloc_new (w.alloc (.cells #[.slice ah hq.length ch, .slice aw wq.length cw] 24)) (.cells #[.slice none 0 0, .slice none 0 0] 24)
  have hg1 := new_below (w.alloc (.cells #[.slice ah hq.length ch, .slice aw wq.length cw] 24)) (.cells #[.slice none 0 0, .slice none 0 0] 24)
  rw [hz0] at hu1
  have hu0' := (hg1.block _ (by rw [hz0]; omega)).trans hu0
  have hgg := hg0.trans (hg1.mono hg0.size)
  go_enter Tryz.func24, Tryz.ntmps24
  go_upto_region 1 with fail
  clear hu0 hg0 hz0 hg1
  generalize (w.alloc (.cells #[.slice ah hq.length ch, .slice aw wq.length cw] 24)).alloc (.cells #[.slice none 0 0, .slice none 0 0] 24) = w1 at *
  have hk1 := HR.out w1 (Kn.below hgg)
  have HB0 : Hid (BoxI (Dg.mores (ups hq ++ ups wq) []) w1 w.heap.size) := ⟨_, _, _, _, _, _, hu0', _, _, hk1.1, hk1.2.1, hk1.2.2, HO1.out.is⟩
  have HN0 : Hid (w1.heap[w.heap.size + 1]? = some (.cells #[.slice none 0 0, .slice none 0 0] 24)) := hu1
  have HR0 : Hid (Rb w.heap.size w w1) := Rb.of hgg (Nat.le_refl _)
  have HL0 : Hid (((ups hq ++ ups wq)).length ≤ 200) := by show List.length _ ≤ 200; rw [List.length_append, ups_length, ups_length]; exact hf1
  have HFR : Hid (∀ k, (Dg.mores (ups hq ++ ups wq) (ups (R.take k))).length ≤ 200 → Fair (Dg.mores (ups hq ++ ups wq) (ups (R.take k)))) := fun k hk => by
    refine ⟨Dg.mores_nodup HO1.out.nd, Dg.mores_check HO1.out.each (fun u hu => ?_), hk⟩
    obtain ⟨y, hy, rfl⟩ := List.mem_map.mp hu
    exact (HRO.out y (List.mem_of_mem_take hy)).2
  clear hu0' hu1 hgg hk1
  go_wp2_with fail
  go_loopw [6] (fun iv wr => ∃ k : Nat, k ≤ R.length ∧ iv = .int .i64 k ∧ Hid (BoxI (Dg.mores (ups hq ++ ups wq) (ups (R.take k))) wr w.heap.size) ∧ Hid ((Dg.mores (ups hq ++ ups wq) (ups (R.take k))).length ≤ 200) ∧ Hid (Rb w.heap.size w wr) ∧ Hid (wr.heap[w.heap.size + 1]? = some (.cells #[.slice none 0 0, .slice none 0 0] 24))) (fun iv _ => R.length - (intOf iv).toNat)
  case atStart => exact ⟨0, Nat.zero_le _, rfl, HB0.out, HL0.out, HR0.out, HN0.out⟩
  case round =>
    clear HB0 HN0 HR0 HL0
    obtain ⟨k, hk, rfl, HA, HLN, HRB, HNN⟩ := hrel
    by_cases hlt : k < R.length
    · have g0 : decide (k < R.length) = true := decide_eq_true hlt
      have HSA : Hid (Dg.mores (ups hq ++ ups wq) (ups (R.take (k + 1))) = Dg.more (Dg.mores (ups hq ++ ups wq) (ups (R.take k))) (uvD R k).u) := by show _ = _; rw [uvD_take R k hlt, ups_append]; exact Dg.mores_snoc _ _ _
      have HOV : Hid (200 < (Dg.mores (ups hq ++ ups wq) (ups (R.take (k + 1)))).length → Gs.tellErr (ups hq ++ ups wq) (ups R) = 2) := fun h => by
        have e : ups R = ups (R.take (k + 1)) ++ ups (R.drop (k + 1)) := by rw [← ups_append, List.take_append_drop]
        rw [e]
        exact Gs.tell_over h
      have HF1 : Hid _ := HFR.out k HLN.out
      obtain ⟨ar', cr', er, _, hAA⟩ := HRV.out.kn HRB.out.2.1
      cases er
      obtain ⟨b, off, eb, p0, p1, p2, p3, p4⟩ := ups_at hAA k hlt
      have hxo : UvOk wr (uvD R k) ∧ Wr.check (uvD R k).u = 0 := ⟨(HRO.out _ (uvD_mem R k hlt)).1.kn HRB.out.2.1, (HRO.out _ (uvD_mem R k hlt)).2⟩
      clear hAA
      generalize Dg.mores (ups hq ++ ups wq) (ups (R.take k)) = M at *
      generalize uvD R k = x at *
      obtain ⟨b1, m1, f1, b2, m2, f2, b3, m3, f3, e1', e2', e3'⟩ := hxo.1.forms
      have HX : Hid (UvOk wr x ∧ Wr.check x.u = 0) := hxo
      clear hxo
      obtain ⟨⟨⟨va, vn⟩, ps, says, ts⟩, vp, vs, vt⟩ := x
      dsimp only at *
      subst e1' e2' e3'
      have HXU : Hid (∀ z, Kn wr z → z.cell? ⟨b, off + k * 5, none⟩ = some (.int .i64 va) ∧ z.cell? ⟨b, off + k * 5 + 1, none⟩ = some (.int .i64 vn) ∧ z.cell? ⟨b, off + k * 5 + 2, none⟩ = some (.slice b1 m1 f1) ∧ z.cell? ⟨b, off + k * 5 + 3, none⟩ = some (.slice b2 m2 f2) ∧ z.cell? ⟨b, off + k * 5 + 4, none⟩ = some (.slice b3 m3 f3)) := fun z hz => ⟨hz _ ⟨_, _, p0⟩ _ _ p0, hz _ ⟨_, _, p0⟩ _ _ p1, hz _ ⟨_, _, p0⟩ _ _ p2, hz _ ⟨_, _, p0⟩ _ _ p3, hz _ ⟨_, _, p0⟩ _ _ p4⟩
      clear p0 p1 p2 p3 p4
      subst eb
      obtain ⟨u1, n1, g1, u2, n2, g2, hFh, hRep⟩ := HA.out
      have hXl := HA.out.lt
      obtain ⟨ob, HOB⟩ : ∃ ob, Hid (ob = decide ((Dg.more M ⟨⟨va, vn⟩, ps, says, ts⟩).length ≤ 200)) := ⟨_, rfl⟩
      have HBC : Hid (∀ z, Below wr.heap.size wr z → z.cell? ⟨w.heap.size, 0, none⟩ = some (.slice u1 n1 g1) ∧ z.cell? ⟨w.heap.size, 1, none⟩ = some (.slice u2 n2 g2)) := fun z hz => ⟨cell_below hz (by rw [Lib.cell_of_heap hFh]; rfl), cell_below hz (by rw [Lib.cell_of_heap hFh]; rfl)⟩
      have HAD : Hid (∀ z, Rb wr.heap.size wr z → Calls Tryz.prog 11 #[.agg #[.slice u1 n1 g1, .slice u2 n2 g2], uvVal ⟨⟨⟨va, vn⟩, ps, says, ts⟩, .slice b1 m1 f1, .slice b2 m2 f2, .slice b3 m3 f3⟩] z fun e w' => ∃ v, e = .returned v ∧ AoN (Dg.more M ⟨⟨va, vn⟩, ps, says, ts⟩) ob w' v ∧ Below z.heap.size z w') := fun z hz => addof_rep HF1.out _ _ ⟨⟨⟨va, vn⟩, ps, says, ts⟩, .slice b1 m1 f1, .slice b2 m2 f2, .slice b3 m3 f3⟩ z (hRep.kn hz.2.1) (HX.out.1.kn hz.2.1) HX.out.2 ob HOB.out
      clear hFh hRep
      go_upto_region 4 with fail
      refine wp_region_tabR (Rb wr.heap.size) (fun _ _ _ => Rb.trans) (fun _ => Rb.draw _ _) (toT wr.heap.size u1 n1 g1 u2 n2 g2 b off R.length cr k (off + k * 5) va vn b1 m1 f1 b2 m2 f2 b3 m3 f3 (Dg.more M ⟨⟨va, vn⟩, ps, says, ts⟩) ob) 10 (toD 7 wr.heap.size (Dg.more M ⟨⟨va, vn⟩, ps, says, ts⟩) ob) (by decide) (by kernel_rfl) (by kernel_rfl) (toT_mono _ _ _ _ _ _ _ _ _ _ _ _ _ _ _ _ _ _ _ _ _ _ _ _ _ _ _) ?hop4 ?hend4
      case hop4 =>
        refine AllOpsI.cons (fun a y h => ?_) ?_
        · have e2 : a.eval (.tmp 2) = (.pointer (some ⟨w.heap.size, 0, none⟩) : Value) := h.old 2 (by kernel_rfl)
          obtain ⟨q0, q1⟩ := HBC.out y h.below.1
          refine opOkR_val (v := .agg #[.slice u1 n1 g1, .slice u2 n2 g2]) (w' := y) (wanted_none rfl) ?_ (fun t ht => by cases ht; exact rfl) (Rb.refl _ _) (fun h9 => absurd h9 (by decide)) (fun h9 => absurd h9 (by decide))
          have ec : ∀ v, a.eval (.const v) = v := fun _ => rfl
          generalize a.eval = ev at *
          clear h
          go_simp
        refine AllOpsI.cons (fun a y h => ?_) ?_
        · have e1 : a.eval (.tmp 1) = (.slice (some ⟨b, off, none⟩) R.length cr : Value) := h.old 1 (by kernel_rfl)
          refine opOkR_val (v := .slice (some ⟨b, off, none⟩) R.length cr) (w' := y) (wanted_none rfl) ?_ (fun t ht => by cases ht; exact rfl) (Rb.refl _ _) (fun h9 => absurd h9 (by decide)) (fun h9 => absurd h9 (by decide))
          have ec : ∀ v, a.eval (.const v) = v := fun _ => rfl
          generalize a.eval = ev at *
          clear h
          go_simp
        refine AllOpsI.cons (fun a y h => ?_) ?_
        · have e6 : a.eval (.tmp 6) = (.int .i64 k : Value) := h.old 6 (by kernel_rfl)
          refine opOkR_val (v := .int .i64 k) (w' := y) (wanted_none rfl) ?_ (fun t ht => by cases ht; exact rfl) (Rb.refl _ _) (fun h9 => absurd h9 (by decide)) (fun h9 => absurd h9 (by decide))
          have ec : ∀ v, a.eval (.const v) = v := fun _ => rfl
          generalize a.eval = ev at *
          clear h
          go_simp
        refine AllOpsI.cons (fun a y h => ?_) ?_
        · have e17 : a.eval (.tmp 17) = (.slice (some ⟨b, off, none⟩) R.length cr : Value) := h.of 17 (by kernel_rfl)
          have e18 : a.eval (.tmp 18) = (.int .i64 k : Value) := h.of 18 (by kernel_rfl)
          refine opOkR_val (v := .pointer (some ⟨b, (off + k * 5), none⟩)) (w' := y) (wanted_none rfl) ?_ (fun t ht => by cases ht; exact rfl) (Rb.refl _ _) (fun h9 => absurd h9 (by decide)) (fun h9 => absurd h9 (by decide))
          have ec : ∀ v, a.eval (.const v) = v := fun _ => rfl
          generalize a.eval = ev at *
          clear h
          go_simp
        refine AllOpsI.cons (fun a y h => ?_) ?_
        · have e19 : a.eval (.tmp 19) = (.pointer (some ⟨b, (off + k * 5), none⟩) : Value) := h.of 19 (by kernel_rfl)
          obtain ⟨q0, q1, q2, q3, q4⟩ := HXU.out y h.below.2.1
          refine opOkR_val (v := .agg #[.int .i64 va, .int .i64 vn, .slice b1 m1 f1, .slice b2 m2 f2, .slice b3 m3 f3]) (w' := y) (wanted_none rfl) ?_ (fun t ht => by cases ht; exact rfl) (Rb.refl _ _) (fun h9 => absurd h9 (by decide)) (fun h9 => absurd h9 (by decide))
          have ec : ∀ v, a.eval (.const v) = v := fun _ => rfl
          generalize a.eval = ev at *
          clear h
          go_simp
        refine AllOpsI.cons (fun a y h => ?_) ?_
        · have e16 : a.eval (.tmp 16) = (.agg #[.slice u1 n1 g1, .slice u2 n2 g2] : Value) := h.of 16 (by kernel_rfl)
          have e20 : a.eval (.tmp 20) = (.agg #[.int .i64 va, .int .i64 vn, .slice b1 m1 f1, .slice b2 m2 f2, .slice b3 m3 f3] : Value) := h.of 20 (by kernel_rfl)
          refine opOkR_call (f := 11) (args := #[.agg #[.slice u1 n1 g1, .slice u2 n2 g2], .agg #[.int .i64 va, .int .i64 vn, .slice b1 m1 f1, .slice b2 m2 f2, .slice b3 m3 f3]]) (wanted_none rfl) ?_ ?_
          · have ec : ∀ v, a.eval (.const v) = v := fun _ => rfl
            have ef : ∀ f, a.eval (.func f) = .func (.func f) #[] #[] := fun _ => rfl
            generalize a.eval = ev at *
            clear h
            go_simp
          · refine Calls.mono (HAD.out y h.below) ?_
            rintro _ y2 ⟨v, rfl, hA9, hb2⟩
            exact ⟨_, rfl, fun t ht => by cases ht; exact hA9, Rb.of hb2 h.below.1.size, fun h9 => absurd h9 (by decide), fun h9 => absurd h9 (by decide)⟩
        refine AllOpsI.cons (fun a y h => ?_) ?_
        · have t21 : AoN (Dg.more M ⟨⟨va, vn⟩, ps, says, ts⟩) ob y (a.eval (.tmp 21)) := h.of 21 (by kernel_rfl)
          obtain ⟨d1, d2, d3, d4, d5, d6, e21, hR⟩ := t21
          refine opOkR_val (v := .tuple #[.agg #[.slice d1 d2 d3, .slice d4 d5 d6], .bool ob]) (w' := y) (wanted_none rfl) ?_ (fun t ht => by cases ht; exact ⟨_, _, _, _, _, _, rfl, hR⟩) (Rb.refl _ _) (fun h9 => absurd h9 (by decide)) (fun h9 => absurd h9 (by decide))
          have ec : ∀ v, a.eval (.const v) = v := fun _ => rfl
          generalize a.eval = ev at *
          clear h
          go_simp
        refine AllOpsI.cons (fun a y h => ?_) ?_
        · have t15 : AoN (Dg.more M ⟨⟨va, vn⟩, ps, says, ts⟩) ob y (a.eval (.tmp 15)) := h.of 15 (by kernel_rfl)
          obtain ⟨d1, d2, d3, d4, d5, d6, e15, hR⟩ := t15
          refine opOkR_val (v := .agg #[.slice d1 d2 d3, .slice d4 d5 d6]) (w' := y) (wanted_none rfl) ?_ (fun t ht => by cases ht; exact ⟨_, _, _, _, _, _, rfl, hR⟩) (Rb.refl _ _) (fun h9 => absurd h9 (by decide)) (fun h9 => absurd h9 (by decide))
          have ec : ∀ v, a.eval (.const v) = v := fun _ => rfl
          generalize a.eval = ev at *
          clear h
          go_simp
        refine AllOpsI.cons (fun a y h => ?_) ?_
        · have t15 : AoN (Dg.more M ⟨⟨va, vn⟩, ps, says, ts⟩) ob y (a.eval (.tmp 15)) := h.of 15 (by kernel_rfl)
          obtain ⟨d1, d2, d3, d4, d5, d6, e15, hR⟩ := t15
          refine opOkR_val (v := .bool ob) (w' := y) (wanted_none rfl) ?_ (fun t ht => by cases ht; exact rfl) (Rb.refl _ _) (fun h9 => absurd h9 (by decide)) (fun _ _ hD => by obtain ⟨F, e3, h8, h7⟩ := hD; exact ⟨F, (put_get_ne (by decide)).trans e3, h8, h7⟩)
          have ec : ∀ v, a.eval (.const v) = v := fun _ => rfl
          generalize a.eval = ev at *
          clear h
          go_simp
        refine AllOpsI.cons (fun a y h => ?_) ?_
        · refine opOkR_val (v := .pointer (some ⟨y.heap.size, 0, none⟩)) (w' := y.alloc (.cells #[.slice none 0 0, .slice none 0 0] 24)) (wanted_none rfl) ?_ (fun t ht => by cases ht; exact bxp_new _ y h.below.1.size) (Rb.of (new_below y _) h.below.1.size) (fun h9 => absurd h9 (by decide)) (fun h9 => absurd h9 (by decide))
          have ec : ∀ v, a.eval (.const v) = v := fun _ => rfl
          generalize a.eval = ev at *
          clear h
          go_simp
        refine AllOpsI.cons (fun a y h => ?_) ?_
        · have t7 : Bxp wr.heap.size y (a.eval (.tmp 7)) := h.of 7 (by kernel_rfl)
          have t22 : RoN (Dg.more M ⟨⟨va, vn⟩, ps, says, ts⟩) ob y (a.eval (.tmp 22)) := h.of 22 (by kernel_rfl)
          obtain ⟨d1, d2, d3, d4, d5, d6, e22, hR⟩ := t22
          obtain ⟨F, e7, ⟨r1, r2, r3, r4, r5, r6, hF⟩, hFl⟩ := t7
          have z0 : y.cell? ⟨F, 0, none⟩ = some (.slice r1 r2 r3) := by rw [Lib.cell_of_heap hF]; rfl
          have y0 := Lib.frozen_of_heap hF 0
          have k1 : (y.setCell ⟨F, 0, none⟩ (.slice d1 d2 d3)).heap[F]? = some (.cells #[.slice d1 d2 d3, .slice r4 r5 r6] 24) := by rw [Lib.heap_setCell_same hF]; rfl
          have z1 : (y.setCell ⟨F, 0, none⟩ (.slice d1 d2 d3)).cell? ⟨F, 1, none⟩ = some (.slice r4 r5 r6) := by rw [Lib.cell_of_heap k1]; rfl
          have y1 := Lib.frozen_of_heap k1 1
          refine opOkR_void (w' := two y F (.slice d1 d2 d3) (.slice d4 d5 d6)) (wanted_none rfl) ?_ rfl (Rb.two hF hFl) (fun _ => ⟨F, e7, hFl, _, _, _, _, _, _, two_heap hF, fun e => (hR e).kn (two_kn hF)⟩) (fun _ h9 => absurd rfl h9)
          unfold two
          generalize a.eval = ev at *
          clear h hR
          go_simp
        refine AllOpsI.cons (fun a y h => ?_) ?_
        · have e23 : a.eval (.tmp 23) = (.bool ob : Value) := h.of 23 (by kernel_rfl)
          refine opOkR_val (v := .bool ob) (w' := y) (wanted_none rfl) ?_ (fun t ht => by cases ht; exact rfl) (Rb.refl _ _) (fun h9 => absurd h9 (by decide)) (fun _ _ hD => by obtain ⟨F, e3, h8, h7⟩ := hD; exact ⟨F, (put_get_ne (by decide)).trans e3, h8, h7⟩)
          have ec : ∀ v, a.eval (.const v) = v := fun _ => rfl
          generalize a.eval = ev at *
          clear h
          go_simp
        exact AllOpsI.nil
      rintro ⟨tm, df⟩ y4 hI hD hdE hszE hstE hTE
      obtain ⟨F, kb, hFl, d1, d2, d3, d4, d5, d6, hFh, hRo⟩ := hD
      have ke : tm.getD 8 undef = (.bool ob : Value) := hTE 8 (by decide)
      obtain rfl : df = [] := hdE
      have HRB4 : Hid (Rb w.heap.size w y4) := HRB.out.trans ⟨hI.1.mono HRB.out.1.size, hI.2⟩
      have HN4 : Hid (y4.heap[w.heap.size + 1]? = some (.cells #[.slice none 0 0, .slice none 0 0] 24)) := (hI.1.block _ (Array.getElem?_eq_some_iff.1 HNN.out).1).trans HNN.out
      have HX4 : Hid (BoxI M y4 w.heap.size) := HA.out.rb hI hXl
      have HF4 : Hid (y4.heap[F]? = some (.cells #[.slice d1 d2 d3, .slice d4 d5 d6] 24)) := hFh
      have HRO4 : Hid (RoB (Dg.more M ⟨⟨va, vn⟩, ps, says, ts⟩) ob y4 (.slice d1 d2 d3) (.slice d4 d5 d6)) := hRo
      clear hI hTE hRo hFh HRB HNN HA HBC HAD HXU HX
      have hF8 := tmps_fold [16, 17, 18, 19, 20, 21, 15, 22, 23, 7, 8] tm _ (hszE.trans (by rfl)) hstE
      clear hszE hstE
      simp only [] at kb
      simp only [List.foldl_cons, List.foldl_nil, kb, ke] at hF8
      clear kb ke
      generalize tm.getD 16 undef = x16 at hF8
      generalize tm.getD 17 undef = x17 at hF8
      generalize tm.getD 18 undef = x18 at hF8
      generalize tm.getD 19 undef = x19 at hF8
      generalize tm.getD 20 undef = x20 at hF8
      generalize tm.getD 21 undef = x21 at hF8
      generalize tm.getD 15 undef = x15 at hF8
      generalize tm.getD 22 undef = x22 at hF8
      generalize tm.getD 23 undef = x23 at hF8
      simp only [List.setIfInBounds_toArray, List.set_cons_zero, List.set_cons_succ] at hF8
      subst hF8
      cases ob with
      | true =>
        have hov : (Dg.more M ⟨⟨va, vn⟩, ps, says, ts⟩).length ≤ 200 := of_decide_eq_true HOB.out.symm
        have hRn := HRO4.out rfl
        obtain ⟨r1, r2, r3, r4, r5, r6, hF, _⟩ := HX4.out
        have c0 : y4.cell? ⟨F, 0, none⟩ = some (.slice d1 d2 d3) := by rw [Lib.cell_of_heap HF4.out]; rfl
        have c1 : y4.cell? ⟨F, 1, none⟩ = some (.slice d4 d5 d6) := by rw [Lib.cell_of_heap HF4.out]; rfl
        have z0 : y4.cell? ⟨w.heap.size, 0, none⟩ = some (.slice r1 r2 r3) := by rw [Lib.cell_of_heap hF]; rfl
        have y0 := Lib.frozen_of_heap hF 0
        have k1 : (y4.setCell ⟨w.heap.size, 0, none⟩ (.slice d1 d2 d3)).heap[w.heap.size]? = some (.cells #[.slice d1 d2 d3, .slice r4 r5 r6] 24) := by rw [Lib.heap_setCell_same hF]; rfl
        have z1 : (y4.setCell ⟨w.heap.size, 0, none⟩ (.slice d1 d2 d3)).cell? ⟨w.heap.size, 1, none⟩ = some (.slice r4 r5 r6) := by rw [Lib.cell_of_heap k1]; rfl
        have y1 := Lib.frozen_of_heap k1 1
        have HN1 : Hid (BoxI (Dg.more M ⟨⟨va, vn⟩, ps, says, ts⟩) (two y4 w.heap.size (.slice d1 d2 d3) (.slice d4 d5 d6)) w.heap.size) := ⟨_, _, _, _, _, _, two_heap hF, RepI.kn hRn (two_kn hF)⟩
        have HN2 : Hid (Rb w.heap.size w (two y4 w.heap.size (.slice d1 d2 d3) (.slice d4 d5 d6))) := HRB4.out.trans (Rb.two hF (Nat.le_refl _))
        have HN3 : Hid ((two y4 w.heap.size (.slice d1 d2 d3) (.slice d4 d5 d6)).heap[w.heap.size + 1]? = some (.cells #[.slice none 0 0, .slice none 0 0] 24)) := (two_other (by omega)).trans HN4.out
        rw [← HSA.out] at HN1 hov
        have HOL : Hid ((Dg.mores (ups hq ++ ups wq) (ups (R.take (k + 1)))).length ≤ 200) := hov
        clear hov HSA HOV HOB hRn hF k1 HRB4 HN4 HX4 HF4 HRO4
        go_upto_region 3 with fail
        change Code.wp _ _ _ _ (two _ _ _ _)
        clear z0 y0 z1 y1 c0 c1
        generalize two y4 w.heap.size (.slice d1 d2 d3) (.slice d4 d5 d6) = w8 at *
        go_wp2_with fail
        go_roundw
        case rel => exact ⟨k + 1, hlt, by go_num, HN1.out, HOL.out, HN2.out, HN3.out⟩
        case measure => simp [intOf]; omega
      | false =>
        have hov : 200 < (Dg.more M ⟨⟨va, vn⟩, ps, says, ts⟩).length := Nat.lt_of_not_le (of_decide_eq_false HOB.out.symm)
        have HE2 : Hid (Gs.tellErr (ups hq ++ ups wq) (ups R) = 2) := HOV.out (by rw [HSA.out]; exact hov)
        have hF := HN4.out
        have z0 : y4.cell? ⟨w.heap.size + 1, 0, none⟩ = some (.slice none 0 0) := by rw [Lib.cell_of_heap hF]; rfl
        have y0 := Lib.frozen_of_heap hF 0
        have k1 : (y4.setCell ⟨w.heap.size + 1, 0, none⟩ (.slice none 0 0)).heap[w.heap.size + 1]? = some (.cells #[.slice none 0 0, .slice none 0 0] 24) := by rw [Lib.heap_setCell_same hF]; rfl
        have z1 : (y4.setCell ⟨w.heap.size + 1, 0, none⟩ (.slice none 0 0)).cell? ⟨w.heap.size + 1, 1, none⟩ = some (.slice none 0 0) := by rw [Lib.cell_of_heap k1]; rfl
        have y1 := Lib.frozen_of_heap k1 1
        have HH9 : Hid ((two y4 (w.heap.size + 1) (.slice none 0 0) (.slice none 0 0)).heap[w.heap.size + 1]? = some (.cells #[.slice none 0 0, .slice none 0 0] 24)) := two_heap hF
        have HB9 : Hid (Below w.heap.size w (two y4 (w.heap.size + 1) (.slice none 0 0) (.slice none 0 0))) := two_below HRB4.out.1 (by omega) _ _
        clear k1 hF hov HOB HSA HOV HRO4 HX4 HF4
        go_wp2_with fail
        clear z0 y0 z1 y1
        change bodyPost _ _ _ _ _ (two _ _ _ _)
        generalize two y4 (w.heap.size + 1) (.slice none 0 0) (.slice none 0 0) = w9 at *
        have t0 : w9.cell? ⟨w.heap.size + 1, 0, none⟩ = some (.slice none 0 0) := by rw [Lib.cell_of_heap HH9.out]; rfl
        have t1 : w9.cell? ⟨w.heap.size + 1, 1, none⟩ = some (.slice none 0 0) := by rw [Lib.cell_of_heap HH9.out]; rfl
        rw [HE2.out]
        exact bodyPost_ret (v := .tuple #[.agg #[.slice none 0 0, .slice none 0 0], .bool false]) (by simp [results, Tryz.results24, go_sem, t0, t1]) rfl ⟨none, 0, 0, none, 0, 0, rfl, ⟨(fun h => absurd h (by decide)), fun _ => ⟨rfl, rfl⟩⟩, HB9.out⟩
    · have g0 : decide (k < R.length) = false := decide_eq_false hlt
      have u1 : R.take k = R := List.take_of_length_le (by omega)
      rw [u1] at HA HLN
      have HE0 : Hid (Gs.tellErr (ups hq ++ ups wq) (ups R) = 0) := by show _ = _; unfold Gs.tellErr; rw [if_neg (by have := HLN.out; omega)]
      obtain ⟨d1, d2, d3, d4, d5, d6, hFA, hRep⟩ := HA.out
      have c0 : wr.cell? ⟨w.heap.size, 0, none⟩ = some (.slice d1 d2 d3) := by rw [Lib.cell_of_heap hFA]; rfl
      have c1 : wr.cell? ⟨w.heap.size, 1, none⟩ = some (.slice d4 d5 d6) := by rw [Lib.cell_of_heap hFA]; rfl
      have hF := HNN.out
      have z0 : wr.cell? ⟨w.heap.size + 1, 0, none⟩ = some (.slice none 0 0) := by rw [Lib.cell_of_heap hF]; rfl
      have y0 := Lib.frozen_of_heap hF 0
      have k1 : (wr.setCell ⟨w.heap.size + 1, 0, none⟩ (.slice d1 d2 d3)).heap[w.heap.size + 1]? = some (.cells #[.slice d1 d2 d3, .slice none 0 0] 24) := by rw [Lib.heap_setCell_same hF]; rfl
      have z1 : (wr.setCell ⟨w.heap.size + 1, 0, none⟩ (.slice d1 d2 d3)).cell? ⟨w.heap.size + 1, 1, none⟩ = some (.slice none 0 0) := by rw [Lib.cell_of_heap k1]; rfl
      have y1 := Lib.frozen_of_heap k1 1
      have HH9 : Hid ((two wr (w.heap.size + 1) (.slice d1 d2 d3) (.slice d4 d5 d6)).heap[w.heap.size + 1]? = some (.cells #[.slice d1 d2 d3, .slice d4 d5 d6] 24)) := two_heap hF
      have HR9 : Hid (RepI (Dg.mores (ups hq ++ ups wq) (ups R)) (two wr (w.heap.size + 1) (.slice d1 d2 d3) (.slice d4 d5 d6)) (.slice d1 d2 d3) (.slice d4 d5 d6)) := hRep.kn (two_kn hF)
      have HB9 : Hid (Below w.heap.size w (two wr (w.heap.size + 1) (.slice d1 d2 d3) (.slice d4 d5 d6))) := two_below HRB.out.1 (by omega) _ _
      clear k1 hF hFA hRep u1
      go_wp2_with fail
      clear z0 y0 z1 y1 c0 c1
      change bodyPost _ _ _ _ _ (two _ _ _ _)
      generalize two wr (w.heap.size + 1) (.slice d1 d2 d3) (.slice d4 d5 d6) = w9 at *
      have t0 : w9.cell? ⟨w.heap.size + 1, 0, none⟩ = some (.slice d1 d2 d3) := by rw [Lib.cell_of_heap HH9.out]; rfl
      have t1 : w9.cell? ⟨w.heap.size + 1, 1, none⟩ = some (.slice d4 d5 d6) := by rw [Lib.cell_of_heap HH9.out]; rfl
      rw [HE0.out]
      exact bodyPost_ret (v := .tuple #[.agg #[.slice d1 d2 d3, .slice d4 d5 d6], .bool true]) (by simp [results, Tryz.results24, go_sem, t0, t1]) rfl ⟨d1, d2, d3, d4, d5, d6, rfl, ⟨(fun _ => HR9.out), fun h => absurd rfl h⟩, HB9.out⟩
end Go.Proofs.YtmfaodapofamfaaGreat

