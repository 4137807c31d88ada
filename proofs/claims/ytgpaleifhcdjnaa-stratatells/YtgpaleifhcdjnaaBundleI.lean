/- Own texts, one behind the other (part 9). -/
import Derived.Test.YtgpaleifhcdjnaaBundleH
import Derived.Test.YtgpaleifhcdjnaaRows
import Derived.ProofKit
import Derived.Deep.Slices
import Derived.Deep.Strs
/- The law StrataTells. -/
namespace Go.Proofs.Ytgpaleifhcdjnaa
open Go.RowKit

theorem focOut_fit {p : Sc.Prog} (k : Int) (h : ProgFit p) : ProgFit (St.focOut p k) := by
  unfold St.focOut
  split
  · refine ⟨h.ar, h.nm, Nat.le_trans (List.length_filter_le _ _) h.rl, fun i hi => ?_⟩
    have hm : Sc.ruleD (St.focus p k.toNat).rules i ∈ p.rules := by
      have h1 : Sc.ruleD (St.focus p k.toNat).rules i = (St.focus p k.toNat).rules[i] := by simp [Sc.ruleD, hi]
      rw [h1]
      exact (List.mem_filter.mp (List.getElem_mem hi)).1
    obtain ⟨j, hj, he⟩ := List.mem_iff_getElem.mp hm
    have h2 := h.rs j hj
    have h3 : Sc.ruleD p.rules j = p.rules[j] := by simp [Sc.ruleD, hj]
    rw [h3, he] at h2
    exact h2
  · exact ⟨Nat.zero_le _, Nat.zero_le _, Nat.zero_le _, fun i hi => absurd hi (Nat.not_lt_zero _)⟩
theorem levOut_fit {p : Sc.Prog} (h : ProgFit p) : (St.levOut p).length ≤ 9223372036854775807 := by
  unfold St.levOut
  split
  · rw [St.level_length]; exact h.ar
  · exact Nat.zero_le _
theorem needOut_fit {p : Sc.Prog} (k : Int) (h : ProgFit p) : (St.needOut p k).length ≤ 9223372036854775807 := by
  unfold St.needOut
  split
  · rw [St.needs_length]; exact h.ar
  · exact Nat.zero_le _
theorem nilInts (w : World) {l : List Int} (h : l = []) : IntsV w (.slice none 0 0) l := by subst h; exact ⟨none, 0, rfl, .inl rfl⟩
theorem nilBools (w : World) {l : List Bool} (h : l = []) : BoolsV w (.slice none 0 0) l := by subst h; exact ⟨none, 0, rfl, ⟨Nat.le_refl _, fun _ => rfl⟩, .inl rfl⟩
theorem nilProg (w : World) {p : Sc.Prog} (h : p = ⟨[], [], []⟩) : ProgV w (.slice none 0 0) (.slice none 0 0) (.slice none 0 0) p := by
  subst h; exact ⟨⟨none, 0, rfl, .inl rfl⟩, ⟨none, 0, rfl, .inl rfl⟩, ⟨none, 0, rfl, .inl rfl⟩⟩
theorem focOut_bad {p : Sc.Prog} {k : Int} (h : ¬ St.needErr p k = 0) : St.focOut p k = ⟨[], [], []⟩ := if_neg h

set_option maxRecDepth 100000 in
set_option maxHeartbeats 4000000 in
theorem strataTells_any (p : Sc.Prog) (k : Int) (va vn vr : Value) (w : World) (hP : ProgV w va vn vr p) (hF : ProgFit p) :
    Calls Try.prog 3 #[progVal va vn vr, .int .i64 k] w fun e w' => e = .returned (.bool true) ∧ Below w.heap.size w w' := by
  obtain ⟨a0, n0, rfl, _⟩ := id hP.ar
  obtain ⟨a1, n1, rfl, _⟩ := id hP.nm
  obtain ⟨a2, n2, rfl, _⟩ := id hP.rl
  have HFT : Hid _ := hF
  have b0 : Below w.heap.size w (w.alloc (.cells #[.slice a0 p.arity.length n0, .slice a1 p.names.length n1, .slice a2 p.rules.length n2] 26)) := (Below.refl w.heap.size w).alloc (Nat.le_refl _) _
  have hX := heap_alloc_new w (.cells #[.slice a0 p.arity.length n0, .slice a1 p.names.length n1, .slice a2 p.rules.length n2] 26)
  have hP1 := hP.below b0
  have HP1 : Hid _ := hP1
  have HX : Hid _ := hX
  have HB : Hid _ := b0
  clear hP hF hX b0 hP1
  go_enter Try.func3, Try.ntmps3
  go_wp2_with fail
  generalize w.alloc (.cells #[.slice a0 p.arity.length n0, .slice a1 p.names.length n1, .slice a2 p.rules.length n2] 26) = w1 at *
  refine Calls.mono (Levels_any p _ _ _ w1 HP1.out HFT.out) ?_
  rintro _ w2 ⟨lv, rfl, hL, hb2⟩
  obtain ⟨la, lc, rfl, _⟩ := id hL
  have HL2 : Hid _ := hL
  have HX2 : Hid _ := (hb2.block _ (heap_lt HX.out)).trans HX.out
  have HP2 : Hid _ := HP1.out.below hb2
  have HB2 : Hid _ := HB.out.trans (hb2.mono HB.out.size)
  clear hL hb2 HX HP1 HB
  have c0 : w2.cell? ⟨w.heap.size, 0, none⟩ = some (.slice a0 p.arity.length n0) := by rw [Lib.cell_of_heap HX2.out]; rfl
  have c1 : w2.cell? ⟨w.heap.size, 1, none⟩ = some (.slice a1 p.names.length n1) := by rw [Lib.cell_of_heap HX2.out]; rfl
  have c2 : w2.cell? ⟨w.heap.size, 2, none⟩ = some (.slice a2 p.rules.length n2) := by rw [Lib.cell_of_heap HX2.out]; rfl
  go_wp2_with fail
  refine Calls.mono (Needs_any p k _ _ _ w2 HP2.out HFT.out) ?_
  rintro _ w3 ⟨nv, rfl, hN, hb3⟩
  obtain ⟨na, nc, rfl, _⟩ := id hN
  have HN3 : Hid _ := hN
  have HL3 : Hid _ := intsV_below HL2.out hb3
  have HX3 : Hid _ := (hb3.block _ (heap_lt HX2.out)).trans HX2.out
  have HP3 : Hid _ := HP2.out.below hb3
  have HB3 : Hid _ := HB2.out.trans (hb3.mono HB2.out.size)
  clear hN hb3 HX2 HP2 HB2 HL2 c0 c1 c2
  have c0 : w3.cell? ⟨w.heap.size, 0, none⟩ = some (.slice a0 p.arity.length n0) := by rw [Lib.cell_of_heap HX3.out]; rfl
  have c1 : w3.cell? ⟨w.heap.size, 1, none⟩ = some (.slice a1 p.names.length n1) := by rw [Lib.cell_of_heap HX3.out]; rfl
  have c2 : w3.cell? ⟨w.heap.size, 2, none⟩ = some (.slice a2 p.rules.length n2) := by rw [Lib.cell_of_heap HX3.out]; rfl
  go_wp2_with fail
  refine Calls.mono (Focus_any p k _ _ _ w3 HP3.out HFT.out) ?_
  rintro _ w4 ⟨ua, un, ur, rfl, hQ, hb4⟩
  obtain ⟨f0, m0, rfl, _⟩ := id hQ.ar
  obtain ⟨f1, m1, rfl, _⟩ := id hQ.nm
  obtain ⟨f2, m2, rfl, _⟩ := id hQ.rl
  have bY : Below w4.heap.size w4 (w4.alloc (.cells #[.slice f0 (St.focOut p k).arity.length m0, .slice f1 (St.focOut p k).names.length m1, .slice f2 (St.focOut p k).rules.length m2] 26)) := (Below.refl _ _).alloc (Nat.le_refl _) _
  have hb5 := hb4.trans (bY.mono hb4.size)
  have HQ5 : Hid _ := hQ.below bY
  have HY5 : Hid _ := heap_alloc_new w4 (.cells #[.slice f0 (St.focOut p k).arity.length m0, .slice f1 (St.focOut p k).names.length m1, .slice f2 (St.focOut p k).rules.length m2] 26)
  have HN5 : Hid _ := boolsV_below HN3.out hb5
  have HL5 : Hid _ := intsV_below HL3.out hb5
  have HX5 : Hid _ := (hb5.block _ (heap_lt HX3.out)).trans HX3.out
  have HP5 : Hid _ := HP3.out.below hb5
  have HB5 : Hid _ := HB3.out.trans (hb5.mono HB3.out.size)
  clear hQ hb4 hb5 bY HX3 HP3 HB3 HL3 HN3 c0 c1 c2
  generalize hW5 : w4.alloc (.cells #[.slice f0 (St.focOut p k).arity.length m0, .slice f1 (St.focOut p k).names.length m1, .slice f2 (St.focOut p k).rules.length m2] 26) = w5 at HQ5 HY5 HN5 HL5 HX5 HP5 HB5
  have c0 : w5.cell? ⟨w.heap.size, 0, none⟩ = some (.slice a0 p.arity.length n0) := by rw [Lib.cell_of_heap HX5.out]; rfl
  have c1 : w5.cell? ⟨w.heap.size, 1, none⟩ = some (.slice a1 p.names.length n1) := by rw [Lib.cell_of_heap HX5.out]; rfl
  have c2 : w5.cell? ⟨w.heap.size, 2, none⟩ = some (.slice a2 p.rules.length n2) := by rw [Lib.cell_of_heap HX5.out]; rfl
  go_upto_region 4 with fail
  generalize w4.heap.size = YB at HY5 ⊢
  clear hW5
  go_wp2_with fail
  clear c0 c1 c2
  refine Calls.mono (CheckProgram_any p _ _ _ w5 HP5.out HFT.out) ?_
  rintro _ w6 ⟨rfl, hb6⟩
  have HQ6 : Hid _ := HQ5.out.below hb6
  have HY6 : Hid _ := (hb6.block _ (heap_lt HY5.out)).trans HY5.out
  have HN6 : Hid _ := boolsV_below HN5.out hb6
  have HL6 : Hid _ := intsV_below HL5.out hb6
  have HX6 : Hid _ := (hb6.block _ (heap_lt HX5.out)).trans HX5.out
  have HP6 : Hid _ := HP5.out.below hb6
  have HB6 : Hid _ := HB5.out.trans (hb6.mono HB5.out.size)
  clear hb6 HQ5 HY5 HN5 HL5 HX5 HP5 HB5
  by_cases hc : Sc.check p = 0
  · have HC : Hid _ := hc
    rw [hc]
    clear hc
    have c0 : w6.cell? ⟨w.heap.size, 0, none⟩ = some (.slice a0 p.arity.length n0) := by rw [Lib.cell_of_heap HX6.out]; rfl
    have c1 : w6.cell? ⟨w.heap.size, 1, none⟩ = some (.slice a1 p.names.length n1) := by rw [Lib.cell_of_heap HX6.out]; rfl
    have c2 : w6.cell? ⟨w.heap.size, 2, none⟩ = some (.slice a2 p.rules.length n2) := by rw [Lib.cell_of_heap HX6.out]; rfl
    go_wp2_with fail
    refine Calls.mono (LevelsOf_any p _ _ _ w6 HP6.out HC.out) ?_
    rintro _ w7 ⟨v0, l0, rfl, hV, hfl, hb7⟩
    obtain ⟨va0, vc0, rfl, _⟩ := id hV
    have HV7 : Hid _ := hV
    have HQ7 : Hid _ := HQ6.out.below hb7
    have HY7 : Hid _ := (hb7.block _ (heap_lt HY6.out)).trans HY6.out
    have HN7 : Hid _ := boolsV_below HN6.out hb7
    have HL7 : Hid _ := intsV_below HL6.out hb7
    have HX7 : Hid _ := (hb7.block _ (heap_lt HX6.out)).trans HX6.out
    have HP7 : Hid _ := HP6.out.below hb7
    have HB7 : Hid _ := HB6.out.trans (hb7.mono HB6.out.size)
    clear hb7 hV HQ6 HY6 HN6 HL6 HX6 HP6 HB6 c0 c1 c2
    have c0 : w7.cell? ⟨w.heap.size, 0, none⟩ = some (.slice a0 p.arity.length n0) := by rw [Lib.cell_of_heap HX7.out]; rfl
    rcases Bool.eq_false_or_eq_true (St.flat p) with hf | hf
    · have HE0 : Hid _ := St.levErr_flat HC.out hf
      obtain rfl := hfl hf
      rw [HE0.out.1, hf]
      have HV8 : Hid (IntsV w7 (.slice va0 (St.level p).length vc0) (St.levOut p)) := by rw [HE0.out.2]; exact HV7.out
      have lev : True := trivial
      clear hf hfl HV7 lev
      by_cases h0 : k < 0
      · have HE : Hid _ := St.needErr_out (k := k) HC.out (by simp [St.isIn]; omega)
        have hd : decide (k < 0) = true := decide_eq_true h0
        rw [HE.out.1]
        clear h0
        have bZ : Below w7.heap.size w7 (w7.alloc (.cells #[.slice none 0 0, .slice none 0 0, .slice none 0 0] 26)) := (Below.refl _ _).alloc (Nat.le_refl _) _
        have HLe : Hid _ := intsV_below HL7.out bZ
        have HNe : Hid _ := boolsV_below HN7.out bZ
        have HQe : Hid _ := HQ7.out.below bZ
        have HYe : Hid _ := (bZ.block _ (heap_lt HY7.out)).trans HY7.out
        have HXe : Hid _ := (bZ.block _ (heap_lt HX7.out)).trans HX7.out
        have HPe : Hid _ := HP7.out.below bZ
        have HZe : Hid _ := heap_alloc_new w7 (.cells #[.slice none 0 0, .slice none 0 0, .slice none 0 0] 26)
        have HYZ : Hid (YB < w7.heap.size) := heap_lt HY7.out
        have HWZ : Hid (w.heap.size ≤ w7.heap.size) := HB7.out.size
        have HBe : Hid _ := HB7.out.trans (bZ.mono HB7.out.size)
        have HVe : Hid _ := intsV_below HV8.out bZ
        clear HV8
        clear bZ HL7 HN7 HQ7 HY7 HB7 HX7 HP7
        generalize hWe : w7.alloc (.cells #[.slice none 0 0, .slice none 0 0, .slice none 0 0] 26) = we at HLe HNe HQe HYe HXe HPe HZe HBe HVe
        have HMe : Hid (BoolsV we (.slice none 0 0) (St.needOut p k)) := nilBools _ HE.out.2
        have HRe : Hid (ProgV we (.slice none 0 0) (.slice none 0 0) (.slice none 0 0) (St.focOut p k)) := nilProg _ (focOut_bad (by rw [HE.out.1]; decide))
        go_upto_region 18 with fail
        generalize w7.heap.size = ZB at HZe HYZ HWZ ⊢
        clear hWe HXe HPe
        go_wp2_with fail
        refine Calls.mono (strataBegun_any _) ?_
        rintro _ w8 ⟨rfl, hb8⟩
        have HL8 : Hid _ := intsV_below HLe.out hb8
        have HV8 : Hid _ := intsV_below HVe.out hb8
        have HN8 : Hid _ := boolsV_below HNe.out hb8
        have HM8 : Hid _ := boolsV_below HMe.out hb8
        have HQ8 : Hid _ := HQe.out.below hb8
        have HR8 : Hid _ := HRe.out.below hb8
        have HY8 : Hid _ := (hb8.block _ (heap_lt HYe.out)).trans HYe.out
        have HZ8 : Hid _ := (hb8.block _ (heap_lt HZe.out)).trans HZe.out
        have HB8 : Hid _ := HBe.out.trans (hb8.mono HBe.out.size)
        clear hb8 HLe HVe HNe HMe HQe HRe HYe HZe HBe
        go_wp2_with fail
        refine Calls.mono (sameInts_refl (St.levOut p) w8 _ _ (levOut_fit HFT.out) HL8.out HV8.out) ?_
        rintro _ w9 ⟨rfl, hb9⟩
        have HN9 : Hid _ := boolsV_below HN8.out hb9
        have HM9 : Hid _ := boolsV_below HM8.out hb9
        have HQ9 : Hid _ := HQ8.out.below hb9
        have HR9 : Hid _ := HR8.out.below hb9
        have HY9 : Hid _ := (hb9.block _ (heap_lt HY8.out)).trans HY8.out
        have HZ9 : Hid _ := (hb9.block _ (heap_lt HZ8.out)).trans HZ8.out
        have HB9 : Hid _ := HB8.out.trans (hb9.mono HB8.out.size)
        clear hb9 HL8 HV8 HN8 HM8 HQ8 HR8 HY8 HZ8 HB8
        go_wp2_with fail
        refine Calls.mono (sameBools_refl (St.needOut p k) w9 _ _ (needOut_fit k HFT.out) HN9.out HM9.out) ?_
        rintro _ w10 ⟨rfl, hb10⟩
        have HQ10 : Hid _ := HQ9.out.below hb10
        have HR10 : Hid _ := HR9.out.below hb10
        have HY10 : Hid _ := (hb10.block _ (heap_lt HY9.out)).trans HY9.out
        have HZ10 : Hid _ := (hb10.block _ (heap_lt HZ9.out)).trans HZ9.out
        have HB10 : Hid _ := HB9.out.trans (hb10.mono HB9.out.size)
        clear hb10 HN9 HM9 HQ9 HR9 HY9 HZ9 HB9
        have y0 : w10.cell? ⟨YB, 0, none⟩ = some (.slice f0 (St.focOut p k).arity.length m0) := by rw [Lib.cell_of_heap HY10.out]; rfl
        have y1 : w10.cell? ⟨YB, 1, none⟩ = some (.slice f1 (St.focOut p k).names.length m1) := by rw [Lib.cell_of_heap HY10.out]; rfl
        have y2 : w10.cell? ⟨YB, 2, none⟩ = some (.slice f2 (St.focOut p k).rules.length m2) := by rw [Lib.cell_of_heap HY10.out]; rfl
        have z0 : w10.cell? ⟨ZB, 0, none⟩ = some (.slice none 0 0) := by rw [Lib.cell_of_heap HZ10.out]; rfl
        have z1 : w10.cell? ⟨ZB, 1, none⟩ = some (.slice none 0 0) := by rw [Lib.cell_of_heap HZ10.out]; rfl
        have z2 : w10.cell? ⟨ZB, 2, none⟩ = some (.slice none 0 0) := by rw [Lib.cell_of_heap HZ10.out]; rfl
        go_wp2_with fail
        refine Calls.mono (sameProg_refl (St.focOut p k) _ _ _ _ _ _ w10 HQ10.out HR10.out (focOut_fit k HFT.out)) ?_
        rintro _ w11 ⟨rfl, hb11⟩
        have HB11 : Hid _ := HB10.out.trans (hb11.mono HB10.out.size)
        clear hb11 y0 y1 y2 z0 z1 z2 HQ10 HR10 HY10 HZ10 HB10
        go_wp2_with fail
        exact bodyPost_ret (v := .bool true) (by simp [results, Try.results3, go_sem]) rfl ⟨rfl, HB11.out⟩
      · have hd : decide (k < 0) = false := decide_eq_false h0
        by_cases h1 : (p.arity.length : Int) ≤ k
        · have HE : Hid _ := St.needErr_out (k := k) HC.out (by simp [St.isIn]; omega)
          have hd1 : decide ((p.arity.length : Int) ≤ k) = true := decide_eq_true h1
          rw [HE.out.1]
          clear h0 h1
          have bZ : Below w7.heap.size w7 (w7.alloc (.cells #[.slice none 0 0, .slice none 0 0, .slice none 0 0] 26)) := (Below.refl _ _).alloc (Nat.le_refl _) _
          have HLe : Hid _ := intsV_below HL7.out bZ
          have HNe : Hid _ := boolsV_below HN7.out bZ
          have HQe : Hid _ := HQ7.out.below bZ
          have HYe : Hid _ := (bZ.block _ (heap_lt HY7.out)).trans HY7.out
          have HXe : Hid _ := (bZ.block _ (heap_lt HX7.out)).trans HX7.out
          have HPe : Hid _ := HP7.out.below bZ
          have HZe : Hid _ := heap_alloc_new w7 (.cells #[.slice none 0 0, .slice none 0 0, .slice none 0 0] 26)
          have HYZ : Hid (YB < w7.heap.size) := heap_lt HY7.out
          have HWZ : Hid (w.heap.size ≤ w7.heap.size) := HB7.out.size
          have HBe : Hid _ := HB7.out.trans (bZ.mono HB7.out.size)
          have HVe : Hid _ := intsV_below HV8.out bZ
          clear HV8
          clear bZ HL7 HN7 HQ7 HY7 HB7 HX7 HP7
          generalize hWe : w7.alloc (.cells #[.slice none 0 0, .slice none 0 0, .slice none 0 0] 26) = we at HLe HNe HQe HYe HXe HPe HZe HBe HVe
          have HMe : Hid (BoolsV we (.slice none 0 0) (St.needOut p k)) := nilBools _ HE.out.2
          have HRe : Hid (ProgV we (.slice none 0 0) (.slice none 0 0) (.slice none 0 0) (St.focOut p k)) := nilProg _ (focOut_bad (by rw [HE.out.1]; decide))
          go_upto_region 18 with fail
          generalize w7.heap.size = ZB at HZe HYZ HWZ ⊢
          clear hWe HXe HPe
          go_wp2_with fail
          refine Calls.mono (strataBegun_any _) ?_
          rintro _ w8 ⟨rfl, hb8⟩
          have HL8 : Hid _ := intsV_below HLe.out hb8
          have HV8 : Hid _ := intsV_below HVe.out hb8
          have HN8 : Hid _ := boolsV_below HNe.out hb8
          have HM8 : Hid _ := boolsV_below HMe.out hb8
          have HQ8 : Hid _ := HQe.out.below hb8
          have HR8 : Hid _ := HRe.out.below hb8
          have HY8 : Hid _ := (hb8.block _ (heap_lt HYe.out)).trans HYe.out
          have HZ8 : Hid _ := (hb8.block _ (heap_lt HZe.out)).trans HZe.out
          have HB8 : Hid _ := HBe.out.trans (hb8.mono HBe.out.size)
          clear hb8 HLe HVe HNe HMe HQe HRe HYe HZe HBe
          go_wp2_with fail
          refine Calls.mono (sameInts_refl (St.levOut p) w8 _ _ (levOut_fit HFT.out) HL8.out HV8.out) ?_
          rintro _ w9 ⟨rfl, hb9⟩
          have HN9 : Hid _ := boolsV_below HN8.out hb9
          have HM9 : Hid _ := boolsV_below HM8.out hb9
          have HQ9 : Hid _ := HQ8.out.below hb9
          have HR9 : Hid _ := HR8.out.below hb9
          have HY9 : Hid _ := (hb9.block _ (heap_lt HY8.out)).trans HY8.out
          have HZ9 : Hid _ := (hb9.block _ (heap_lt HZ8.out)).trans HZ8.out
          have HB9 : Hid _ := HB8.out.trans (hb9.mono HB8.out.size)
          clear hb9 HL8 HV8 HN8 HM8 HQ8 HR8 HY8 HZ8 HB8
          go_wp2_with fail
          refine Calls.mono (sameBools_refl (St.needOut p k) w9 _ _ (needOut_fit k HFT.out) HN9.out HM9.out) ?_
          rintro _ w10 ⟨rfl, hb10⟩
          have HQ10 : Hid _ := HQ9.out.below hb10
          have HR10 : Hid _ := HR9.out.below hb10
          have HY10 : Hid _ := (hb10.block _ (heap_lt HY9.out)).trans HY9.out
          have HZ10 : Hid _ := (hb10.block _ (heap_lt HZ9.out)).trans HZ9.out
          have HB10 : Hid _ := HB9.out.trans (hb10.mono HB9.out.size)
          clear hb10 HN9 HM9 HQ9 HR9 HY9 HZ9 HB9
          have y0 : w10.cell? ⟨YB, 0, none⟩ = some (.slice f0 (St.focOut p k).arity.length m0) := by rw [Lib.cell_of_heap HY10.out]; rfl
          have y1 : w10.cell? ⟨YB, 1, none⟩ = some (.slice f1 (St.focOut p k).names.length m1) := by rw [Lib.cell_of_heap HY10.out]; rfl
          have y2 : w10.cell? ⟨YB, 2, none⟩ = some (.slice f2 (St.focOut p k).rules.length m2) := by rw [Lib.cell_of_heap HY10.out]; rfl
          have z0 : w10.cell? ⟨ZB, 0, none⟩ = some (.slice none 0 0) := by rw [Lib.cell_of_heap HZ10.out]; rfl
          have z1 : w10.cell? ⟨ZB, 1, none⟩ = some (.slice none 0 0) := by rw [Lib.cell_of_heap HZ10.out]; rfl
          have z2 : w10.cell? ⟨ZB, 2, none⟩ = some (.slice none 0 0) := by rw [Lib.cell_of_heap HZ10.out]; rfl
          go_wp2_with fail
          refine Calls.mono (sameProg_refl (St.focOut p k) _ _ _ _ _ _ w10 HQ10.out HR10.out (focOut_fit k HFT.out)) ?_
          rintro _ w11 ⟨rfl, hb11⟩
          have HB11 : Hid _ := HB10.out.trans (hb11.mono HB10.out.size)
          clear hb11 y0 y1 y2 z0 z1 z2 HQ10 HR10 HY10 HZ10 HB10
          go_wp2_with fail
          exact bodyPost_ret (v := .bool true) (by simp [results, Try.results3, go_sem]) rfl ⟨rfl, HB11.out⟩
        · have HE : Hid _ := St.needErr_in (k := k) HC.out (by simp [St.isIn]; omega)
          rw [HE.out.1]
          obtain ⟨q, rfl⟩ : ∃ q : Nat, k = q := ⟨k.toNat, by omega⟩
          have hq : q < p.arity.length := by omega
          have hd1 : decide ((p.arity.length : Int) ≤ (q : Int)) = false := decide_eq_false h1
          have hd1n : decide (p.arity.length ≤ q) = false := decide_eq_false (by omega)
          clear h0 h1
          have bZ : Below w7.heap.size w7 (w7.alloc (.cells #[.slice none 0 0, .slice none 0 0, .slice none 0 0] 26)) := (Below.refl _ _).alloc (Nat.le_refl _) _
          have HLe : Hid _ := intsV_below HL7.out bZ
          have HNe : Hid _ := boolsV_below HN7.out bZ
          have HQe : Hid _ := HQ7.out.below bZ
          have HYe : Hid _ := (bZ.block _ (heap_lt HY7.out)).trans HY7.out
          have HXe : Hid _ := (bZ.block _ (heap_lt HX7.out)).trans HX7.out
          have HPe : Hid _ := HP7.out.below bZ
          have HZe : Hid _ := heap_alloc_new w7 (.cells #[.slice none 0 0, .slice none 0 0, .slice none 0 0] 26)
          have HYZ : Hid (YB < w7.heap.size) := heap_lt HY7.out
          have HWZ : Hid (w.heap.size ≤ w7.heap.size) := HB7.out.size
          have HBe : Hid _ := HB7.out.trans (bZ.mono HB7.out.size)
          have HVe : Hid _ := intsV_below HV8.out bZ
          clear HV8
          clear bZ HL7 HN7 HQ7 HY7 HB7 HX7 HP7
          generalize hWe : w7.alloc (.cells #[.slice none 0 0, .slice none 0 0, .slice none 0 0] 26) = we at HLe HNe HQe HYe HXe HPe HZe HBe HVe
          go_upto_region 17 with fail
          generalize w7.heap.size = ZB at HZe HYZ HWZ ⊢
          clear hWe
          clear c0
          have c0 : we.cell? ⟨w.heap.size, 0, none⟩ = some (.slice a0 p.arity.length n0) := by rw [Lib.cell_of_heap HXe.out]; rfl
          have c1 : we.cell? ⟨w.heap.size, 1, none⟩ = some (.slice a1 p.names.length n1) := by rw [Lib.cell_of_heap HXe.out]; rfl
          have c2 : we.cell? ⟨w.heap.size, 2, none⟩ = some (.slice a2 p.rules.length n2) := by rw [Lib.cell_of_heap HXe.out]; rfl
          refine wp_region_tail (tlT (progVal (.slice a0 p.arity.length n0) (.slice a1 p.names.length n1) (.slice a2 p.rules.length n2)) (.slice a0 p.arity.length n0) (.slice a1 p.names.length n1) q (St.needs p q) (St.focus p q).rules) 7 (by decide) (by kernel_rfl) (by kernel_rfl) (by kernel_rfl) (tlT_mono _ _ _ _ _ _) ?hop ?htail
          case hop =>
            refine AllOps.cons (fun a y h => ?_) ?_
            · have e2 : a.eval (.tmp 2) = (.pointer (some ⟨w.heap.size, 0, none⟩)) := h.old 2 (by kernel_rfl)
              have g0 := cell_below h.below c0
              have g1 := cell_below h.below c1
              have g2 := cell_below h.below c2
              refine opOk_val (v := (progVal (.slice a0 p.arity.length n0) (.slice a1 p.names.length n1) (.slice a2 p.rules.length n2))) (w' := y) (wanted_none rfl) ?_ (fun t ht => by cases ht; exact rfl) (Below.refl _ _)
              generalize a.eval = ev at *
              clear h
              go_simp
            refine AllOps.cons (fun a y h => ?_) ?_
            · have e1 : a.eval (.tmp 1) = (.int .i64 (q : Int)) := h.old 1 (by kernel_rfl)
              refine opOk_val (v := .int .i64 (q : Int)) (w' := y) (wanted_none rfl) ?_ (fun t ht => by cases ht; exact rfl) (Below.refl _ _)
              generalize a.eval = ev at *
              clear h
              go_simp
            refine AllOps.cons (fun a y h => ?_) ?_
            · have e62 : a.eval (.tmp 62) = (progVal (.slice a0 p.arity.length n0) (.slice a1 p.names.length n1) (.slice a2 p.rules.length n2)) := h.of 62 (by kernel_rfl)
              have e63 : a.eval (.tmp 63) = .int .i64 (q : Int) := h.of 63 (by kernel_rfl)
              refine opOk_call (f := 12) (args := #[(progVal (.slice a0 p.arity.length n0) (.slice a1 p.names.length n1) (.slice a2 p.rules.length n2)), .int .i64 (q : Int)]) (wanted_none rfl) ?_ ?_
              · have ef : ∀ f, a.eval (.func f) = .func (.func f) #[] #[] := fun _ => rfl
                generalize a.eval = ev at *
                clear h
                go_simp
              · refine Calls.mono (NeedsOf_any p q _ _ _ y (HPe.out.below h.below) HC.out hq) ?_
                rintro _ y2 ⟨v9, rfl, hv9, hb9⟩
                exact ⟨v9, rfl, fun t ht => by cases ht; exact hv9, hb9⟩
            refine AllOps.cons (fun a y h => ?_) ?_
            · have e2 : a.eval (.tmp 2) = (.pointer (some ⟨w.heap.size, 0, none⟩)) := h.old 2 (by kernel_rfl)
              have g0 := cell_below h.below c0
              have g1 := cell_below h.below c1
              have g2 := cell_below h.below c2
              refine opOk_val (v := (progVal (.slice a0 p.arity.length n0) (.slice a1 p.names.length n1) (.slice a2 p.rules.length n2))) (w' := y) (wanted_none rfl) ?_ (fun t ht => by cases ht; exact rfl) (Below.refl _ _)
              generalize a.eval = ev at *
              clear h
              go_simp
            refine AllOps.cons (fun a y h => ?_) ?_
            · have e1 : a.eval (.tmp 1) = (.int .i64 (q : Int)) := h.old 1 (by kernel_rfl)
              refine opOk_val (v := .int .i64 (q : Int)) (w' := y) (wanted_none rfl) ?_ (fun t ht => by cases ht; exact rfl) (Below.refl _ _)
              generalize a.eval = ev at *
              clear h
              go_simp
            refine AllOps.cons (fun a y h => ?_) ?_
            · have e65 : a.eval (.tmp 65) = (progVal (.slice a0 p.arity.length n0) (.slice a1 p.names.length n1) (.slice a2 p.rules.length n2)) := h.of 65 (by kernel_rfl)
              have e66 : a.eval (.tmp 66) = .int .i64 (q : Int) := h.of 66 (by kernel_rfl)
              refine opOk_call (f := 13) (args := #[(progVal (.slice a0 p.arity.length n0) (.slice a1 p.names.length n1) (.slice a2 p.rules.length n2)), .int .i64 (q : Int)]) (wanted_none rfl) ?_ ?_
              · have ef : ∀ f, a.eval (.func f) = .func (.func f) #[] #[] := fun _ => rfl
                generalize a.eval = ev at *
                clear h
                go_simp
              · refine Calls.mono (FocusOf_any p q _ _ _ y (HPe.out.below h.below) HC.out hq) ?_
                rintro _ y2 ⟨ur9, rfl, hv9, hb9⟩
                exact ⟨_, rfl, fun t ht => by cases ht; exact ⟨ur9, rfl, hv9⟩, hb9⟩
            refine AllOps.cons (fun a y h => ?_) ?_
            · have t64 : BoolsV y (a.eval (.tmp 64)) (St.needs p q) := h.of 64 (by kernel_rfl)
              obtain ⟨xa, xc, e64, _⟩ := id t64
              rw [e64] at t64
              refine opOk_val (v := .slice xa (St.needs p q).length xc) (w' := y) (wanted_none rfl) ?_ (fun t ht => by cases ht; exact t64) (Below.refl _ _)
              generalize a.eval = ev at *
              clear h t64
              go_simp
            exact AllOps.nil
          case htail =>
            rintro ⟨tm, df⟩ y hI
            obtain ⟨gv, e67, hG⟩ : ∃ ur, Act.eval ⟨tm, df⟩ (.tmp 67) = progVal (.slice a0 p.arity.length n0) (.slice a1 p.names.length n1) ur ∧ PRulesV y ur (St.focus p q).rules := hI.all 5 _ 67 (by decide) rfl rfl
            have hM : BoolsV y (Act.eval ⟨tm, df⟩ (.tmp 16)) (St.needs p q) := hI.all 6 _ 16 (by decide) rfl rfl
            obtain ⟨gu, gc, rfl, _⟩ := id hG
            obtain ⟨ma, mc, e16, _⟩ := id hM
            rw [e16] at hM
            have e17 : Act.eval ⟨tm, df⟩ (.tmp 17) = .pointer (some ⟨ZB, 0, none⟩) := hI.still 17 (by simp)
            have k0 := (hI.below.block _ (heap_lt HZe.out)).trans HZe.out
            have z0 : y.cell? ⟨ZB, 0, none⟩ = some (.slice none 0 0) := by rw [Lib.cell_of_heap k0]; rfl
            have y0 := Lib.frozen_of_heap k0 0
            have k1 : (y.setCell ⟨ZB, 0, none⟩ (.slice a0 p.arity.length n0)).heap[ZB]? = some (.cells #[.slice a0 p.arity.length n0, .slice none 0 0, .slice none 0 0] 26) := by rw [Lib.heap_setCell_same k0]; rfl
            have z1 : (y.setCell ⟨ZB, 0, none⟩ (.slice a0 p.arity.length n0)).cell? ⟨ZB, 1, none⟩ = some (.slice none 0 0) := by rw [Lib.cell_of_heap k1]; rfl
            have y1 := Lib.frozen_of_heap k1 1
            have k2 : ((y.setCell ⟨ZB, 0, none⟩ (.slice a0 p.arity.length n0)).setCell ⟨ZB, 1, none⟩ (.slice a1 p.names.length n1)).heap[ZB]? = some (.cells #[.slice a0 p.arity.length n0, .slice a1 p.names.length n1, .slice none 0 0] 26) := by rw [Lib.heap_setCell_same k1]; rfl
            have z2 : ((y.setCell ⟨ZB, 0, none⟩ (.slice a0 p.arity.length n0)).setCell ⟨ZB, 1, none⟩ (.slice a1 p.names.length n1)).cell? ⟨ZB, 2, none⟩ = some (.slice none 0 0) := by rw [Lib.cell_of_heap k2]; rfl
            have y2 := Lib.frozen_of_heap k2 2
            have k3 : (((y.setCell ⟨ZB, 0, none⟩ (.slice a0 p.arity.length n0)).setCell ⟨ZB, 1, none⟩ (.slice a1 p.names.length n1)).setCell ⟨ZB, 2, none⟩ (.slice gu (St.focus p q).rules.length gc)).heap[ZB]? = some (.cells #[.slice a0 p.arity.length n0, .slice a1 p.names.length n1, .slice gu (St.focus p q).rules.length gc] 26) := by rw [Lib.heap_setCell_same k2]; rfl
            have hcl : Cl ZB y (((y.setCell ⟨ZB, 0, none⟩ (.slice a0 p.arity.length n0)).setCell ⟨ZB, 1, none⟩ (.slice a1 p.names.length n1)).setCell ⟨ZB, 2, none⟩ (.slice gu (St.focus p q).rules.length gc)) := cl_box k0 fun k hk => by rw [heap_set_other hk, heap_set_other hk, heap_set_other hk]
            have hYZ : ¬ YB = ZB := Nat.ne_of_lt HYZ.out
            have hYe : (((y.setCell ⟨ZB, 0, none⟩ (.slice a0 p.arity.length n0)).setCell ⟨ZB, 1, none⟩ (.slice a1 p.names.length n1)).setCell ⟨ZB, 2, none⟩ (.slice gu (St.focus p q).rules.length gc)).heap[YB]? = some (.cells #[.slice f0 (St.focOut p q).arity.length m0, .slice f1 (St.focOut p q).names.length m1, .slice f2 (St.focOut p q).rules.length m2] 26) := by
              rw [heap_set_other hYZ, heap_set_other hYZ, heap_set_other hYZ]
              exact (hI.below.block _ (heap_lt HYe.out)).trans HYe.out
            have hLe := hcl.ints (intsV_below HLe.out hI.below)
            have hVe := hcl.ints (intsV_below HVe.out hI.below)
            have hNe := hcl.bools (boolsV_below HNe.out hI.below)
            have hQe := hcl.prog (HQe.out.below hI.below)
            have hPp := hcl.prog (HPe.out.below hI.below)
            have hGe := hcl.rules hG
            have hMe := hcl.bools hM
            have hBw := HBe.out.trans (hI.below.mono HBe.out.size)
            have hBe := ((hBw.setCell (p := ⟨ZB, 0, none⟩) HWZ.out (.slice a0 p.arity.length n0)).setCell (p := ⟨ZB, 1, none⟩) HWZ.out (.slice a1 p.names.length n1)).setCell (p := ⟨ZB, 2, none⟩) HWZ.out (.slice gu (St.focus p q).rules.length gc)
            show wpOps Try.prog _ _ [7] _ _
            rw [wpOps_cons]
            refine wpOp_void rfl (wanted_none rfl) rfl (w' := (((y.setCell ⟨ZB, 0, none⟩ (.slice a0 p.arity.length n0)).setCell ⟨ZB, 1, none⟩ (.slice a1 p.names.length n1)).setCell ⟨ZB, 2, none⟩ (.slice gu (St.focus p q).rules.length gc))) ?_ ?_
            · generalize Act.eval ⟨tm, df⟩ = ev at *
              clear hI hM hG hcl hYe hLe hVe hNe hQe hPp hGe hMe hBw hBe
              go_simp
            have hs2 := hI.size
            have hst := hI.still
            obtain rfl : df = [] := hI.defers
            have h16 : tm.getD 16 undef = .slice ma (St.needs p q).length mc := e16
            clear HLe HVe HNe HQe HPe HYe HZe HBe HXe
            have HLe : Hid _ := hLe
            have HVe : Hid _ := hVe
            have HNe : Hid _ := hNe
            have HQe : Hid _ := hQe
            have HYe : Hid _ := hYe
            have HZe : Hid _ := k3
            have HBe : Hid _ := hBe
            have HFO : Hid (St.focOut p (q : Int) = St.focus p q) := if_pos HE.out.1
            have HMe : Hid (BoolsV (((y.setCell ⟨ZB, 0, none⟩ (.slice a0 p.arity.length n0)).setCell ⟨ZB, 1, none⟩ (.slice a1 p.names.length n1)).setCell ⟨ZB, 2, none⟩ (.slice gu (St.focus p q).rules.length gc)) (.slice ma (St.needs p q).length mc) (St.needOut p (q : Int))) := by rw [HE.out.2]; exact hMe
            have HRe : Hid (ProgV (((y.setCell ⟨ZB, 0, none⟩ (.slice a0 p.arity.length n0)).setCell ⟨ZB, 1, none⟩ (.slice a1 p.names.length n1)).setCell ⟨ZB, 2, none⟩ (.slice gu (St.focus p q).rules.length gc)) (.slice a0 p.arity.length n0) (.slice a1 p.names.length n1) (.slice gu (St.focus p q).rules.length gc) (St.focOut p (q : Int))) := by rw [HFO.out]; exact ⟨hPp.ar, hPp.nm, hGe⟩
            clear hI hM hG hcl hYe hLe hVe hNe hQe hPp hGe hMe hBw hBe e16 e17 e67 k0 k1 k2 k3 z0 z1 z2 y0 y1 y2 hYZ c0 c1 c2
            generalize (((y.setCell ⟨ZB, 0, none⟩ (.slice a0 p.arity.length n0)).setCell ⟨ZB, 1, none⟩ (.slice a1 p.names.length n1)).setCell ⟨ZB, 2, none⟩ (.slice gu (St.focus p q).rules.length gc)) = y3 at *
            show Exit.then _ _ Exit.normal ⟨tm, []⟩ y3
            have hF8 := tmps_fold [62, 63, 64, 65, 66, 67, 16] tm _ hs2 hst
            clear hs2 hst
            simp only [List.foldl_cons, List.foldl_nil, h16] at hF8
            clear h16
            generalize tm.getD 62 undef = x62 at hF8
            generalize tm.getD 63 undef = x63 at hF8
            generalize tm.getD 64 undef = x64 at hF8
            generalize tm.getD 65 undef = x65 at hF8
            generalize tm.getD 66 undef = x66 at hF8
            generalize tm.getD 67 undef = x67 at hF8
            simp only [List.setIfInBounds_toArray, List.set_cons_zero, List.set_cons_succ] at hF8
            subst hF8
            go_wp2_with fail
            refine Calls.mono (strataBegun_any _) ?_
            rintro _ w8 ⟨rfl, hb8⟩
            have HL8 : Hid _ := intsV_below HLe.out hb8
            have HV8 : Hid _ := intsV_below HVe.out hb8
            have HN8 : Hid _ := boolsV_below HNe.out hb8
            have HM8 : Hid _ := boolsV_below HMe.out hb8
            have HQ8 : Hid _ := HQe.out.below hb8
            have HR8 : Hid _ := HRe.out.below hb8
            have HY8 : Hid _ := (hb8.block _ (heap_lt HYe.out)).trans HYe.out
            have HZ8 : Hid _ := (hb8.block _ (heap_lt HZe.out)).trans HZe.out
            have HB8 : Hid _ := HBe.out.trans (hb8.mono HBe.out.size)
            clear hb8 HLe HVe HNe HMe HQe HRe HYe HZe HBe
            go_wp2_with fail
            refine Calls.mono (sameInts_refl (St.levOut p) w8 _ _ (levOut_fit HFT.out) HL8.out HV8.out) ?_
            rintro _ w9 ⟨rfl, hb9⟩
            have HN9 : Hid _ := boolsV_below HN8.out hb9
            have HM9 : Hid _ := boolsV_below HM8.out hb9
            have HQ9 : Hid _ := HQ8.out.below hb9
            have HR9 : Hid _ := HR8.out.below hb9
            have HY9 : Hid _ := (hb9.block _ (heap_lt HY8.out)).trans HY8.out
            have HZ9 : Hid _ := (hb9.block _ (heap_lt HZ8.out)).trans HZ8.out
            have HB9 : Hid _ := HB8.out.trans (hb9.mono HB8.out.size)
            clear hb9 HL8 HV8 HN8 HM8 HQ8 HR8 HY8 HZ8 HB8
            go_wp2_with fail
            refine Calls.mono (sameBools_refl (St.needOut p (q : Int)) w9 _ _ (needOut_fit (q : Int) HFT.out) HN9.out HM9.out) ?_
            rintro _ w10 ⟨rfl, hb10⟩
            have HQ10 : Hid _ := HQ9.out.below hb10
            have HR10 : Hid _ := HR9.out.below hb10
            have HY10 : Hid _ := (hb10.block _ (heap_lt HY9.out)).trans HY9.out
            have HZ10 : Hid _ := (hb10.block _ (heap_lt HZ9.out)).trans HZ9.out
            have HB10 : Hid _ := HB9.out.trans (hb10.mono HB9.out.size)
            clear hb10 HN9 HM9 HQ9 HR9 HY9 HZ9 HB9
            have y0 : w10.cell? ⟨YB, 0, none⟩ = some (.slice f0 (St.focOut p (q : Int)).arity.length m0) := by rw [Lib.cell_of_heap HY10.out]; rfl
            have y1 : w10.cell? ⟨YB, 1, none⟩ = some (.slice f1 (St.focOut p (q : Int)).names.length m1) := by rw [Lib.cell_of_heap HY10.out]; rfl
            have y2 : w10.cell? ⟨YB, 2, none⟩ = some (.slice f2 (St.focOut p (q : Int)).rules.length m2) := by rw [Lib.cell_of_heap HY10.out]; rfl
            have z0 : w10.cell? ⟨ZB, 0, none⟩ = some (.slice a0 p.arity.length n0) := by rw [Lib.cell_of_heap HZ10.out]; rfl
            have z1 : w10.cell? ⟨ZB, 1, none⟩ = some (.slice a1 p.names.length n1) := by rw [Lib.cell_of_heap HZ10.out]; rfl
            have z2 : w10.cell? ⟨ZB, 2, none⟩ = some (.slice gu (St.focus p q).rules.length gc) := by rw [Lib.cell_of_heap HZ10.out]; rfl
            go_wp2_with fail
            refine Calls.mono (sameProg_refl (St.focOut p (q : Int)) _ _ _ _ _ _ w10 HQ10.out HR10.out (focOut_fit (q : Int) HFT.out)) ?_
            rintro _ w11 ⟨rfl, hb11⟩
            have HB11 : Hid _ := HB10.out.trans (hb11.mono HB10.out.size)
            clear hb11 y0 y1 y2 z0 z1 z2 HQ10 HR10 HY10 HZ10 HB10
            go_wp2_with fail
            exact bodyPost_ret (v := .bool true) (by simp [results, Try.results3, go_sem]) rfl ⟨rfl, HB11.out⟩
    · have HE0 : Hid _ := St.levErr_not HC.out hf
      rw [HE0.out.1, hf]
      clear hf hfl HV7
      by_cases h0 : k < 0
      · have HE : Hid _ := St.needErr_out (k := k) HC.out (by simp [St.isIn]; omega)
        have hd : decide (k < 0) = true := decide_eq_true h0
        rw [HE.out.1]
        clear h0
        have bZ : Below w7.heap.size w7 (w7.alloc (.cells #[.slice none 0 0, .slice none 0 0, .slice none 0 0] 26)) := (Below.refl _ _).alloc (Nat.le_refl _) _
        have HLe : Hid _ := intsV_below HL7.out bZ
        have HNe : Hid _ := boolsV_below HN7.out bZ
        have HQe : Hid _ := HQ7.out.below bZ
        have HYe : Hid _ := (bZ.block _ (heap_lt HY7.out)).trans HY7.out
        have HXe : Hid _ := (bZ.block _ (heap_lt HX7.out)).trans HX7.out
        have HPe : Hid _ := HP7.out.below bZ
        have HZe : Hid _ := heap_alloc_new w7 (.cells #[.slice none 0 0, .slice none 0 0, .slice none 0 0] 26)
        have HYZ : Hid (YB < w7.heap.size) := heap_lt HY7.out
        have HWZ : Hid (w.heap.size ≤ w7.heap.size) := HB7.out.size
        have HBe : Hid _ := HB7.out.trans (bZ.mono HB7.out.size)
        have HVe : Hid (IntsV (w7.alloc (.cells #[.slice none 0 0, .slice none 0 0, .slice none 0 0] 26)) (.slice none 0 0) (St.levOut p)) := nilInts _ HE0.out.2
        clear bZ HL7 HN7 HQ7 HY7 HB7 HX7 HP7
        generalize hWe : w7.alloc (.cells #[.slice none 0 0, .slice none 0 0, .slice none 0 0] 26) = we at HLe HNe HQe HYe HXe HPe HZe HBe HVe
        have HMe : Hid (BoolsV we (.slice none 0 0) (St.needOut p k)) := nilBools _ HE.out.2
        have HRe : Hid (ProgV we (.slice none 0 0) (.slice none 0 0) (.slice none 0 0) (St.focOut p k)) := nilProg _ (focOut_bad (by rw [HE.out.1]; decide))
        go_upto_region 18 with fail
        generalize w7.heap.size = ZB at HZe HYZ HWZ ⊢
        clear hWe HXe HPe
        go_wp2_with fail
        refine Calls.mono (strataBegun_any _) ?_
        rintro _ w8 ⟨rfl, hb8⟩
        have HL8 : Hid _ := intsV_below HLe.out hb8
        have HV8 : Hid _ := intsV_below HVe.out hb8
        have HN8 : Hid _ := boolsV_below HNe.out hb8
        have HM8 : Hid _ := boolsV_below HMe.out hb8
        have HQ8 : Hid _ := HQe.out.below hb8
        have HR8 : Hid _ := HRe.out.below hb8
        have HY8 : Hid _ := (hb8.block _ (heap_lt HYe.out)).trans HYe.out
        have HZ8 : Hid _ := (hb8.block _ (heap_lt HZe.out)).trans HZe.out
        have HB8 : Hid _ := HBe.out.trans (hb8.mono HBe.out.size)
        clear hb8 HLe HVe HNe HMe HQe HRe HYe HZe HBe
        go_wp2_with fail
        refine Calls.mono (sameInts_refl (St.levOut p) w8 _ _ (levOut_fit HFT.out) HL8.out HV8.out) ?_
        rintro _ w9 ⟨rfl, hb9⟩
        have HN9 : Hid _ := boolsV_below HN8.out hb9
        have HM9 : Hid _ := boolsV_below HM8.out hb9
        have HQ9 : Hid _ := HQ8.out.below hb9
        have HR9 : Hid _ := HR8.out.below hb9
        have HY9 : Hid _ := (hb9.block _ (heap_lt HY8.out)).trans HY8.out
        have HZ9 : Hid _ := (hb9.block _ (heap_lt HZ8.out)).trans HZ8.out
        have HB9 : Hid _ := HB8.out.trans (hb9.mono HB8.out.size)
        clear hb9 HL8 HV8 HN8 HM8 HQ8 HR8 HY8 HZ8 HB8
        go_wp2_with fail
        refine Calls.mono (sameBools_refl (St.needOut p k) w9 _ _ (needOut_fit k HFT.out) HN9.out HM9.out) ?_
        rintro _ w10 ⟨rfl, hb10⟩
        have HQ10 : Hid _ := HQ9.out.below hb10
        have HR10 : Hid _ := HR9.out.below hb10
        have HY10 : Hid _ := (hb10.block _ (heap_lt HY9.out)).trans HY9.out
        have HZ10 : Hid _ := (hb10.block _ (heap_lt HZ9.out)).trans HZ9.out
        have HB10 : Hid _ := HB9.out.trans (hb10.mono HB9.out.size)
        clear hb10 HN9 HM9 HQ9 HR9 HY9 HZ9 HB9
        have y0 : w10.cell? ⟨YB, 0, none⟩ = some (.slice f0 (St.focOut p k).arity.length m0) := by rw [Lib.cell_of_heap HY10.out]; rfl
        have y1 : w10.cell? ⟨YB, 1, none⟩ = some (.slice f1 (St.focOut p k).names.length m1) := by rw [Lib.cell_of_heap HY10.out]; rfl
        have y2 : w10.cell? ⟨YB, 2, none⟩ = some (.slice f2 (St.focOut p k).rules.length m2) := by rw [Lib.cell_of_heap HY10.out]; rfl
        have z0 : w10.cell? ⟨ZB, 0, none⟩ = some (.slice none 0 0) := by rw [Lib.cell_of_heap HZ10.out]; rfl
        have z1 : w10.cell? ⟨ZB, 1, none⟩ = some (.slice none 0 0) := by rw [Lib.cell_of_heap HZ10.out]; rfl
        have z2 : w10.cell? ⟨ZB, 2, none⟩ = some (.slice none 0 0) := by rw [Lib.cell_of_heap HZ10.out]; rfl
        go_wp2_with fail
        refine Calls.mono (sameProg_refl (St.focOut p k) _ _ _ _ _ _ w10 HQ10.out HR10.out (focOut_fit k HFT.out)) ?_
        rintro _ w11 ⟨rfl, hb11⟩
        have HB11 : Hid _ := HB10.out.trans (hb11.mono HB10.out.size)
        clear hb11 y0 y1 y2 z0 z1 z2 HQ10 HR10 HY10 HZ10 HB10
        go_wp2_with fail
        exact bodyPost_ret (v := .bool true) (by simp [results, Try.results3, go_sem]) rfl ⟨rfl, HB11.out⟩
      · have hd : decide (k < 0) = false := decide_eq_false h0
        by_cases h1 : (p.arity.length : Int) ≤ k
        · have HE : Hid _ := St.needErr_out (k := k) HC.out (by simp [St.isIn]; omega)
          have hd1 : decide ((p.arity.length : Int) ≤ k) = true := decide_eq_true h1
          rw [HE.out.1]
          clear h0 h1
          have bZ : Below w7.heap.size w7 (w7.alloc (.cells #[.slice none 0 0, .slice none 0 0, .slice none 0 0] 26)) := (Below.refl _ _).alloc (Nat.le_refl _) _
          have HLe : Hid _ := intsV_below HL7.out bZ
          have HNe : Hid _ := boolsV_below HN7.out bZ
          have HQe : Hid _ := HQ7.out.below bZ
          have HYe : Hid _ := (bZ.block _ (heap_lt HY7.out)).trans HY7.out
          have HXe : Hid _ := (bZ.block _ (heap_lt HX7.out)).trans HX7.out
          have HPe : Hid _ := HP7.out.below bZ
          have HZe : Hid _ := heap_alloc_new w7 (.cells #[.slice none 0 0, .slice none 0 0, .slice none 0 0] 26)
          have HYZ : Hid (YB < w7.heap.size) := heap_lt HY7.out
          have HWZ : Hid (w.heap.size ≤ w7.heap.size) := HB7.out.size
          have HBe : Hid _ := HB7.out.trans (bZ.mono HB7.out.size)
          have HVe : Hid (IntsV (w7.alloc (.cells #[.slice none 0 0, .slice none 0 0, .slice none 0 0] 26)) (.slice none 0 0) (St.levOut p)) := nilInts _ HE0.out.2
          clear bZ HL7 HN7 HQ7 HY7 HB7 HX7 HP7
          generalize hWe : w7.alloc (.cells #[.slice none 0 0, .slice none 0 0, .slice none 0 0] 26) = we at HLe HNe HQe HYe HXe HPe HZe HBe HVe
          have HMe : Hid (BoolsV we (.slice none 0 0) (St.needOut p k)) := nilBools _ HE.out.2
          have HRe : Hid (ProgV we (.slice none 0 0) (.slice none 0 0) (.slice none 0 0) (St.focOut p k)) := nilProg _ (focOut_bad (by rw [HE.out.1]; decide))
          go_upto_region 18 with fail
          generalize w7.heap.size = ZB at HZe HYZ HWZ ⊢
          clear hWe HXe HPe
          go_wp2_with fail
          refine Calls.mono (strataBegun_any _) ?_
          rintro _ w8 ⟨rfl, hb8⟩
          have HL8 : Hid _ := intsV_below HLe.out hb8
          have HV8 : Hid _ := intsV_below HVe.out hb8
          have HN8 : Hid _ := boolsV_below HNe.out hb8
          have HM8 : Hid _ := boolsV_below HMe.out hb8
          have HQ8 : Hid _ := HQe.out.below hb8
          have HR8 : Hid _ := HRe.out.below hb8
          have HY8 : Hid _ := (hb8.block _ (heap_lt HYe.out)).trans HYe.out
          have HZ8 : Hid _ := (hb8.block _ (heap_lt HZe.out)).trans HZe.out
          have HB8 : Hid _ := HBe.out.trans (hb8.mono HBe.out.size)
          clear hb8 HLe HVe HNe HMe HQe HRe HYe HZe HBe
          go_wp2_with fail
          refine Calls.mono (sameInts_refl (St.levOut p) w8 _ _ (levOut_fit HFT.out) HL8.out HV8.out) ?_
          rintro _ w9 ⟨rfl, hb9⟩
          have HN9 : Hid _ := boolsV_below HN8.out hb9
          have HM9 : Hid _ := boolsV_below HM8.out hb9
          have HQ9 : Hid _ := HQ8.out.below hb9
          have HR9 : Hid _ := HR8.out.below hb9
          have HY9 : Hid _ := (hb9.block _ (heap_lt HY8.out)).trans HY8.out
          have HZ9 : Hid _ := (hb9.block _ (heap_lt HZ8.out)).trans HZ8.out
          have HB9 : Hid _ := HB8.out.trans (hb9.mono HB8.out.size)
          clear hb9 HL8 HV8 HN8 HM8 HQ8 HR8 HY8 HZ8 HB8
          go_wp2_with fail
          refine Calls.mono (sameBools_refl (St.needOut p k) w9 _ _ (needOut_fit k HFT.out) HN9.out HM9.out) ?_
          rintro _ w10 ⟨rfl, hb10⟩
          have HQ10 : Hid _ := HQ9.out.below hb10
          have HR10 : Hid _ := HR9.out.below hb10
          have HY10 : Hid _ := (hb10.block _ (heap_lt HY9.out)).trans HY9.out
          have HZ10 : Hid _ := (hb10.block _ (heap_lt HZ9.out)).trans HZ9.out
          have HB10 : Hid _ := HB9.out.trans (hb10.mono HB9.out.size)
          clear hb10 HN9 HM9 HQ9 HR9 HY9 HZ9 HB9
          have y0 : w10.cell? ⟨YB, 0, none⟩ = some (.slice f0 (St.focOut p k).arity.length m0) := by rw [Lib.cell_of_heap HY10.out]; rfl
          have y1 : w10.cell? ⟨YB, 1, none⟩ = some (.slice f1 (St.focOut p k).names.length m1) := by rw [Lib.cell_of_heap HY10.out]; rfl
          have y2 : w10.cell? ⟨YB, 2, none⟩ = some (.slice f2 (St.focOut p k).rules.length m2) := by rw [Lib.cell_of_heap HY10.out]; rfl
          have z0 : w10.cell? ⟨ZB, 0, none⟩ = some (.slice none 0 0) := by rw [Lib.cell_of_heap HZ10.out]; rfl
          have z1 : w10.cell? ⟨ZB, 1, none⟩ = some (.slice none 0 0) := by rw [Lib.cell_of_heap HZ10.out]; rfl
          have z2 : w10.cell? ⟨ZB, 2, none⟩ = some (.slice none 0 0) := by rw [Lib.cell_of_heap HZ10.out]; rfl
          go_wp2_with fail
          refine Calls.mono (sameProg_refl (St.focOut p k) _ _ _ _ _ _ w10 HQ10.out HR10.out (focOut_fit k HFT.out)) ?_
          rintro _ w11 ⟨rfl, hb11⟩
          have HB11 : Hid _ := HB10.out.trans (hb11.mono HB10.out.size)
          clear hb11 y0 y1 y2 z0 z1 z2 HQ10 HR10 HY10 HZ10 HB10
          go_wp2_with fail
          exact bodyPost_ret (v := .bool true) (by simp [results, Try.results3, go_sem]) rfl ⟨rfl, HB11.out⟩
        · have HE : Hid _ := St.needErr_in (k := k) HC.out (by simp [St.isIn]; omega)
          rw [HE.out.1]
          obtain ⟨q, rfl⟩ : ∃ q : Nat, k = q := ⟨k.toNat, by omega⟩
          have hq : q < p.arity.length := by omega
          have hd1 : decide ((p.arity.length : Int) ≤ (q : Int)) = false := decide_eq_false h1
          have hd1n : decide (p.arity.length ≤ q) = false := decide_eq_false (by omega)
          clear h0 h1
          have bZ : Below w7.heap.size w7 (w7.alloc (.cells #[.slice none 0 0, .slice none 0 0, .slice none 0 0] 26)) := (Below.refl _ _).alloc (Nat.le_refl _) _
          have HLe : Hid _ := intsV_below HL7.out bZ
          have HNe : Hid _ := boolsV_below HN7.out bZ
          have HQe : Hid _ := HQ7.out.below bZ
          have HYe : Hid _ := (bZ.block _ (heap_lt HY7.out)).trans HY7.out
          have HXe : Hid _ := (bZ.block _ (heap_lt HX7.out)).trans HX7.out
          have HPe : Hid _ := HP7.out.below bZ
          have HZe : Hid _ := heap_alloc_new w7 (.cells #[.slice none 0 0, .slice none 0 0, .slice none 0 0] 26)
          have HYZ : Hid (YB < w7.heap.size) := heap_lt HY7.out
          have HWZ : Hid (w.heap.size ≤ w7.heap.size) := HB7.out.size
          have HBe : Hid _ := HB7.out.trans (bZ.mono HB7.out.size)
          have HVe : Hid (IntsV (w7.alloc (.cells #[.slice none 0 0, .slice none 0 0, .slice none 0 0] 26)) (.slice none 0 0) (St.levOut p)) := nilInts _ HE0.out.2
          clear bZ HL7 HN7 HQ7 HY7 HB7 HX7 HP7
          generalize hWe : w7.alloc (.cells #[.slice none 0 0, .slice none 0 0, .slice none 0 0] 26) = we at HLe HNe HQe HYe HXe HPe HZe HBe HVe
          go_upto_region 17 with fail
          generalize w7.heap.size = ZB at HZe HYZ HWZ ⊢
          clear hWe
          clear c0
          have c0 : we.cell? ⟨w.heap.size, 0, none⟩ = some (.slice a0 p.arity.length n0) := by rw [Lib.cell_of_heap HXe.out]; rfl
          have c1 : we.cell? ⟨w.heap.size, 1, none⟩ = some (.slice a1 p.names.length n1) := by rw [Lib.cell_of_heap HXe.out]; rfl
          have c2 : we.cell? ⟨w.heap.size, 2, none⟩ = some (.slice a2 p.rules.length n2) := by rw [Lib.cell_of_heap HXe.out]; rfl
          refine wp_region_tail (tlT (progVal (.slice a0 p.arity.length n0) (.slice a1 p.names.length n1) (.slice a2 p.rules.length n2)) (.slice a0 p.arity.length n0) (.slice a1 p.names.length n1) q (St.needs p q) (St.focus p q).rules) 7 (by decide) (by kernel_rfl) (by kernel_rfl) (by kernel_rfl) (tlT_mono _ _ _ _ _ _) ?hop ?htail
          case hop =>
            refine AllOps.cons (fun a y h => ?_) ?_
            · have e2 : a.eval (.tmp 2) = (.pointer (some ⟨w.heap.size, 0, none⟩)) := h.old 2 (by kernel_rfl)
              have g0 := cell_below h.below c0
              have g1 := cell_below h.below c1
              have g2 := cell_below h.below c2
              refine opOk_val (v := (progVal (.slice a0 p.arity.length n0) (.slice a1 p.names.length n1) (.slice a2 p.rules.length n2))) (w' := y) (wanted_none rfl) ?_ (fun t ht => by cases ht; exact rfl) (Below.refl _ _)
              generalize a.eval = ev at *
              clear h
              go_simp
            refine AllOps.cons (fun a y h => ?_) ?_
            · have e1 : a.eval (.tmp 1) = (.int .i64 (q : Int)) := h.old 1 (by kernel_rfl)
              refine opOk_val (v := .int .i64 (q : Int)) (w' := y) (wanted_none rfl) ?_ (fun t ht => by cases ht; exact rfl) (Below.refl _ _)
              generalize a.eval = ev at *
              clear h
              go_simp
            refine AllOps.cons (fun a y h => ?_) ?_
            · have e62 : a.eval (.tmp 62) = (progVal (.slice a0 p.arity.length n0) (.slice a1 p.names.length n1) (.slice a2 p.rules.length n2)) := h.of 62 (by kernel_rfl)
              have e63 : a.eval (.tmp 63) = .int .i64 (q : Int) := h.of 63 (by kernel_rfl)
              refine opOk_call (f := 12) (args := #[(progVal (.slice a0 p.arity.length n0) (.slice a1 p.names.length n1) (.slice a2 p.rules.length n2)), .int .i64 (q : Int)]) (wanted_none rfl) ?_ ?_
              · have ef : ∀ f, a.eval (.func f) = .func (.func f) #[] #[] := fun _ => rfl
                generalize a.eval = ev at *
                clear h
                go_simp
              · refine Calls.mono (NeedsOf_any p q _ _ _ y (HPe.out.below h.below) HC.out hq) ?_
                rintro _ y2 ⟨v9, rfl, hv9, hb9⟩
                exact ⟨v9, rfl, fun t ht => by cases ht; exact hv9, hb9⟩
            refine AllOps.cons (fun a y h => ?_) ?_
            · have e2 : a.eval (.tmp 2) = (.pointer (some ⟨w.heap.size, 0, none⟩)) := h.old 2 (by kernel_rfl)
              have g0 := cell_below h.below c0
              have g1 := cell_below h.below c1
              have g2 := cell_below h.below c2
              refine opOk_val (v := (progVal (.slice a0 p.arity.length n0) (.slice a1 p.names.length n1) (.slice a2 p.rules.length n2))) (w' := y) (wanted_none rfl) ?_ (fun t ht => by cases ht; exact rfl) (Below.refl _ _)
              generalize a.eval = ev at *
              clear h
              go_simp
            refine AllOps.cons (fun a y h => ?_) ?_
            · have e1 : a.eval (.tmp 1) = (.int .i64 (q : Int)) := h.old 1 (by kernel_rfl)
              refine opOk_val (v := .int .i64 (q : Int)) (w' := y) (wanted_none rfl) ?_ (fun t ht => by cases ht; exact rfl) (Below.refl _ _)
              generalize a.eval = ev at *
              clear h
              go_simp
            refine AllOps.cons (fun a y h => ?_) ?_
            · have e65 : a.eval (.tmp 65) = (progVal (.slice a0 p.arity.length n0) (.slice a1 p.names.length n1) (.slice a2 p.rules.length n2)) := h.of 65 (by kernel_rfl)
              have e66 : a.eval (.tmp 66) = .int .i64 (q : Int) := h.of 66 (by kernel_rfl)
              refine opOk_call (f := 13) (args := #[(progVal (.slice a0 p.arity.length n0) (.slice a1 p.names.length n1) (.slice a2 p.rules.length n2)), .int .i64 (q : Int)]) (wanted_none rfl) ?_ ?_
              · have ef : ∀ f, a.eval (.func f) = .func (.func f) #[] #[] := fun _ => rfl
                generalize a.eval = ev at *
                clear h
                go_simp
              · refine Calls.mono (FocusOf_any p q _ _ _ y (HPe.out.below h.below) HC.out hq) ?_
                rintro _ y2 ⟨ur9, rfl, hv9, hb9⟩
                exact ⟨_, rfl, fun t ht => by cases ht; exact ⟨ur9, rfl, hv9⟩, hb9⟩
            refine AllOps.cons (fun a y h => ?_) ?_
            · have t64 : BoolsV y (a.eval (.tmp 64)) (St.needs p q) := h.of 64 (by kernel_rfl)
              obtain ⟨xa, xc, e64, _⟩ := id t64
              rw [e64] at t64
              refine opOk_val (v := .slice xa (St.needs p q).length xc) (w' := y) (wanted_none rfl) ?_ (fun t ht => by cases ht; exact t64) (Below.refl _ _)
              generalize a.eval = ev at *
              clear h t64
              go_simp
            exact AllOps.nil
          case htail =>
            rintro ⟨tm, df⟩ y hI
            obtain ⟨gv, e67, hG⟩ : ∃ ur, Act.eval ⟨tm, df⟩ (.tmp 67) = progVal (.slice a0 p.arity.length n0) (.slice a1 p.names.length n1) ur ∧ PRulesV y ur (St.focus p q).rules := hI.all 5 _ 67 (by decide) rfl rfl
            have hM : BoolsV y (Act.eval ⟨tm, df⟩ (.tmp 16)) (St.needs p q) := hI.all 6 _ 16 (by decide) rfl rfl
            obtain ⟨gu, gc, rfl, _⟩ := id hG
            obtain ⟨ma, mc, e16, _⟩ := id hM
            rw [e16] at hM
            have e17 : Act.eval ⟨tm, df⟩ (.tmp 17) = .pointer (some ⟨ZB, 0, none⟩) := hI.still 17 (by simp)
            have k0 := (hI.below.block _ (heap_lt HZe.out)).trans HZe.out
            have z0 : y.cell? ⟨ZB, 0, none⟩ = some (.slice none 0 0) := by rw [Lib.cell_of_heap k0]; rfl
            have y0 := Lib.frozen_of_heap k0 0
            have k1 : (y.setCell ⟨ZB, 0, none⟩ (.slice a0 p.arity.length n0)).heap[ZB]? = some (.cells #[.slice a0 p.arity.length n0, .slice none 0 0, .slice none 0 0] 26) := by rw [Lib.heap_setCell_same k0]; rfl
            have z1 : (y.setCell ⟨ZB, 0, none⟩ (.slice a0 p.arity.length n0)).cell? ⟨ZB, 1, none⟩ = some (.slice none 0 0) := by rw [Lib.cell_of_heap k1]; rfl
            have y1 := Lib.frozen_of_heap k1 1
            have k2 : ((y.setCell ⟨ZB, 0, none⟩ (.slice a0 p.arity.length n0)).setCell ⟨ZB, 1, none⟩ (.slice a1 p.names.length n1)).heap[ZB]? = some (.cells #[.slice a0 p.arity.length n0, .slice a1 p.names.length n1, .slice none 0 0] 26) := by rw [Lib.heap_setCell_same k1]; rfl
            have z2 : ((y.setCell ⟨ZB, 0, none⟩ (.slice a0 p.arity.length n0)).setCell ⟨ZB, 1, none⟩ (.slice a1 p.names.length n1)).cell? ⟨ZB, 2, none⟩ = some (.slice none 0 0) := by rw [Lib.cell_of_heap k2]; rfl
            have y2 := Lib.frozen_of_heap k2 2
            have k3 : (((y.setCell ⟨ZB, 0, none⟩ (.slice a0 p.arity.length n0)).setCell ⟨ZB, 1, none⟩ (.slice a1 p.names.length n1)).setCell ⟨ZB, 2, none⟩ (.slice gu (St.focus p q).rules.length gc)).heap[ZB]? = some (.cells #[.slice a0 p.arity.length n0, .slice a1 p.names.length n1, .slice gu (St.focus p q).rules.length gc] 26) := by rw [Lib.heap_setCell_same k2]; rfl
            have hcl : Cl ZB y (((y.setCell ⟨ZB, 0, none⟩ (.slice a0 p.arity.length n0)).setCell ⟨ZB, 1, none⟩ (.slice a1 p.names.length n1)).setCell ⟨ZB, 2, none⟩ (.slice gu (St.focus p q).rules.length gc)) := cl_box k0 fun k hk => by rw [heap_set_other hk, heap_set_other hk, heap_set_other hk]
            have hYZ : ¬ YB = ZB := Nat.ne_of_lt HYZ.out
            have hYe : (((y.setCell ⟨ZB, 0, none⟩ (.slice a0 p.arity.length n0)).setCell ⟨ZB, 1, none⟩ (.slice a1 p.names.length n1)).setCell ⟨ZB, 2, none⟩ (.slice gu (St.focus p q).rules.length gc)).heap[YB]? = some (.cells #[.slice f0 (St.focOut p q).arity.length m0, .slice f1 (St.focOut p q).names.length m1, .slice f2 (St.focOut p q).rules.length m2] 26) := by
              rw [heap_set_other hYZ, heap_set_other hYZ, heap_set_other hYZ]
              exact (hI.below.block _ (heap_lt HYe.out)).trans HYe.out
            have hLe := hcl.ints (intsV_below HLe.out hI.below)
            have hVe := hcl.ints (intsV_below HVe.out hI.below)
            have hNe := hcl.bools (boolsV_below HNe.out hI.below)
            have hQe := hcl.prog (HQe.out.below hI.below)
            have hPp := hcl.prog (HPe.out.below hI.below)
            have hGe := hcl.rules hG
            have hMe := hcl.bools hM
            have hBw := HBe.out.trans (hI.below.mono HBe.out.size)
            have hBe := ((hBw.setCell (p := ⟨ZB, 0, none⟩) HWZ.out (.slice a0 p.arity.length n0)).setCell (p := ⟨ZB, 1, none⟩) HWZ.out (.slice a1 p.names.length n1)).setCell (p := ⟨ZB, 2, none⟩) HWZ.out (.slice gu (St.focus p q).rules.length gc)
            show wpOps Try.prog _ _ [7] _ _
            rw [wpOps_cons]
            refine wpOp_void rfl (wanted_none rfl) rfl (w' := (((y.setCell ⟨ZB, 0, none⟩ (.slice a0 p.arity.length n0)).setCell ⟨ZB, 1, none⟩ (.slice a1 p.names.length n1)).setCell ⟨ZB, 2, none⟩ (.slice gu (St.focus p q).rules.length gc))) ?_ ?_
            · generalize Act.eval ⟨tm, df⟩ = ev at *
              clear hI hM hG hcl hYe hLe hVe hNe hQe hPp hGe hMe hBw hBe
              go_simp
            have hs2 := hI.size
            have hst := hI.still
            obtain rfl : df = [] := hI.defers
            have h16 : tm.getD 16 undef = .slice ma (St.needs p q).length mc := e16
            clear HLe HVe HNe HQe HPe HYe HZe HBe HXe
            have HLe : Hid _ := hLe
            have HVe : Hid _ := hVe
            have HNe : Hid _ := hNe
            have HQe : Hid _ := hQe
            have HYe : Hid _ := hYe
            have HZe : Hid _ := k3
            have HBe : Hid _ := hBe
            have HFO : Hid (St.focOut p (q : Int) = St.focus p q) := if_pos HE.out.1
            have HMe : Hid (BoolsV (((y.setCell ⟨ZB, 0, none⟩ (.slice a0 p.arity.length n0)).setCell ⟨ZB, 1, none⟩ (.slice a1 p.names.length n1)).setCell ⟨ZB, 2, none⟩ (.slice gu (St.focus p q).rules.length gc)) (.slice ma (St.needs p q).length mc) (St.needOut p (q : Int))) := by rw [HE.out.2]; exact hMe
            have HRe : Hid (ProgV (((y.setCell ⟨ZB, 0, none⟩ (.slice a0 p.arity.length n0)).setCell ⟨ZB, 1, none⟩ (.slice a1 p.names.length n1)).setCell ⟨ZB, 2, none⟩ (.slice gu (St.focus p q).rules.length gc)) (.slice a0 p.arity.length n0) (.slice a1 p.names.length n1) (.slice gu (St.focus p q).rules.length gc) (St.focOut p (q : Int))) := by rw [HFO.out]; exact ⟨hPp.ar, hPp.nm, hGe⟩
            clear hI hM hG hcl hYe hLe hVe hNe hQe hPp hGe hMe hBw hBe e16 e17 e67 k0 k1 k2 k3 z0 z1 z2 y0 y1 y2 hYZ c0 c1 c2
            generalize (((y.setCell ⟨ZB, 0, none⟩ (.slice a0 p.arity.length n0)).setCell ⟨ZB, 1, none⟩ (.slice a1 p.names.length n1)).setCell ⟨ZB, 2, none⟩ (.slice gu (St.focus p q).rules.length gc)) = y3 at *
            show Exit.then _ _ Exit.normal ⟨tm, []⟩ y3
            have hF8 := tmps_fold [62, 63, 64, 65, 66, 67, 16] tm _ hs2 hst
            clear hs2 hst
            simp only [List.foldl_cons, List.foldl_nil, h16] at hF8
            clear h16
            generalize tm.getD 62 undef = x62 at hF8
            generalize tm.getD 63 undef = x63 at hF8
            generalize tm.getD 64 undef = x64 at hF8
            generalize tm.getD 65 undef = x65 at hF8
            generalize tm.getD 66 undef = x66 at hF8
            generalize tm.getD 67 undef = x67 at hF8
            simp only [List.setIfInBounds_toArray, List.set_cons_zero, List.set_cons_succ] at hF8
            subst hF8
            go_wp2_with fail
            refine Calls.mono (strataBegun_any _) ?_
            rintro _ w8 ⟨rfl, hb8⟩
            have HL8 : Hid _ := intsV_below HLe.out hb8
            have HV8 : Hid _ := intsV_below HVe.out hb8
            have HN8 : Hid _ := boolsV_below HNe.out hb8
            have HM8 : Hid _ := boolsV_below HMe.out hb8
            have HQ8 : Hid _ := HQe.out.below hb8
            have HR8 : Hid _ := HRe.out.below hb8
            have HY8 : Hid _ := (hb8.block _ (heap_lt HYe.out)).trans HYe.out
            have HZ8 : Hid _ := (hb8.block _ (heap_lt HZe.out)).trans HZe.out
            have HB8 : Hid _ := HBe.out.trans (hb8.mono HBe.out.size)
            clear hb8 HLe HVe HNe HMe HQe HRe HYe HZe HBe
            go_wp2_with fail
            refine Calls.mono (sameInts_refl (St.levOut p) w8 _ _ (levOut_fit HFT.out) HL8.out HV8.out) ?_
            rintro _ w9 ⟨rfl, hb9⟩
            have HN9 : Hid _ := boolsV_below HN8.out hb9
            have HM9 : Hid _ := boolsV_below HM8.out hb9
            have HQ9 : Hid _ := HQ8.out.below hb9
            have HR9 : Hid _ := HR8.out.below hb9
            have HY9 : Hid _ := (hb9.block _ (heap_lt HY8.out)).trans HY8.out
            have HZ9 : Hid _ := (hb9.block _ (heap_lt HZ8.out)).trans HZ8.out
            have HB9 : Hid _ := HB8.out.trans (hb9.mono HB8.out.size)
            clear hb9 HL8 HV8 HN8 HM8 HQ8 HR8 HY8 HZ8 HB8
            go_wp2_with fail
            refine Calls.mono (sameBools_refl (St.needOut p (q : Int)) w9 _ _ (needOut_fit (q : Int) HFT.out) HN9.out HM9.out) ?_
            rintro _ w10 ⟨rfl, hb10⟩
            have HQ10 : Hid _ := HQ9.out.below hb10
            have HR10 : Hid _ := HR9.out.below hb10
            have HY10 : Hid _ := (hb10.block _ (heap_lt HY9.out)).trans HY9.out
            have HZ10 : Hid _ := (hb10.block _ (heap_lt HZ9.out)).trans HZ9.out
            have HB10 : Hid _ := HB9.out.trans (hb10.mono HB9.out.size)
            clear hb10 HN9 HM9 HQ9 HR9 HY9 HZ9 HB9
            have y0 : w10.cell? ⟨YB, 0, none⟩ = some (.slice f0 (St.focOut p (q : Int)).arity.length m0) := by rw [Lib.cell_of_heap HY10.out]; rfl
            have y1 : w10.cell? ⟨YB, 1, none⟩ = some (.slice f1 (St.focOut p (q : Int)).names.length m1) := by rw [Lib.cell_of_heap HY10.out]; rfl
            have y2 : w10.cell? ⟨YB, 2, none⟩ = some (.slice f2 (St.focOut p (q : Int)).rules.length m2) := by rw [Lib.cell_of_heap HY10.out]; rfl
            have z0 : w10.cell? ⟨ZB, 0, none⟩ = some (.slice a0 p.arity.length n0) := by rw [Lib.cell_of_heap HZ10.out]; rfl
            have z1 : w10.cell? ⟨ZB, 1, none⟩ = some (.slice a1 p.names.length n1) := by rw [Lib.cell_of_heap HZ10.out]; rfl
            have z2 : w10.cell? ⟨ZB, 2, none⟩ = some (.slice gu (St.focus p q).rules.length gc) := by rw [Lib.cell_of_heap HZ10.out]; rfl
            go_wp2_with fail
            refine Calls.mono (sameProg_refl (St.focOut p (q : Int)) _ _ _ _ _ _ w10 HQ10.out HR10.out (focOut_fit (q : Int) HFT.out)) ?_
            rintro _ w11 ⟨rfl, hb11⟩
            have HB11 : Hid _ := HB10.out.trans (hb11.mono HB10.out.size)
            clear hb11 y0 y1 y2 z0 z1 z2 HQ10 HR10 HY10 HZ10 HB10
            go_wp2_with fail
            exact bodyPost_ret (v := .bool true) (by simp [results, Try.results3, go_sem]) rfl ⟨rfl, HB11.out⟩
  · have hcb : (Sc.check p == 0) = false := by simp [hc]
    have HE0 : Hid _ := St.levErr_bad hc
    have HE : Hid _ := St.needErr_bad (k := k) hc
    have HNE : Hid (¬ St.needErr p k = 0) := by rw [HE.out.1]; exact hc
    rw [HE0.out.1, HE.out.1]
    clear hc
    have bZ : Below w6.heap.size w6 (w6.alloc (.cells #[.slice none 0 0, .slice none 0 0, .slice none 0 0] 26)) := (Below.refl _ _).alloc (Nat.le_refl _) _
    have HLe : Hid _ := intsV_below HL6.out bZ
    have HNe : Hid _ := boolsV_below HN6.out bZ
    have HQe : Hid _ := HQ6.out.below bZ
    have HYe : Hid _ := (bZ.block _ (heap_lt HY6.out)).trans HY6.out
    have HXe : Hid _ := (bZ.block _ (heap_lt HX6.out)).trans HX6.out
    have HPe : Hid _ := HP6.out.below bZ
    have HZe : Hid _ := heap_alloc_new w6 (.cells #[.slice none 0 0, .slice none 0 0, .slice none 0 0] 26)
    have HYZ : Hid (YB < w6.heap.size) := heap_lt HY6.out
    have HWZ : Hid (w.heap.size ≤ w6.heap.size) := HB6.out.size
    have HBe : Hid _ := HB6.out.trans (bZ.mono HB6.out.size)
    have HVe : Hid (IntsV (w6.alloc (.cells #[.slice none 0 0, .slice none 0 0, .slice none 0 0] 26)) (.slice none 0 0) (St.levOut p)) := nilInts _ HE0.out.2
    clear bZ HL6 HN6 HQ6 HY6 HB6 HX6 HP6
    generalize hWe : w6.alloc (.cells #[.slice none 0 0, .slice none 0 0, .slice none 0 0] 26) = we at HLe HNe HQe HYe HXe HPe HZe HBe HVe
    have HMe : Hid (BoolsV we (.slice none 0 0) (St.needOut p k)) := nilBools _ HE.out.2
    have HRe : Hid (ProgV we (.slice none 0 0) (.slice none 0 0) (.slice none 0 0) (St.focOut p k)) := nilProg _ (focOut_bad HNE.out)
    go_upto_region 18 with fail
    generalize w6.heap.size = ZB at HZe HYZ HWZ ⊢
    clear hWe HXe HPe
    go_wp2_with fail
    refine Calls.mono (strataBegun_any _) ?_
    rintro _ w8 ⟨rfl, hb8⟩
    have HL8 : Hid _ := intsV_below HLe.out hb8
    have HV8 : Hid _ := intsV_below HVe.out hb8
    have HN8 : Hid _ := boolsV_below HNe.out hb8
    have HM8 : Hid _ := boolsV_below HMe.out hb8
    have HQ8 : Hid _ := HQe.out.below hb8
    have HR8 : Hid _ := HRe.out.below hb8
    have HY8 : Hid _ := (hb8.block _ (heap_lt HYe.out)).trans HYe.out
    have HZ8 : Hid _ := (hb8.block _ (heap_lt HZe.out)).trans HZe.out
    have HB8 : Hid _ := HBe.out.trans (hb8.mono HBe.out.size)
    clear hb8 HLe HVe HNe HMe HQe HRe HYe HZe HBe
    go_wp2_with fail
    refine Calls.mono (sameInts_refl (St.levOut p) w8 _ _ (levOut_fit HFT.out) HL8.out HV8.out) ?_
    rintro _ w9 ⟨rfl, hb9⟩
    have HN9 : Hid _ := boolsV_below HN8.out hb9
    have HM9 : Hid _ := boolsV_below HM8.out hb9
    have HQ9 : Hid _ := HQ8.out.below hb9
    have HR9 : Hid _ := HR8.out.below hb9
    have HY9 : Hid _ := (hb9.block _ (heap_lt HY8.out)).trans HY8.out
    have HZ9 : Hid _ := (hb9.block _ (heap_lt HZ8.out)).trans HZ8.out
    have HB9 : Hid _ := HB8.out.trans (hb9.mono HB8.out.size)
    clear hb9 HL8 HV8 HN8 HM8 HQ8 HR8 HY8 HZ8 HB8
    go_wp2_with fail
    refine Calls.mono (sameBools_refl (St.needOut p k) w9 _ _ (needOut_fit k HFT.out) HN9.out HM9.out) ?_
    rintro _ w10 ⟨rfl, hb10⟩
    have HQ10 : Hid _ := HQ9.out.below hb10
    have HR10 : Hid _ := HR9.out.below hb10
    have HY10 : Hid _ := (hb10.block _ (heap_lt HY9.out)).trans HY9.out
    have HZ10 : Hid _ := (hb10.block _ (heap_lt HZ9.out)).trans HZ9.out
    have HB10 : Hid _ := HB9.out.trans (hb10.mono HB9.out.size)
    clear hb10 HN9 HM9 HQ9 HR9 HY9 HZ9 HB9
    have y0 : w10.cell? ⟨YB, 0, none⟩ = some (.slice f0 (St.focOut p k).arity.length m0) := by rw [Lib.cell_of_heap HY10.out]; rfl
    have y1 : w10.cell? ⟨YB, 1, none⟩ = some (.slice f1 (St.focOut p k).names.length m1) := by rw [Lib.cell_of_heap HY10.out]; rfl
    have y2 : w10.cell? ⟨YB, 2, none⟩ = some (.slice f2 (St.focOut p k).rules.length m2) := by rw [Lib.cell_of_heap HY10.out]; rfl
    have z0 : w10.cell? ⟨ZB, 0, none⟩ = some (.slice none 0 0) := by rw [Lib.cell_of_heap HZ10.out]; rfl
    have z1 : w10.cell? ⟨ZB, 1, none⟩ = some (.slice none 0 0) := by rw [Lib.cell_of_heap HZ10.out]; rfl
    have z2 : w10.cell? ⟨ZB, 2, none⟩ = some (.slice none 0 0) := by rw [Lib.cell_of_heap HZ10.out]; rfl
    go_wp2_with fail
    refine Calls.mono (sameProg_refl (St.focOut p k) _ _ _ _ _ _ w10 HQ10.out HR10.out (focOut_fit k HFT.out)) ?_
    rintro _ w11 ⟨rfl, hb11⟩
    have HB11 : Hid _ := HB10.out.trans (hb11.mono HB10.out.size)
    clear hb11 y0 y1 y2 z0 z1 z2 HQ10 HR10 HY10 HZ10 HB10
    go_wp2_with fail
    exact bodyPost_ret (v := .bool true) (by simp [results, Try.results3, go_sem]) rfl ⟨rfl, HB11.out⟩
end Go.Proofs.Ytgpaleifhcdjnaa

/- A tree that came in, read out of memory. -/
namespace Go.Proofs.Ytgpaleifhcdjnaa
open Go.RowKit

theorem A_cells24 : Try.prog.cellsOf 125 = 1 := by kernel_rfl
theorem A_cells22 : Try.prog.cellsOf 123 = 1 := by kernel_rfl
theorem A_cells40 : Try.prog.cellsOf 119 = 1 := by kernel_rfl
theorem A_cells41 : Try.prog.cellsOf 120 = 1 := by kernel_rfl
theorem A_cells43 : Try.prog.cellsOf 122 = 5 := by kernel_rfl
theorem A_cells49 : Try.prog.cellsOf 152 = 5 := by kernel_rfl
theorem A_cells71 : Try.prog.cellsOf 160 = 2 := by kernel_rfl
theorem A_cells3 : Try.prog.cellsOf 3 = 1 := by kernel_rfl
theorem A_cells9 : Try.prog.cellsOf 9 = 1 := by kernel_rfl

theorem list2 {l : List Value} (h : l.length = 2) : ∃ a b, l = [a, b] := by
  match l, h with
  | [a, b], _ => exact ⟨a, b, rfl⟩
theorem list5 {l : List Value} (h : l.length = 5) : ∃ a b c d e, l = [a, b, c, d, e] := by
  match l, h with
  | [a, b, c, d, e], _ => exact ⟨a, b, c, d, e, rfl⟩

section
variable {H : Type} {enc : TypeId × Value → H} {w : World} {base : Nat} {spare : Nat → Bool} {held : Bool}

/-- A slice whose elements can be read. -/
theorem open_row {α : Type} {st e : TypeId} {k : Nat} (ht : Try.prog.underlying st = some (.slice e)) (hk : Try.prog.cellsOf e = k) (hk0 : 0 < k) (d : α) (In : Nat → Nat → α → Prop)
    (el : ∀ n cs' y b off, cs'.length = k → (∀ j, j < k → w.cell? ⟨b, off + j, none⟩ = cs'[j]?) → DataW.trod enc Try.prog w base spare held n e cs' = some y → ∃ a, In b off a)
    {fuel : Nat} {v : Value} {x : DataW H × List MemPlace} (h : DataW.trod enc Try.prog w base spare held fuel st [v] = some x) :
    ∃ (ao : Option Addr) (l : List α) (cap : Nat), v = .slice ao l.length cap ∧ l.length ≤ 9223372036854775807 ∧ (l = [] ∨ ∃ b off, ao = some ⟨b, off, none⟩ ∧ ∀ i, i < l.length → In b (off + i * k) (l.getD i d)) := by
  haveI : Inhabited α := ⟨d⟩
  rcases Deep.open_slice ht h with ⟨hv, _⟩ | ⟨a, len, cap, m, n, D, Pl, hv, hb, hl, hm, hmm, hx, hel⟩
  · have hv' : v = .slice none 0 0 := by simpa using hv
    exact ⟨none, [], 0, hv', by simp, .inl rfl⟩
  · have hv' : v = .slice (some a) len cap := by simpa using hv
    have hlm : len ≤ m := by rw [hmm]; split <;> omega
    by_cases h0 : len = 0
    · subst h0
      exact ⟨some a, [], cap, hv', by simp, .inl rfl⟩
    · obtain ⟨b, off, spot⟩ := a
      have hspot : spot = none := by
        obtain ⟨cs', h1, _⟩ := hel 0 (by omega)
        rw [hk] at h1
        obtain ⟨_, hlen, hcell⟩ := World.cells?_some h1
        have hc := hcell 0 hk0
        cases hcs : cs'[0]? with
        | none => rw [List.getElem?_eq_none_iff] at hcs; omega
        | some u =>
          rw [hcs] at hc
          simpa [Addr.add] using World.cell?_spot hc
      subst hspot
      have each : ∀ i, i < len → ∃ q : α, In b (off + i * k) q := by
        intro i hi
        obtain ⟨cs', h1, h2⟩ := hel i (by omega)
        rw [hk] at h1
        obtain ⟨_, hlen, hcell⟩ := World.cells?_some h1
        refine el n cs' _ b (off + i * k) hlen (fun j hj => ?_) h2
        have := hcell j hj
        rw [Deep.add_add, WideShapes.add_plain] at this
        rw [← this, Nat.add_assoc]
      obtain ⟨q, hq⟩ := Deep.choose_lt each
      refine ⟨some ⟨b, off, none⟩, (List.range len).map q, cap, by rw [hv']; simp, by unfold maxLen at hm; simp; omega, .inr ⟨b, off, rfl, fun i hi => ?_⟩⟩
      have hi' : i < len := by simpa using hi
      have ht : ((List.range len).map q).getD i d = q i := by
        rw [List.getD_eq_getElem?_getD, List.getElem?_map, List.getElem?_range hi']
        rfl
      rw [ht]
      exact hq i hi'

theorem trod_struct1 {t : TypeId} {f0 : Field} {fuel : Nat} {cs : List Value} {x : DataW H × List MemPlace} (ht : Try.prog.underlying t = some (.struct #[f0])) (h : DataW.trod enc Try.prog w base spare held fuel t cs = some x) :
    ∃ y0 n, cs.length = Try.prog.cellsOf t ∧ DataW.trod enc Try.prog w base spare held n f0.type ((cs.drop f0.offset).take (Try.prog.cellsOf f0.type)) = some y0 := by
  obtain ⟨xs, n, _, rfl, hl, hlen, hf⟩ := DataW.trod_struct ht h
  match xs, hlen with
  | [y0], _ => exact ⟨y0, n, hl, by simpa using hf 0 f0 rfl⟩
theorem trod_struct2 {t : TypeId} {f0 f1 : Field} {fuel : Nat} {cs : List Value} {x : DataW H × List MemPlace} (ht : Try.prog.underlying t = some (.struct #[f0, f1])) (h : DataW.trod enc Try.prog w base spare held fuel t cs = some x) :
    ∃ y0 y1 n, cs.length = Try.prog.cellsOf t ∧ DataW.trod enc Try.prog w base spare held n f0.type ((cs.drop f0.offset).take (Try.prog.cellsOf f0.type)) = some y0 ∧
      DataW.trod enc Try.prog w base spare held n f1.type ((cs.drop f1.offset).take (Try.prog.cellsOf f1.type)) = some y1 := by
  obtain ⟨xs, n, _, rfl, hl, hlen, hf⟩ := DataW.trod_struct ht h
  match xs, hlen with
  | [y0, y1], _ => exact ⟨y0, y1, n, hl, by simpa using hf 0 f0 rfl, by simpa using hf 1 f1 rfl⟩
theorem trod_struct5 {t : TypeId} {f0 f1 f2 f3 f4 : Field} {fuel : Nat} {cs : List Value} {x : DataW H × List MemPlace} (ht : Try.prog.underlying t = some (.struct #[f0, f1, f2, f3, f4])) (h : DataW.trod enc Try.prog w base spare held fuel t cs = some x) :
    ∃ y0 y1 y2 y3 y4 n, cs.length = Try.prog.cellsOf t ∧ DataW.trod enc Try.prog w base spare held n f0.type ((cs.drop f0.offset).take (Try.prog.cellsOf f0.type)) = some y0 ∧
      DataW.trod enc Try.prog w base spare held n f1.type ((cs.drop f1.offset).take (Try.prog.cellsOf f1.type)) = some y1 ∧ DataW.trod enc Try.prog w base spare held n f2.type ((cs.drop f2.offset).take (Try.prog.cellsOf f2.type)) = some y2 ∧
      DataW.trod enc Try.prog w base spare held n f3.type ((cs.drop f3.offset).take (Try.prog.cellsOf f3.type)) = some y3 ∧ DataW.trod enc Try.prog w base spare held n f4.type ((cs.drop f4.offset).take (Try.prog.cellsOf f4.type)) = some y4 := by
  obtain ⟨xs, n, _, rfl, hl, hlen, hf⟩ := DataW.trod_struct ht h
  match xs, hlen with
  | [y0, y1, y2, y3, y4], _ => exact ⟨y0, y1, y2, y3, y4, n, hl, by simpa using hf 0 f0 rfl, by simpa using hf 1 f1 rfl, by simpa using hf 2 f2 rfl, by simpa using hf 3 f3 rfl, by simpa using hf 4 f4 rfl⟩

theorem open_terms {fuel : Nat} {v : Value} {x : DataW H × List MemPlace} (h : DataW.trod enc Try.prog w base spare held fuel 119 [v] = some x) : ∃ l, TermsV w v l ∧ l.length ≤ 9223372036854775807 := by
  obtain ⟨ao, l, cap, hv, hmx, hl⟩ := open_row Try.underlying119 A_cells71 (by decide) (⟨[], 0⟩ : Tr.Term) (TermIn w) (fun n cs' y b off hlen hc h2 => by
    obtain ⟨y0, y1, k, _, g0, g1⟩ := trod_struct2 Try.underlying160 h2
    obtain ⟨v0, v1, rfl⟩ := list2 hlen
    simp [A_cells3, A_cells9] at g0 g1
    obtain ⟨k0, e0, _, _⟩ := DataW.trod_string Try.underlying9 g0
    obtain ⟨k1, e1, _, _⟩ := DataW.trod_int Try.underlying3 g1
    simp at e0 e1
    subst e0 e1
    exact ⟨⟨k0.data.toList, k1⟩, hc 0 (by decide), hc 1 (by decide)⟩) h
  exact ⟨l, ⟨ao, cap, hv, hl⟩, hmx⟩

theorem open_lits {fuel : Nat} {v : Value} {x : DataW H × List MemPlace} (h : DataW.trod enc Try.prog w base spare held fuel 120 [v] = some x) : ∃ l, LitsV w v l ∧ l.length ≤ 9223372036854775807 ∧ FitsB l := by
  obtain ⟨ao, l, cap, hv, hmx, hl⟩ := open_row Try.underlying120 A_cells49 (by decide) (⟨0, 0, 0, [], []⟩ : Tr.Lit) (fun b off x => LitIn w b off x ∧ x.terms.length ≤ 9223372036854775807) (fun n cs' y b off hlen hc h2 => by
    obtain ⟨y0, y1, y2, y3, y4, k, _, g0, g1, g2, g3, g4⟩ := trod_struct5 Try.underlying152 h2
    obtain ⟨v0, v1, v2, v3, v4, rfl⟩ := list5 hlen
    simp [A_cells3, A_cells9, A_cells40] at g0 g1 g2 g3 g4
    obtain ⟨k0, e0, _, _⟩ := DataW.trod_int Try.underlying3 g0
    obtain ⟨k1, e1, _, _⟩ := DataW.trod_int Try.underlying3 g1
    obtain ⟨k2, e2, _, _⟩ := DataW.trod_int Try.underlying3 g2
    obtain ⟨k3, e3, _, _⟩ := DataW.trod_string Try.underlying9 g3
    obtain ⟨l, hl, hm4⟩ := open_terms g4
    simp at e0 e1 e2 e3
    subst e0 e1 e2 e3
    exact ⟨⟨k0, k1, k2, k3.data.toList, l⟩, ⟨hc 0 (by decide), hc 1 (by decide), hc 2 (by decide), hc 3 (by decide), v4, hc 4 (by decide), hl⟩, hm4⟩) h
  refine ⟨l, ⟨ao, cap, hv, ?_⟩, hmx, ?_⟩
  · rcases hl with h | ⟨b, off, he, hc⟩
    · exact .inl h
    · exact .inr ⟨b, off, he, fun i hi => (hc i hi).1⟩
  · intro i hi
    rcases hl with h | ⟨b, off, he, hc⟩
    · rw [h] at hi; simp at hi
    · exact (hc i hi).2

theorem open_rules {fuel : Nat} {v : Value} {x : DataW H × List MemPlace} (h : DataW.trod enc Try.prog w base spare held fuel 123 [v] = some x) : ∃ l, RulesV w v l ∧ Fine l := by
  obtain ⟨ao, l, cap, hv, hmx, hl⟩ := open_row Try.underlying123 A_cells43 (by decide) (⟨0, [], [], 0, []⟩ : Tr.Rule) (fun b off x => RuleIn w b off x ∧ x.terms.length ≤ 9223372036854775807 ∧ x.body.length ≤ 9223372036854775807 ∧ FitsB x.body) (fun n cs' y b off hlen hc h2 => by
    obtain ⟨y0, y1, y2, y3, y4, k, _, g0, g1, g2, g3, g4⟩ := trod_struct5 Try.underlying122 h2
    obtain ⟨v0, v1, v2, v3, v4, rfl⟩ := list5 hlen
    simp [A_cells3, A_cells9, A_cells40, A_cells41] at g0 g1 g2 g3 g4
    obtain ⟨k0, e0, _, _⟩ := DataW.trod_int Try.underlying3 g0
    obtain ⟨k1, e1, _, _⟩ := DataW.trod_string Try.underlying9 g1
    obtain ⟨l2, hl2, hm2⟩ := open_terms g2
    obtain ⟨k3, e3, _, _⟩ := DataW.trod_int Try.underlying3 g3
    obtain ⟨l4, hl4, hm4, hf4⟩ := open_lits g4
    simp at e0 e1 e3
    subst e0 e1 e3
    exact ⟨⟨k0, k1.data.toList, l2, k3, l4⟩, ⟨hc 0 (by decide), hc 1 (by decide), ⟨v2, hc 2 (by decide), hl2⟩, hc 3 (by decide), v4, hc 4 (by decide), hl4⟩, hm2, hm4, hf4⟩) h
  refine ⟨l, ⟨ao, cap, hv, ?_⟩, hmx, ?_⟩
  · rcases hl with h | ⟨b, off, he, hc⟩
    · exact .inl h
    · exact .inr ⟨b, off, he, fun i hi => (hc i hi).1⟩
  · intro i hi
    rcases hl with h | ⟨b, off, he, hc⟩
    · rw [h] at hi; simp at hi
    · exact (hc i hi).2

theorem open_tree {fuel : Nat} {v : Value} {x : DataW H × List MemPlace} (h : DataW.trod enc Try.prog w base spare held fuel 125 [v] = some x) : ∃ l, RulesV w v l ∧ Fine l := by
  obtain ⟨y0, n, _, g0⟩ := trod_struct1 Try.underlying125 h
  exact open_rules (v := v) (by simpa [A_cells22] using g0)
end

end Go.Proofs.Ytgpaleifhcdjnaa

/- A program, a fact, that came in, read out of memory. -/
namespace Go.Proofs.Ytgpaleifhcdjnaa
open Go.RowKit

theorem P_cells26 : Try.prog.cellsOf 26 = 3 := by kernel_rfl
theorem P_cells28 : Try.prog.cellsOf 49 = 2 := by kernel_rfl
theorem P_cells22 : Try.prog.cellsOf 22 = 1 := by kernel_rfl
theorem P_cells23 : Try.prog.cellsOf 23 = 1 := by kernel_rfl
theorem P_cells24 : Try.prog.cellsOf 24 = 1 := by kernel_rfl
theorem P_cells64 : Try.prog.cellsOf 62 = 1 := by kernel_rfl
theorem P_cells65 : Try.prog.cellsOf 63 = 1 := by kernel_rfl
theorem P_cells67 : Try.prog.cellsOf 65 = 5 := by kernel_rfl
theorem P_cells84 : Try.prog.cellsOf 71 = 4 := by kernel_rfl
theorem P_cells130 : Try.prog.cellsOf 95 = 2 := by kernel_rfl

theorem list3 {l : List Value} (h : l.length = 3) : ∃ a b c, l = [a, b, c] := by
  match l, h with
  | [a, b, c], _ => exact ⟨a, b, c, rfl⟩
theorem list4 {l : List Value} (h : l.length = 4) : ∃ a b c d, l = [a, b, c, d] := by
  match l, h with
  | [a, b, c, d], _ => exact ⟨a, b, c, d, rfl⟩

section
variable {H : Type} {enc : TypeId × Value → H} {w : World} {base : Nat} {spare : Nat → Bool} {held : Bool}

/-- A slice whose elements can be read; its length is no more than its room. -/
theorem open_rowC {α : Type} {st e : TypeId} {k : Nat} (ht : Try.prog.underlying st = some (.slice e)) (hk : Try.prog.cellsOf e = k) (hk0 : 0 < k) (d : α) (In : Nat → Nat → α → Prop)
    (el : ∀ n cs' y b off, cs'.length = k → (∀ j, j < k → w.cell? ⟨b, off + j, none⟩ = cs'[j]?) → DataW.trod enc Try.prog w base spare held n e cs' = some y → ∃ a, In b off a)
    {fuel : Nat} {v : Value} {x : DataW H × List MemPlace} (h : DataW.trod enc Try.prog w base spare held fuel st [v] = some x) :
    ∃ (ao : Option Addr) (l : List α) (cap : Nat), v = .slice ao l.length cap ∧ l.length ≤ cap ∧ l.length ≤ 9223372036854775807 ∧ (l = [] ∨ ∃ b off, ao = some ⟨b, off, none⟩ ∧ ∀ i, i < l.length → In b (off + i * k) (l.getD i d)) := by
  obtain ⟨ao, l, cap, hv, hm, hl⟩ := open_row ht hk hk0 d In el h
  refine ⟨ao, l, cap, hv, ?_, hm, hl⟩
  rcases Deep.open_slice ht h with ⟨hv2, _⟩ | ⟨a, len, cap2, m, n, D, Pl, hv2, hb, hl2, _⟩
  · have hv' : v = .slice none 0 0 := by simpa using hv2
    rw [hv] at hv'
    injection hv' with _ h1 h2
    omega
  · have hv' : v = .slice (some a) len cap2 := by simpa using hv2
    rw [hv] at hv'
    injection hv' with _ h1 h2
    omega

theorem trod_struct3 {t : TypeId} {f0 f1 f2 : Field} {fuel : Nat} {cs : List Value} {x : DataW H × List MemPlace} (ht : Try.prog.underlying t = some (.struct #[f0, f1, f2])) (h : DataW.trod enc Try.prog w base spare held fuel t cs = some x) :
    ∃ y0 y1 y2 n, cs.length = Try.prog.cellsOf t ∧ DataW.trod enc Try.prog w base spare held n f0.type ((cs.drop f0.offset).take (Try.prog.cellsOf f0.type)) = some y0 ∧
      DataW.trod enc Try.prog w base spare held n f1.type ((cs.drop f1.offset).take (Try.prog.cellsOf f1.type)) = some y1 ∧ DataW.trod enc Try.prog w base spare held n f2.type ((cs.drop f2.offset).take (Try.prog.cellsOf f2.type)) = some y2 := by
  obtain ⟨xs, n, _, rfl, hl, hlen, hf⟩ := DataW.trod_struct ht h
  match xs, hlen with
  | [y0, y1, y2], _ => exact ⟨y0, y1, y2, n, hl, by simpa using hf 0 f0 rfl, by simpa using hf 1 f1 rfl, by simpa using hf 2 f2 rfl⟩
theorem trod_struct4 {t : TypeId} {f0 f1 f2 f3 : Field} {fuel : Nat} {cs : List Value} {x : DataW H × List MemPlace} (ht : Try.prog.underlying t = some (.struct #[f0, f1, f2, f3])) (h : DataW.trod enc Try.prog w base spare held fuel t cs = some x) :
    ∃ y0 y1 y2 y3 n, cs.length = Try.prog.cellsOf t ∧ DataW.trod enc Try.prog w base spare held n f0.type ((cs.drop f0.offset).take (Try.prog.cellsOf f0.type)) = some y0 ∧
      DataW.trod enc Try.prog w base spare held n f1.type ((cs.drop f1.offset).take (Try.prog.cellsOf f1.type)) = some y1 ∧ DataW.trod enc Try.prog w base spare held n f2.type ((cs.drop f2.offset).take (Try.prog.cellsOf f2.type)) = some y2 ∧
      DataW.trod enc Try.prog w base spare held n f3.type ((cs.drop f3.offset).take (Try.prog.cellsOf f3.type)) = some y3 := by
  obtain ⟨xs, n, _, rfl, hl, hlen, hf⟩ := DataW.trod_struct ht h
  match xs, hlen with
  | [y0, y1, y2, y3], _ => exact ⟨y0, y1, y2, y3, n, hl, by simpa using hf 0 f0 rfl, by simpa using hf 1 f1 rfl, by simpa using hf 2 f2 rfl, by simpa using hf 3 f3 rfl⟩

theorem open_ints {fuel : Nat} {v : Value} {x : DataW H × List MemPlace} (h : DataW.trod enc Try.prog w base spare held fuel 22 [v] = some x) : ∃ l, IntsV w v l ∧ l.length ≤ 9223372036854775807 := by
  obtain ⟨ao, l, cap, hv, _, hmx, hl⟩ := open_rowC Try.underlying22 A_cells3 (by decide) (0 : Int) (fun b off a => w.cell? ⟨b, off, none⟩ = some (.int .i64 a)) (fun n cs' y b off hlen hc h2 => by
    match cs', hlen with
    | [v0], _ =>
      obtain ⟨k0, e0, _, _⟩ := DataW.trod_int Try.underlying3 h2
      simp at e0
      subst e0
      exact ⟨k0, hc 0 (by decide)⟩) h
  refine ⟨l, ⟨ao, cap, hv, ?_⟩, hmx⟩
  rcases hl with h | ⟨b, off, he, hc⟩
  · exact .inl h
  · exact .inr ⟨b, off, he, fun i hi => by have := hc i hi; rw [Nat.mul_one] at this; exact this⟩
theorem open_strs {fuel : Nat} {v : Value} {x : DataW H × List MemPlace} (h : DataW.trod enc Try.prog w base spare held fuel 23 [v] = some x) : ∃ l, StrsV w v l ∧ l.length ≤ 9223372036854775807 := by
  obtain ⟨ao, l, cap, hv, _, hmx, hl⟩ := open_rowC Try.underlying23 A_cells9 (by decide) ([] : List UInt8) (fun b off a => w.cell? ⟨b, off, none⟩ = some (.string ⟨a.toArray⟩)) (fun n cs' y b off hlen hc h2 => by
    match cs', hlen with
    | [v0], _ =>
      obtain ⟨k0, e0, _, _⟩ := DataW.trod_string Try.underlying9 h2
      simp at e0
      subst e0
      exact ⟨k0.data.toList, hc 0 (by decide)⟩) h
  refine ⟨l, ⟨ao, cap, hv, ?_⟩, hmx⟩
  rcases hl with h | ⟨b, off, he, hc⟩
  · exact .inl h
  · exact .inr ⟨b, off, he, fun i hi => by have := hc i hi; rw [Nat.mul_one] at this; exact this⟩
theorem open_pterms {fuel : Nat} {v : Value} {x : DataW H × List MemPlace} (h : DataW.trod enc Try.prog w base spare held fuel 62 [v] = some x) : ∃ l, PTermsV w v l ∧ l.length ≤ 9223372036854775807 := by
  obtain ⟨ao, l, cap, hv, hcap, hmx, hl⟩ := open_rowC Try.underlying62 P_cells130 (by decide) (⟨0, 0⟩ : Sc.Term) (PTermIn w) (fun n cs' y b off hlen hc h2 => by
    obtain ⟨y0, y1, k, _, g0, g1⟩ := trod_struct2 Try.underlying95 h2
    obtain ⟨v0, v1, rfl⟩ := list2 hlen
    simp [A_cells3] at g0 g1
    obtain ⟨k0, e0, _, _⟩ := DataW.trod_int Try.underlying3 g0
    obtain ⟨k1, e1, _, _⟩ := DataW.trod_int Try.underlying3 g1
    simp at e0 e1
    subst e0 e1
    exact ⟨⟨k0, k1⟩, hc 0 (by decide), hc 1 (by decide)⟩) h
  exact ⟨l, ⟨ao, cap, hv, hcap, hl⟩, hmx⟩
theorem open_plits {fuel : Nat} {v : Value} {x : DataW H × List MemPlace} (h : DataW.trod enc Try.prog w base spare held fuel 63 [v] = some x) : ∃ l, PLitsV w v l ∧ l.length ≤ 9223372036854775807 ∧ ∀ i, i < l.length → LitFit (Sc.litD l i) := by
  obtain ⟨ao, l, cap, hv, _, hmx, hl⟩ := open_rowC Try.underlying63 P_cells84 (by decide) (⟨0, 0, 0, []⟩ : Sc.Lit) (fun b off x => PLitIn w b off x ∧ LitFit x) (fun n cs' y b off hlen hc h2 => by
    obtain ⟨y0, y1, y2, y3, k, _, g0, g1, g2, g3⟩ := trod_struct4 Try.underlying71 h2
    obtain ⟨v0, v1, v2, v3, rfl⟩ := list4 hlen
    simp [A_cells3, P_cells64] at g0 g1 g2 g3
    obtain ⟨k0, e0, _, _⟩ := DataW.trod_int Try.underlying3 g0
    obtain ⟨k1, e1, _, _⟩ := DataW.trod_int Try.underlying3 g1
    obtain ⟨k2, e2, _, _⟩ := DataW.trod_int Try.underlying3 g2
    obtain ⟨l3, hl3, hm3⟩ := open_pterms g3
    simp at e0 e1 e2
    subst e0 e1 e2
    exact ⟨⟨k0, k1, k2, l3⟩, ⟨hc 0 (by decide), hc 1 (by decide), hc 2 (by decide), v3, hc 3 (by decide), hl3⟩, hm3⟩) h
  refine ⟨l, ⟨ao, cap, hv, ?_⟩, hmx, ?_⟩
  · rcases hl with h | ⟨b, off, he, hc⟩
    · exact .inl h
    · exact .inr ⟨b, off, he, fun i hi => (hc i hi).1⟩
  · intro i hi
    rcases hl with h | ⟨b, off, he, hc⟩
    · rw [h] at hi; simp at hi
    · exact (hc i hi).2
theorem open_prules {fuel : Nat} {v : Value} {x : DataW H × List MemPlace} (h : DataW.trod enc Try.prog w base spare held fuel 24 [v] = some x) : ∃ l, PRulesV w v l ∧ l.length ≤ 9223372036854775807 ∧ ∀ i, i < l.length → RuleFit (Sc.ruleD l i) := by
  obtain ⟨ao, l, cap, hv, _, hmx, hl⟩ := open_rowC Try.underlying24 P_cells67 (by decide) (⟨0, [], 0, [], 0⟩ : Sc.Rule) (fun b off x => PRuleIn w b off x ∧ RuleFit x) (fun n cs' y b off hlen hc h2 => by
    obtain ⟨y0, y1, y2, y3, y4, k, _, g0, g1, g2, g3, g4⟩ := trod_struct5 Try.underlying65 h2
    obtain ⟨v0, v1, v2, v3, v4, rfl⟩ := list5 hlen
    simp [A_cells3, P_cells64, P_cells65] at g0 g1 g2 g3 g4
    obtain ⟨k0, e0, _, _⟩ := DataW.trod_int Try.underlying3 g0
    obtain ⟨l1, hl1, hm1⟩ := open_pterms g1
    obtain ⟨k2, e2, _, _⟩ := DataW.trod_int Try.underlying3 g2
    obtain ⟨l3, hl3, hm3, hf3⟩ := open_plits g3
    obtain ⟨k4, e4, _, _⟩ := DataW.trod_int Try.underlying3 g4
    simp at e0 e2 e4
    subst e0 e2 e4
    exact ⟨⟨k0, l1, k2, l3, k4⟩, ⟨hc 0 (by decide), ⟨v1, hc 1 (by decide), hl1⟩, hc 2 (by decide), ⟨v3, hc 3 (by decide), hl3⟩, hc 4 (by decide)⟩, hm1, hm3, hf3⟩) h
  refine ⟨l, ⟨ao, cap, hv, ?_⟩, hmx, ?_⟩
  · rcases hl with h | ⟨b, off, he, hc⟩
    · exact .inl h
    · exact .inr ⟨b, off, he, fun i hi => (hc i hi).1⟩
  · intro i hi
    rcases hl with h | ⟨b, off, he, hc⟩
    · rw [h] at hi; simp at hi
    · exact (hc i hi).2
theorem open_prog {fuel : Nat} {va vn vr : Value} {x : DataW H × List MemPlace} (h : DataW.trod enc Try.prog w base spare held fuel 26 [va, vn, vr] = some x) : ∃ p, ProgV w va vn vr p ∧ ProgFit p := by
  obtain ⟨y0, y1, y2, n, _, g0, g1, g2⟩ := trod_struct3 Try.underlying26 h
  simp [P_cells22, P_cells23, P_cells24] at g0 g1 g2
  obtain ⟨l0, hl0, hm0⟩ := open_ints g0
  obtain ⟨l1, hl1, hm1⟩ := open_strs g1
  obtain ⟨l2, hl2, hm2, hf2⟩ := open_prules g2
  exact ⟨⟨l0, l1, l2⟩, ⟨hl0, hl1, hl2⟩, hm0, hm1, hm2, hf2⟩
theorem open_fact {fuel : Nat} {v0 v1 : Value} {x : DataW H × List MemPlace} (h : DataW.trod enc Try.prog w base spare held fuel 49 [v0, v1] = some x) : ∃ pred args, v0 = .int .i64 pred ∧ IntsV w v1 args ∧ args.length ≤ 9223372036854775807 := by
  obtain ⟨y0, y1, n, _, g0, g1⟩ := trod_struct2 Try.underlying49 h
  simp [A_cells3, P_cells22] at g0 g1
  obtain ⟨k0, e0, _, _⟩ := DataW.trod_int Try.underlying3 g0
  obtain ⟨l1, hl1, hm1⟩ := open_ints g1
  simp at e0
  exact ⟨k0, l1, e0, hl1, hm1⟩
end

end Go.Proofs.Ytgpaleifhcdjnaa

