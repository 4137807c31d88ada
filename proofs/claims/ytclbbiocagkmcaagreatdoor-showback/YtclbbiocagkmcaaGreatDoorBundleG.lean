/- Own texts, one behind the other (part 7). -/
import Derived.Test.YtclbbiocagkmcaaGreatDoorBundleF
import Derived.Test.YtclbbiocagkmcaaGreatDoorRows
import Derived.Test.YtclbbiocagkmcaaGreatDoorCards
import Derived.Test.YtclbbiocagkmcaaGreatDoorTie
/- The document's answer: CheckTree. -/
namespace Go.Proofs.YtclbbiocagkmcaaGreatDoor
open Go.RowKit

theorem lit_kinds (x : Tr.Lit) : x.kind = 1 ∨ x.kind = 2 ∨ x.kind = 3 ∨ x.kind = 4 ∨ (¬ x.kind = 1 ∧ ¬ x.kind = 2 ∧ ¬ x.kind = 3 ∧ ¬ x.kind = 4) := by omega
theorem litOk_1 (x : Tr.Lit) (h : x.kind = 1 ∨ x.kind = 2) : Tr.litOk x = (Tr.termsOk x.terms && ((x.op == 0) && Tr.isName x.name)) := by
  unfold Tr.litOk; rw [if_pos h]
theorem litOk_3 (x : Tr.Lit) (h : x.kind = 3) : Tr.litOk x = (Tr.termsOk x.terms && (Tr.between x.op 1 4 && x.name.isEmpty && ((x.terms.length : Int) == 2))) := by
  unfold Tr.litOk; rw [if_neg (by omega), if_pos h]
theorem litOk_4 (x : Tr.Lit) (h : x.kind = 4) : Tr.litOk x = (Tr.termsOk x.terms && (Tr.between x.op 5 7 && x.name.isEmpty && ((x.terms.length : Int) == 3))) := by
  unfold Tr.litOk; rw [if_neg (by omega), if_neg (by omega), if_pos h]
theorem litOk_5 (x : Tr.Lit) (h : ¬ x.kind = 1 ∧ ¬ x.kind = 2 ∧ ¬ x.kind = 3 ∧ ¬ x.kind = 4) : Tr.litOk x = (Tr.termsOk x.terms && false) := by
  unfold Tr.litOk; rw [if_neg (by omega), if_neg (by omega), if_neg (by omega)]

theorem foldOk_no {f : Int} {a b : Nat} (h : Tr.foldOk f a b = false) :
    (decide (0 ≤ f) && decide (f ≤ 4)) = false ∨ ((decide (0 ≤ f) && decide (f ≤ 4)) = true ∧ decide ((0 : Int) < f) = true ∧ ((a : Int) == 0) = true) ∨
    ((decide (0 ≤ f) && decide (f ≤ 4)) = true ∧ decide ((0 : Int) < f) = true ∧ ((a : Int) == 0) = false ∧ ((b : Int) == 0) = true) := by
  unfold Tr.foldOk Tr.between at h
  simp only [Bool.or_eq_false_iff, beq_eq_false_iff_ne, Bool.and_eq_false_iff, decide_eq_false_iff_not] at h
  obtain ⟨h0, h1⟩ := h
  by_cases hb : 0 ≤ f ∧ f ≤ 4
  · have e1 : (decide (0 ≤ f) && decide (f ≤ 4)) = true := by simp [hb.1, hb.2]
    have e2 : decide ((0 : Int) < f) = true := decide_eq_true (by omega)
    by_cases ha : a = 0
    · exact .inr (.inl ⟨e1, e2, beq_iff_eq.2 (by omega)⟩)
    · exact .inr (.inr ⟨e1, e2, beq_eq_false_iff_ne.2 (by omega), beq_iff_eq.2 (by omega)⟩)
  · left
    simp only [Bool.and_eq_false_iff, decide_eq_false_iff_not]
    omega
theorem foldOk_yes {f : Int} {a b : Nat} (h : Tr.foldOk f a b = true) :
    ((decide (0 ≤ f) && decide (f ≤ 4)) = true ∧ decide ((0 : Int) < f) = false) ∨
    ((decide (0 ≤ f) && decide (f ≤ 4)) = true ∧ decide ((0 : Int) < f) = true ∧ ((a : Int) == 0) = false ∧ ((b : Int) == 0) = false) := by
  unfold Tr.foldOk Tr.between at h
  simp only [Bool.or_eq_true, beq_iff_eq, Bool.and_eq_true, decide_eq_true_eq] at h
  rcases h with h | ⟨⟨⟨h1, h2⟩, h3⟩, h4⟩
  · exact .inl ⟨by subst h; rfl, decide_eq_false (by omega)⟩
  · exact .inr ⟨by simp; omega, decide_eq_true (by omega), beq_eq_false_iff_ne.2 (by omega), beq_eq_false_iff_ne.2 (by omega)⟩

theorem many_no {l : List Tr.Rule} (h : Tr.many l = false) : ∀ k, k < l.length → Tr.ruleMany (Tr.ruleD l k) = false := fun k hk => by
  unfold Tr.many at h
  simp only [Bool.or_eq_false_iff] at h
  have e : Tr.ruleD l k = l[k] := by rw [Tr.ruleD, List.getD_eq_getElem?_getD, List.getElem?_eq_getElem hk]; rfl
  rw [e]
  have := List.any_eq_false.1 h.2 _ (List.getElem_mem hk)
  simpa using this

set_option maxRecDepth 100000 in
set_option maxHeartbeats 8000000 in
theorem CheckTree_any (l : List Tr.Rule) (v : Value) (w : World) (hA : RulesV w v l) :
    Calls Tryz.prog 7 #[treeVal v] w fun e w' => e = .returned (.int .i64 (Tr.check l)) ∧ Below w.heap.size w w' := by
  have hA0 := rulesV_below hA (below_alloc w (.cells #[v] 24))
  have hbel0 := below_alloc w (.cells #[v] 24)
  obtain ⟨ao, ca, rfl, _⟩ := hA
  by_cases h12 : 12 < l.length
  · have HF : Hid (Tr.check l = 2) := by show _ = _; unfold Tr.check Tr.many; rw [decide_eq_true h12]; rfl
    go_enter Tryz.func7, Tryz.ntmps7
    go_wp2_with fail
    go_ret
    exact ⟨ret_int HF.out.symm, hbel0⟩
  · have HMa : Hid (Tr.many l = l.any Tr.ruleMany) := by show _ = _; unfold Tr.many; rw [decide_eq_false h12]; rfl
    have c0 : (w.alloc (.cells #[.slice ao l.length ca] 24)).cell? ⟨w.heap.size, 0, none⟩ = some (.slice ao l.length ca) := by simp [go_sem]
    go_enter Tryz.func7, Tryz.ntmps7
    go_wp2_with fail
    generalize (w.alloc (.cells #[.slice ao l.length ca] 24)) = w0 at *
    go_loopw [3] (fun i wr => ∃ k : Nat, k ≤ l.length ∧ i = .int .i64 k ∧ Tr.many l = (l.drop k).any Tr.ruleMany ∧ Below w0.heap.size w0 wr) (fun i _ => l.length - (intOf i).toNat)
    case atStart => exact ⟨0, Nat.zero_le _, rfl, HMa.out, Below.refl _ _⟩
    case round =>
      obtain ⟨k, hk, rfl, hany, hbelr⟩ := hrel
      have HA : Hid (Tr.many l = (l.drop k).any Tr.ruleMany) := hany
      have c1 := cell_below hbelr c0
      clear hany HMa
      by_cases hlt : k < l.length
      · obtain ⟨ao', ca', hv, hR⟩ := rulesV_below hA0 hbelr
        rcases hR with h | ⟨b, off, rfl, hc⟩
        · rw [h] at hlt; exact absurd hlt (by simp)
        injection hv with e1 _ e3
        subst e1 e3
        obtain ⟨a0, a1, ⟨v2, a2, hT⟩, a3, v4, a4, hL⟩ := hc k hlt
        have HD : Hid (Tr.many l = (Tr.ruleMany (Tr.ruleD l k) || (l.drop (k + 1)).any Tr.ruleMany)) := HA.out.trans (any_drop _ _ _ k hlt)
        clear hc HA
        generalize Tr.ruleD l k = r at *
        have hL0 := litsV_below hL (below_alloc wr (ruleObj r v2 v4))
        have hbel1 : Below w.heap.size w (wr.alloc (ruleObj r v2 v4)) := (hbel0.trans (hbelr.mono hbel0.size)).trans ((below_alloc wr _).mono (hbel0.trans (hbelr.mono hbel0.size)).size)
        have hbelr1 : Below w0.heap.size w0 (wr.alloc (ruleObj r v2 v4)) := hbelr.trans ((below_alloc wr _).mono hbelr.size)
        obtain ⟨ao2, ca2, rfl, _⟩ := hT
        obtain ⟨ao4, ca4, rfl, _⟩ := hL
        have d4 : (wr.alloc (ruleObj r (.slice ao2 r.terms.length ca2) (.slice ao4 r.body.length ca4))).cell? ⟨wr.heap.size, 4, none⟩ = some (.slice ao4 r.body.length ca4) := by simp [go_sem]
        by_cases h3 : 3 < r.terms.length
        rotate_left
        · have g2 : decide ((3 : Int) < (r.terms.length : Int)) = false := decide_eq_false (by omega)
          by_cases h4 : 4 < r.body.length
          rotate_left
          · have g1 : decide ((4 : Int) < (r.body.length : Int)) = false := decide_eq_false (by omega)
            have HM : Hid (Tr.ruleMany r = Tr.litsMany r.body) := by show _ = _; unfold Tr.ruleMany; rw [decide_eq_false h4, decide_eq_false h3]; rfl
            go_wp2_with fail
            generalize (wr.alloc (ruleObj r (.slice ao2 r.terms.length ca2) (.slice ao4 r.body.length ca4))) = w1 at *
            go_loopw [5] (fun i wq => ∃ j : Nat, j ≤ r.body.length ∧ i = .int .i64 j ∧ Tr.litsMany r.body = (r.body.drop j).any (fun x => decide (3 < x.terms.length)) ∧ wq = w1) (fun i _ => r.body.length - (intOf i).toNat)
            case atStart => exact ⟨0, Nat.zero_le _, rfl, rfl, rfl⟩
            case round =>
              obtain ⟨j, hj, rfl, hany, rfl⟩ := hrel
              have HB : Hid (Tr.litsMany r.body = (r.body.drop j).any (fun x => decide (3 < x.terms.length))) := hany
              clear hany
              by_cases hltj : j < r.body.length
              · obtain ⟨bo', cb', hv, hL⟩ := hL0
                rcases hL with h | ⟨b2, off2, rfl, hc⟩
                · rw [h] at hltj; exact absurd hltj (by simp)
                injection hv with e1 _ e3
                subst e1 e3
                obtain ⟨q0, q1, q2, q3, u4, q4, hT⟩ := hc j hltj
                have HE : Hid (Tr.litsMany r.body = (decide (3 < (Tr.litD r.body j).terms.length) || (r.body.drop (j + 1)).any (fun x => decide (3 < x.terms.length)))) := HB.out.trans (any_drop _ _ _ j hltj)
                clear hc HB hA0
                generalize Tr.litD r.body j = x at *
                obtain ⟨ao5, ca5, rfl, _⟩ := hT
                by_cases hx : 3 < x.terms.length
                rotate_left
                · have g : decide ((3 : Int) < (x.terms.length : Int)) = false := decide_eq_false (by omega)
                  have HN : Hid (Tr.litsMany r.body = (r.body.drop (j + 1)).any (fun x => decide (3 < x.terms.length))) := by show _ = _; rw [HE.out, decide_eq_false hx]; rfl
                  clear HE
                  go_wp2_with fail
                  go_roundw
                  case rel => exact ⟨j + 1, by omega, by go_num, HN.out, trivial⟩
                  case measure => simp [intOf]; omega
                · have g : decide ((3 : Int) < (x.terms.length : Int)) = true := decide_eq_true (by omega)
                  have HF : Hid (Tr.check l = 2) := by show _ = _; unfold Tr.check; rw [HD.out, HM.out, HE.out, decide_eq_true hx]; rfl
                  clear HE HD HM
                  go_wp2_with fail
                  go_ret
                  exact ⟨ret_int HF.out.symm, hbel1⟩
              · have HN : Hid (Tr.many l = (l.drop (k + 1)).any Tr.ruleMany) := by
                  show _ = _
                  rw [HD.out, HM.out, HB.out, List.drop_of_length_le (by omega)]
                  rfl
                clear HB HD HM hL0 hA0
                go_wp2_with fail
                go_roundw
                case rel => exact ⟨k + 1, by omega, by go_num, HN.out, hbelr1⟩
                case measure => simp [intOf]; omega
          · have g1 : decide ((4 : Int) < (r.body.length : Int)) = true := decide_eq_true (by omega)
            have HF : Hid (Tr.check l = 2) := by show _ = _; unfold Tr.check; rw [HD.out]; unfold Tr.ruleMany; rw [decide_eq_true h4]; simp
            clear HD hA0 hL0
            go_wp2_with fail
            go_ret
            exact ⟨ret_int HF.out.symm, hbel1⟩
        · have g2 : decide ((3 : Int) < (r.terms.length : Int)) = true := decide_eq_true (by omega)
          have HF : Hid (Tr.check l = 2) := by show _ = _; unfold Tr.check; rw [HD.out]; unfold Tr.ruleMany; rw [decide_eq_true h3]; simp
          clear HD hA0 hL0
          go_wp2_with fail
          go_ret
          exact ⟨ret_int HF.out.symm, hbel1⟩
      · have gm : Tr.many l = false := by rw [HA.out, List.drop_of_length_le (by omega)]; rfl
        have HM : Hid (∀ k, k < l.length → Tr.ruleMany (Tr.ruleD l k) = false) := many_no gm
        have HV : Hid (Tr.check l = if l.all Tr.ruleOk then 0 else 1) := by show _ = _; unfold Tr.check; rw [gm]; rfl
        have hbel1 := hbel0.trans (hbelr.mono hbel0.size)
        have hA1 := rulesV_below hA0 hbelr
        clear HA gm hA0 hbel0 c0 hbelr
        go_wp2_with fail
        generalize hw1 : wr = w1 at *
        clear hw1
        go_loopw [6] (fun i wr => ∃ k : Nat, k ≤ l.length ∧ i = .int .i64 k ∧ l.all Tr.ruleOk = (l.drop k).all Tr.ruleOk ∧ Below w1.heap.size w1 wr) (fun i _ => l.length - (intOf i).toNat)
        case atStart => exact ⟨0, Nat.zero_le _, rfl, rfl, Below.refl _ _⟩
        case round =>
          obtain ⟨k, hk, rfl, hall, hbelr⟩ := hrel
          have HA3 : Hid (l.all Tr.ruleOk = (l.drop k).all Tr.ruleOk) := hall
          have c2 := cell_below hbelr c1
          clear hall
          by_cases hlt : k < l.length
          · obtain ⟨ao', ca', hv, hR⟩ := rulesV_below hA1 hbelr
            rcases hR with h | ⟨b, off, rfl, hc⟩
            · rw [h] at hlt; exact absurd hlt (by simp)
            injection hv with e1 _ e3
            subst e1 e3
            obtain ⟨a0, a1, ⟨v2, a2, hT⟩, a3, v4, a4, hL⟩ := hc k hlt
            have HD : Hid (l.all Tr.ruleOk = (Tr.ruleOk (Tr.ruleD l k) && (l.drop (k + 1)).all Tr.ruleOk)) := HA3.out.trans (all_drop _ _ _ k hlt)
            obtain ⟨f1, f2, f3⟩ := ruleMany_no (HM.out k hlt)
            clear hc
            generalize Tr.ruleD l k = r at *
            have HRo : Hid (Tr.ruleOk r = (Tr.isName r.name && Tr.termsOk r.terms && Tr.foldOk r.fold r.terms.length r.body.length && Tr.litsOk r.body)) := rfl
            have hbel2 : Below w.heap.size w (wr.alloc (ruleObj r v2 v4)) := (hbel1.trans (hbelr.mono hbel1.size)).trans ((below_alloc wr _).mono (hbel1.trans (hbelr.mono hbel1.size)).size)
            have hbelr2 : Below w1.heap.size w1 (wr.alloc (ruleObj r v2 v4)) := hbelr.trans ((below_alloc wr _).mono hbelr.size)
            have hL0 := litsV_below hL (below_alloc wr (ruleObj r v2 v4))
            have HC : Hid (_) := areTerms_any r.terms v2 (wr.alloc (ruleObj r v2 v4)) (by omega) (termsV_below hT (below_alloc _ _))
            obtain ⟨ao2, ca2, rfl, _⟩ := hT
            obtain ⟨ao4, ca4, rfl, _⟩ := hL
            have HLn : Hid (True) := trivial
            cases gn : Tr.isName r.name
            · have HF : Hid (Tr.check l = 1) := by show _ = _; rw [HV.out, HD.out, HRo.out, gn]; rfl
              clear HD HV HRo HC
              go_wp2_with (go_at_call 17; refine (refName_any _ _).mono ?_; rintro e w' ⟨rfl, rfl⟩)
              go_ret
              exact ⟨ret_int HF.out.symm, hbel2⟩
            · go_wp2_with (go_at_call 17; refine (refName_any _ _).mono ?_; rintro e w' ⟨rfl, rfl⟩)
              refine Calls.mono HC.out ?_
              rintro e w3 ⟨he, hb3⟩
              obtain ⟨z0, z1, z2, z3, z4⟩ := ruleBox hb3
              have hbel3 := hbel2.trans (hb3.mono hbel2.size)
              have hbelr3 := hbelr2.trans (hb3.mono hbelr2.size)
              have hL3 := litsV_below hL0 hb3
              clear HC hb3 hL0 a0 a1 a2 a3 a4
              cases gt : Tr.termsOk r.terms
              · have HF : Hid (Tr.check l = 1) := by show _ = _; rw [HV.out, HD.out, HRo.out, gt]; simp
                rw [gt] at he
                subst he
                clear HD HV HRo
                go_wp2_with fail
                go_ret
                exact ⟨ret_int HF.out.symm, hbel3⟩
              · rw [gt] at he
                subst he
                cases gf : Tr.foldOk r.fold r.terms.length r.body.length
                · have HF : Hid (Tr.check l = 1) := by show _ = _; rw [HV.out, HD.out, HRo.out, gf]; simp
                  clear HD HV HRo
                  rcases foldOk_no gf with hb | ⟨hb, hp, ht⟩ | ⟨hb, hp, ht, hq⟩
                  · go_wp2_with (go_at_call 19; refine (between_any _ _ _ _).mono ?_; rintro e w' ⟨rfl, rfl⟩)
                    go_ret
                    exact ⟨ret_int HF.out.symm, hbel3⟩
                  · go_wp2_with (go_at_call 19; refine (between_any _ _ _ _).mono ?_; rintro e w' ⟨rfl, rfl⟩)
                    go_ret
                    exact ⟨ret_int HF.out.symm, hbel3⟩
                  · go_wp2_with (go_at_call 19; refine (between_any _ _ _ _).mono ?_; rintro e w' ⟨rfl, rfl⟩)
                    go_ret
                    exact ⟨ret_int HF.out.symm, hbel3⟩
                · have HW : Hid (Tr.ruleOk r = Tr.litsOk r.body) := by show _ = _; rw [HRo.out, gn, gt, gf]; rfl
                  rcases foldOk_yes gf with ⟨hb, hp⟩ | ⟨hb, hp, ht, hq⟩
                  · go_wp2_with (go_at_call 19; refine (between_any _ _ _ _).mono ?_; rintro e w3 ⟨rfl, rfl⟩)
                    clear hb hp gf gt gn
                    go_loopw [8] (fun i wq => ∃ j : Nat, j ≤ r.body.length ∧ i = .int .i64 j ∧ Tr.litsOk r.body = (r.body.drop j).all Tr.litOk ∧ Below w3.heap.size w3 wq) (fun i _ => r.body.length - (intOf i).toNat)
                    case atStart => exact ⟨0, Nat.zero_le _, rfl, rfl, Below.refl _ _⟩
                    case round =>
                      obtain ⟨j, hj, rfl, hall, hbelq⟩ := hrel
                      have HB : Hid (Tr.litsOk r.body = (r.body.drop j).all Tr.litOk) := hall
                      have z4' := cell_below hbelq z4
                      clear hall
                      by_cases hltj : j < r.body.length
                      · obtain ⟨bo', cb', hv, hL⟩ := litsV_below hL3 hbelq
                        rcases hL with h | ⟨b2, off2, rfl, hc⟩
                        · rw [h] at hltj; exact absurd hltj (by simp)
                        injection hv with e1 _ e3
                        subst e1 e3
                        obtain ⟨q0, q1, q2, q3, u4, q4, hT⟩ := hc j hltj
                        have HE : Hid (Tr.litsOk r.body = (Tr.litOk (Tr.litD r.body j) && (r.body.drop (j + 1)).all Tr.litOk)) := HB.out.trans (all_drop _ _ _ j hltj)
                        have hfit := f3 j hltj
                        clear hc HB hL3 hA1
                        generalize Tr.litD r.body j = x at *
                        have HC : Hid (_) := areTerms_any x.terms u4 (wr.alloc (litObj x u4)) hfit (termsV_below hT (below_alloc _ _))
                        obtain ⟨ao5, ca5, rfl, _⟩ := hT
                        go_wp2_with fail
                        refine Calls.mono HC.out ?_
                        rintro e w5 ⟨he, hb5⟩
                        obtain ⟨y0, y1, y2, y3, y4⟩ := litBox hb5
                        have hbel5q := hbelq.trans ((below_box hb5).mono hbelq.size)
                        have hbel5 := hbel3.trans (hbel5q.mono hbel3.size)
                        clear HC hb5 q0 q1 q2 q3 q4
                        cases gT : Tr.termsOk x.terms
                        · rw [gT] at he
                          subst he
                          rcases lit_kinds x with hk | hk | hk | hk | hk
                          · have t1 : (x.kind == 1) = true := beq_iff_eq.2 hk
                            have HLo : Hid (Tr.litOk x = (Tr.termsOk x.terms && ((x.op == 0) && Tr.isName x.name))) := litOk_1 x (.inl hk)
                            clear hk
                            have HF : Hid (Tr.check l = 1) := by show _ = _; rw [HV.out, HD.out, HW.out, HE.out, HLo.out, gT]; simp
                            clear HE HD HV HW HLo HRo HA3 HLn
                            go_wp2_with fail
                            go_ret
                            exact ⟨ret_int HF.out.symm, hbel5⟩
                          · have t1 : (x.kind == 1) = false := beq_eq_false_iff_ne.2 (by omega)
                            have t2 : (x.kind == 2) = true := beq_iff_eq.2 hk
                            have HLo : Hid (Tr.litOk x = (Tr.termsOk x.terms && ((x.op == 0) && Tr.isName x.name))) := litOk_1 x (.inr hk)
                            clear hk
                            have HF : Hid (Tr.check l = 1) := by show _ = _; rw [HV.out, HD.out, HW.out, HE.out, HLo.out, gT]; simp
                            clear HE HD HV HW HLo HRo HA3 HLn
                            go_wp2_with fail
                            go_ret
                            exact ⟨ret_int HF.out.symm, hbel5⟩
                          · have t1 : (x.kind == 1) = false := beq_eq_false_iff_ne.2 (by omega)
                            have t2 : (x.kind == 2) = false := beq_eq_false_iff_ne.2 (by omega)
                            have t3 : (x.kind == 3) = true := beq_iff_eq.2 hk
                            have HLo : Hid (Tr.litOk x = (Tr.termsOk x.terms && (Tr.between x.op 1 4 && x.name.isEmpty && ((x.terms.length : Int) == 2)))) := litOk_3 x hk
                            clear hk
                            have HF : Hid (Tr.check l = 1) := by show _ = _; rw [HV.out, HD.out, HW.out, HE.out, HLo.out, gT]; simp
                            clear HE HD HV HW HLo HRo HA3 HLn
                            go_wp2_with fail
                            go_ret
                            exact ⟨ret_int HF.out.symm, hbel5⟩
                          · have t1 : (x.kind == 1) = false := beq_eq_false_iff_ne.2 (by omega)
                            have t2 : (x.kind == 2) = false := beq_eq_false_iff_ne.2 (by omega)
                            have t3 : (x.kind == 3) = false := beq_eq_false_iff_ne.2 (by omega)
                            have t4 : (x.kind == 4) = true := beq_iff_eq.2 hk
                            have HLo : Hid (Tr.litOk x = (Tr.termsOk x.terms && (Tr.between x.op 5 7 && x.name.isEmpty && ((x.terms.length : Int) == 3)))) := litOk_4 x hk
                            clear hk
                            have HF : Hid (Tr.check l = 1) := by show _ = _; rw [HV.out, HD.out, HW.out, HE.out, HLo.out, gT]; simp
                            clear HE HD HV HW HLo HRo HA3 HLn
                            go_wp2_with fail
                            go_ret
                            exact ⟨ret_int HF.out.symm, hbel5⟩
                          · have t1 : (x.kind == 1) = false := beq_eq_false_iff_ne.2 hk.1
                            have t2 : (x.kind == 2) = false := beq_eq_false_iff_ne.2 hk.2.1
                            have t3 : (x.kind == 3) = false := beq_eq_false_iff_ne.2 hk.2.2.1
                            have t4 : (x.kind == 4) = false := beq_eq_false_iff_ne.2 hk.2.2.2
                            have HLo : Hid (Tr.litOk x = (Tr.termsOk x.terms && false)) := litOk_5 x hk
                            clear hk
                            have HF : Hid (Tr.check l = 1) := by show _ = _; rw [HV.out, HD.out, HW.out, HE.out, HLo.out]; simp
                            clear HE HD HV HW HLo HRo HA3 HLn
                            go_wp2_with fail
                            go_ret
                            exact ⟨ret_int HF.out.symm, hbel5⟩
                        · rw [gT] at he
                          subst he
                          rcases lit_kinds x with hk | hk | hk | hk | hk
                          · have t1 : (x.kind == 1) = true := beq_iff_eq.2 hk
                            have HLo : Hid (Tr.litOk x = (Tr.termsOk x.terms && ((x.op == 0) && Tr.isName x.name))) := litOk_1 x (.inl hk)
                            clear hk
                            cases g1 : (x.op == 0)
                            · have HF : Hid (Tr.check l = 1) := by show _ = _; rw [HV.out, HD.out, HW.out, HE.out, HLo.out, g1]; simp
                              clear HE HD HV HW HLo HRo HA3 HLn
                              go_wp2_with fail
                              go_ret
                              exact ⟨ret_int HF.out.symm, hbel5⟩
                            · cases g2 : Tr.isName x.name
                              · have HF : Hid (Tr.check l = 1) := by show _ = _; rw [HV.out, HD.out, HW.out, HE.out, HLo.out, g2]; simp
                                clear HE HD HV HW HLo HRo HA3 HLn
                                go_wp2_with (go_at_call 17; refine (refName_any _ _).mono ?_; rintro e w' ⟨rfl, rfl⟩)
                                go_ret
                                exact ⟨ret_int HF.out.symm, hbel5⟩
                              · have HN : Hid (Tr.litsOk r.body = (r.body.drop (j + 1)).all Tr.litOk) := by show _ = _; rw [HE.out, HLo.out, gT, g1, g2]; simp
                                clear HE HLo
                                go_wp2_with (go_at_call 17; refine (refName_any _ _).mono ?_; rintro e w' ⟨rfl, rfl⟩)
                                go_roundw
                                case rel => exact ⟨j + 1, by omega, by go_num, HN.out, hbel5q⟩
                                case measure => simp [intOf]; omega
                          · have t1 : (x.kind == 1) = false := beq_eq_false_iff_ne.2 (by omega)
                            have t2 : (x.kind == 2) = true := beq_iff_eq.2 hk
                            have HLo : Hid (Tr.litOk x = (Tr.termsOk x.terms && ((x.op == 0) && Tr.isName x.name))) := litOk_1 x (.inr hk)
                            clear hk
                            cases g1 : (x.op == 0)
                            · have HF : Hid (Tr.check l = 1) := by show _ = _; rw [HV.out, HD.out, HW.out, HE.out, HLo.out, g1]; simp
                              clear HE HD HV HW HLo HRo HA3 HLn
                              go_wp2_with fail
                              go_ret
                              exact ⟨ret_int HF.out.symm, hbel5⟩
                            · cases g2 : Tr.isName x.name
                              · have HF : Hid (Tr.check l = 1) := by show _ = _; rw [HV.out, HD.out, HW.out, HE.out, HLo.out, g2]; simp
                                clear HE HD HV HW HLo HRo HA3 HLn
                                go_wp2_with (go_at_call 17; refine (refName_any _ _).mono ?_; rintro e w' ⟨rfl, rfl⟩)
                                go_ret
                                exact ⟨ret_int HF.out.symm, hbel5⟩
                              · have HN : Hid (Tr.litsOk r.body = (r.body.drop (j + 1)).all Tr.litOk) := by show _ = _; rw [HE.out, HLo.out, gT, g1, g2]; simp
                                clear HE HLo
                                go_wp2_with (go_at_call 17; refine (refName_any _ _).mono ?_; rintro e w' ⟨rfl, rfl⟩)
                                go_roundw
                                case rel => exact ⟨j + 1, by omega, by go_num, HN.out, hbel5q⟩
                                case measure => simp [intOf]; omega
                          · have t1 : (x.kind == 1) = false := beq_eq_false_iff_ne.2 (by omega)
                            have t2 : (x.kind == 2) = false := beq_eq_false_iff_ne.2 (by omega)
                            have t3 : (x.kind == 3) = true := beq_iff_eq.2 hk
                            have HLo : Hid (Tr.litOk x = (Tr.termsOk x.terms && (Tr.between x.op 1 4 && x.name.isEmpty && ((x.terms.length : Int) == 2)))) := litOk_3 x hk
                            clear hk
                            cases g1 : Tr.between x.op 1 4
                            · have HF : Hid (Tr.check l = 1) := by show _ = _; rw [HV.out, HD.out, HW.out, HE.out, HLo.out, g1]; simp
                              unfold Tr.between at g1
                              clear HE HD HV HW HLo HRo HA3 HLn
                              go_wp2_with (go_at_call 19; refine (between_any _ _ _ _).mono ?_; rintro e w' ⟨rfl, rfl⟩)
                              go_ret
                              exact ⟨ret_int HF.out.symm, hbel5⟩
                            · cases g2 : x.name.isEmpty
                              · have HF : Hid (Tr.check l = 1) := by show _ = _; rw [HV.out, HD.out, HW.out, HE.out, HLo.out, g2]; simp
                                unfold Tr.between at g1
                                clear HE HD HV HW HLo HRo HA3 HLn
                                go_wp2_with (go_at_call 19; refine (between_any _ _ _ _).mono ?_; rintro e w' ⟨rfl, rfl⟩)
                                go_ret
                                exact ⟨ret_int HF.out.symm, hbel5⟩
                              · cases g3 : ((x.terms.length : Int) == 2)
                                · have HF : Hid (Tr.check l = 1) := by show _ = _; rw [HV.out, HD.out, HW.out, HE.out, HLo.out, g3]; simp
                                  unfold Tr.between at g1
                                  clear HE HD HV HW HLo HRo HA3 HLn
                                  go_wp2_with (go_at_call 19; refine (between_any _ _ _ _).mono ?_; rintro e w' ⟨rfl, rfl⟩)
                                  go_ret
                                  exact ⟨ret_int HF.out.symm, hbel5⟩
                                · have HN : Hid (Tr.litsOk r.body = (r.body.drop (j + 1)).all Tr.litOk) := by show _ = _; rw [HE.out, HLo.out, gT, g1, g2, g3]; simp
                                  unfold Tr.between at g1
                                  clear HE HLo
                                  go_wp2_with (go_at_call 19; refine (between_any _ _ _ _).mono ?_; rintro e w' ⟨rfl, rfl⟩)
                                  go_roundw
                                  case rel => exact ⟨j + 1, by omega, by go_num, HN.out, hbel5q⟩
                                  case measure => simp [intOf]; omega
                          · have t1 : (x.kind == 1) = false := beq_eq_false_iff_ne.2 (by omega)
                            have t2 : (x.kind == 2) = false := beq_eq_false_iff_ne.2 (by omega)
                            have t3 : (x.kind == 3) = false := beq_eq_false_iff_ne.2 (by omega)
                            have t4 : (x.kind == 4) = true := beq_iff_eq.2 hk
                            have HLo : Hid (Tr.litOk x = (Tr.termsOk x.terms && (Tr.between x.op 5 7 && x.name.isEmpty && ((x.terms.length : Int) == 3)))) := litOk_4 x hk
                            clear hk
                            cases g1 : Tr.between x.op 5 7
                            · have HF : Hid (Tr.check l = 1) := by show _ = _; rw [HV.out, HD.out, HW.out, HE.out, HLo.out, g1]; simp
                              unfold Tr.between at g1
                              clear HE HD HV HW HLo HRo HA3 HLn
                              go_wp2_with (go_at_call 19; refine (between_any _ _ _ _).mono ?_; rintro e w' ⟨rfl, rfl⟩)
                              go_ret
                              exact ⟨ret_int HF.out.symm, hbel5⟩
                            · cases g2 : x.name.isEmpty
                              · have HF : Hid (Tr.check l = 1) := by show _ = _; rw [HV.out, HD.out, HW.out, HE.out, HLo.out, g2]; simp
                                unfold Tr.between at g1
                                clear HE HD HV HW HLo HRo HA3 HLn
                                go_wp2_with (go_at_call 19; refine (between_any _ _ _ _).mono ?_; rintro e w' ⟨rfl, rfl⟩)
                                go_ret
                                exact ⟨ret_int HF.out.symm, hbel5⟩
                              · cases g3 : ((x.terms.length : Int) == 3)
                                · have HF : Hid (Tr.check l = 1) := by show _ = _; rw [HV.out, HD.out, HW.out, HE.out, HLo.out, g3]; simp
                                  unfold Tr.between at g1
                                  clear HE HD HV HW HLo HRo HA3 HLn
                                  go_wp2_with (go_at_call 19; refine (between_any _ _ _ _).mono ?_; rintro e w' ⟨rfl, rfl⟩)
                                  go_ret
                                  exact ⟨ret_int HF.out.symm, hbel5⟩
                                · have HN : Hid (Tr.litsOk r.body = (r.body.drop (j + 1)).all Tr.litOk) := by show _ = _; rw [HE.out, HLo.out, gT, g1, g2, g3]; simp
                                  unfold Tr.between at g1
                                  clear HE HLo
                                  go_wp2_with (go_at_call 19; refine (between_any _ _ _ _).mono ?_; rintro e w' ⟨rfl, rfl⟩)
                                  go_roundw
                                  case rel => exact ⟨j + 1, by omega, by go_num, HN.out, hbel5q⟩
                                  case measure => simp [intOf]; omega
                          · have t1 : (x.kind == 1) = false := beq_eq_false_iff_ne.2 hk.1
                            have t2 : (x.kind == 2) = false := beq_eq_false_iff_ne.2 hk.2.1
                            have t3 : (x.kind == 3) = false := beq_eq_false_iff_ne.2 hk.2.2.1
                            have t4 : (x.kind == 4) = false := beq_eq_false_iff_ne.2 hk.2.2.2
                            have HLo : Hid (Tr.litOk x = (Tr.termsOk x.terms && false)) := litOk_5 x hk
                            clear hk
                            have HF : Hid (Tr.check l = 1) := by show _ = _; rw [HV.out, HD.out, HW.out, HE.out, HLo.out]; simp
                            clear HE HD HV HW HLo HRo HA3 HLn
                            go_wp2_with fail
                            go_ret
                            exact ⟨ret_int HF.out.symm, hbel5⟩
                      · have HN : Hid (l.all Tr.ruleOk = (l.drop (k + 1)).all Tr.ruleOk) := by
                          show _ = _
                          rw [HD.out, HW.out, HB.out, List.drop_of_length_le (by omega)]
                          rfl
                        have hbelr4 := hbelr3.trans (hbelq.mono hbelr3.size)
                        clear HB HD HW hL3 hA1 HA3 HRo
                        go_wp2_with fail
                        go_roundw
                        case rel => exact ⟨k + 1, by omega, by go_num, HN.out, hbelr4⟩
                        case measure => simp [intOf]; omega
                  · go_wp2_with (go_at_call 19; refine (between_any _ _ _ _).mono ?_; rintro e w3 ⟨rfl, rfl⟩)
                    clear hb hp gf gt gn
                    go_loopw [8] (fun i wq => ∃ j : Nat, j ≤ r.body.length ∧ i = .int .i64 j ∧ Tr.litsOk r.body = (r.body.drop j).all Tr.litOk ∧ Below w3.heap.size w3 wq) (fun i _ => r.body.length - (intOf i).toNat)
                    case atStart => exact ⟨0, Nat.zero_le _, rfl, rfl, Below.refl _ _⟩
                    case round =>
                      obtain ⟨j, hj, rfl, hall, hbelq⟩ := hrel
                      have HB : Hid (Tr.litsOk r.body = (r.body.drop j).all Tr.litOk) := hall
                      have z4' := cell_below hbelq z4
                      clear hall
                      by_cases hltj : j < r.body.length
                      · obtain ⟨bo', cb', hv, hL⟩ := litsV_below hL3 hbelq
                        rcases hL with h | ⟨b2, off2, rfl, hc⟩
                        · rw [h] at hltj; exact absurd hltj (by simp)
                        injection hv with e1 _ e3
                        subst e1 e3
                        obtain ⟨q0, q1, q2, q3, u4, q4, hT⟩ := hc j hltj
                        have HE : Hid (Tr.litsOk r.body = (Tr.litOk (Tr.litD r.body j) && (r.body.drop (j + 1)).all Tr.litOk)) := HB.out.trans (all_drop _ _ _ j hltj)
                        have hfit := f3 j hltj
                        clear hc HB hL3 hA1
                        generalize Tr.litD r.body j = x at *
                        have HC : Hid (_) := areTerms_any x.terms u4 (wr.alloc (litObj x u4)) hfit (termsV_below hT (below_alloc _ _))
                        obtain ⟨ao5, ca5, rfl, _⟩ := hT
                        go_wp2_with fail
                        refine Calls.mono HC.out ?_
                        rintro e w5 ⟨he, hb5⟩
                        obtain ⟨y0, y1, y2, y3, y4⟩ := litBox hb5
                        have hbel5q := hbelq.trans ((below_box hb5).mono hbelq.size)
                        have hbel5 := hbel3.trans (hbel5q.mono hbel3.size)
                        clear HC hb5 q0 q1 q2 q3 q4
                        cases gT : Tr.termsOk x.terms
                        · rw [gT] at he
                          subst he
                          rcases lit_kinds x with hk | hk | hk | hk | hk
                          · have t1 : (x.kind == 1) = true := beq_iff_eq.2 hk
                            have HLo : Hid (Tr.litOk x = (Tr.termsOk x.terms && ((x.op == 0) && Tr.isName x.name))) := litOk_1 x (.inl hk)
                            clear hk
                            have HF : Hid (Tr.check l = 1) := by show _ = _; rw [HV.out, HD.out, HW.out, HE.out, HLo.out, gT]; simp
                            clear HE HD HV HW HLo HRo HA3 HLn
                            go_wp2_with fail
                            go_ret
                            exact ⟨ret_int HF.out.symm, hbel5⟩
                          · have t1 : (x.kind == 1) = false := beq_eq_false_iff_ne.2 (by omega)
                            have t2 : (x.kind == 2) = true := beq_iff_eq.2 hk
                            have HLo : Hid (Tr.litOk x = (Tr.termsOk x.terms && ((x.op == 0) && Tr.isName x.name))) := litOk_1 x (.inr hk)
                            clear hk
                            have HF : Hid (Tr.check l = 1) := by show _ = _; rw [HV.out, HD.out, HW.out, HE.out, HLo.out, gT]; simp
                            clear HE HD HV HW HLo HRo HA3 HLn
                            go_wp2_with fail
                            go_ret
                            exact ⟨ret_int HF.out.symm, hbel5⟩
                          · have t1 : (x.kind == 1) = false := beq_eq_false_iff_ne.2 (by omega)
                            have t2 : (x.kind == 2) = false := beq_eq_false_iff_ne.2 (by omega)
                            have t3 : (x.kind == 3) = true := beq_iff_eq.2 hk
                            have HLo : Hid (Tr.litOk x = (Tr.termsOk x.terms && (Tr.between x.op 1 4 && x.name.isEmpty && ((x.terms.length : Int) == 2)))) := litOk_3 x hk
                            clear hk
                            have HF : Hid (Tr.check l = 1) := by show _ = _; rw [HV.out, HD.out, HW.out, HE.out, HLo.out, gT]; simp
                            clear HE HD HV HW HLo HRo HA3 HLn
                            go_wp2_with fail
                            go_ret
                            exact ⟨ret_int HF.out.symm, hbel5⟩
                          · have t1 : (x.kind == 1) = false := beq_eq_false_iff_ne.2 (by omega)
                            have t2 : (x.kind == 2) = false := beq_eq_false_iff_ne.2 (by omega)
                            have t3 : (x.kind == 3) = false := beq_eq_false_iff_ne.2 (by omega)
                            have t4 : (x.kind == 4) = true := beq_iff_eq.2 hk
                            have HLo : Hid (Tr.litOk x = (Tr.termsOk x.terms && (Tr.between x.op 5 7 && x.name.isEmpty && ((x.terms.length : Int) == 3)))) := litOk_4 x hk
                            clear hk
                            have HF : Hid (Tr.check l = 1) := by show _ = _; rw [HV.out, HD.out, HW.out, HE.out, HLo.out, gT]; simp
                            clear HE HD HV HW HLo HRo HA3 HLn
                            go_wp2_with fail
                            go_ret
                            exact ⟨ret_int HF.out.symm, hbel5⟩
                          · have t1 : (x.kind == 1) = false := beq_eq_false_iff_ne.2 hk.1
                            have t2 : (x.kind == 2) = false := beq_eq_false_iff_ne.2 hk.2.1
                            have t3 : (x.kind == 3) = false := beq_eq_false_iff_ne.2 hk.2.2.1
                            have t4 : (x.kind == 4) = false := beq_eq_false_iff_ne.2 hk.2.2.2
                            have HLo : Hid (Tr.litOk x = (Tr.termsOk x.terms && false)) := litOk_5 x hk
                            clear hk
                            have HF : Hid (Tr.check l = 1) := by show _ = _; rw [HV.out, HD.out, HW.out, HE.out, HLo.out]; simp
                            clear HE HD HV HW HLo HRo HA3 HLn
                            go_wp2_with fail
                            go_ret
                            exact ⟨ret_int HF.out.symm, hbel5⟩
                        · rw [gT] at he
                          subst he
                          rcases lit_kinds x with hk | hk | hk | hk | hk
                          · have t1 : (x.kind == 1) = true := beq_iff_eq.2 hk
                            have HLo : Hid (Tr.litOk x = (Tr.termsOk x.terms && ((x.op == 0) && Tr.isName x.name))) := litOk_1 x (.inl hk)
                            clear hk
                            cases g1 : (x.op == 0)
                            · have HF : Hid (Tr.check l = 1) := by show _ = _; rw [HV.out, HD.out, HW.out, HE.out, HLo.out, g1]; simp
                              clear HE HD HV HW HLo HRo HA3 HLn
                              go_wp2_with fail
                              go_ret
                              exact ⟨ret_int HF.out.symm, hbel5⟩
                            · cases g2 : Tr.isName x.name
                              · have HF : Hid (Tr.check l = 1) := by show _ = _; rw [HV.out, HD.out, HW.out, HE.out, HLo.out, g2]; simp
                                clear HE HD HV HW HLo HRo HA3 HLn
                                go_wp2_with (go_at_call 17; refine (refName_any _ _).mono ?_; rintro e w' ⟨rfl, rfl⟩)
                                go_ret
                                exact ⟨ret_int HF.out.symm, hbel5⟩
                              · have HN : Hid (Tr.litsOk r.body = (r.body.drop (j + 1)).all Tr.litOk) := by show _ = _; rw [HE.out, HLo.out, gT, g1, g2]; simp
                                clear HE HLo
                                go_wp2_with (go_at_call 17; refine (refName_any _ _).mono ?_; rintro e w' ⟨rfl, rfl⟩)
                                go_roundw
                                case rel => exact ⟨j + 1, by omega, by go_num, HN.out, hbel5q⟩
                                case measure => simp [intOf]; omega
                          · have t1 : (x.kind == 1) = false := beq_eq_false_iff_ne.2 (by omega)
                            have t2 : (x.kind == 2) = true := beq_iff_eq.2 hk
                            have HLo : Hid (Tr.litOk x = (Tr.termsOk x.terms && ((x.op == 0) && Tr.isName x.name))) := litOk_1 x (.inr hk)
                            clear hk
                            cases g1 : (x.op == 0)
                            · have HF : Hid (Tr.check l = 1) := by show _ = _; rw [HV.out, HD.out, HW.out, HE.out, HLo.out, g1]; simp
                              clear HE HD HV HW HLo HRo HA3 HLn
                              go_wp2_with fail
                              go_ret
                              exact ⟨ret_int HF.out.symm, hbel5⟩
                            · cases g2 : Tr.isName x.name
                              · have HF : Hid (Tr.check l = 1) := by show _ = _; rw [HV.out, HD.out, HW.out, HE.out, HLo.out, g2]; simp
                                clear HE HD HV HW HLo HRo HA3 HLn
                                go_wp2_with (go_at_call 17; refine (refName_any _ _).mono ?_; rintro e w' ⟨rfl, rfl⟩)
                                go_ret
                                exact ⟨ret_int HF.out.symm, hbel5⟩
                              · have HN : Hid (Tr.litsOk r.body = (r.body.drop (j + 1)).all Tr.litOk) := by show _ = _; rw [HE.out, HLo.out, gT, g1, g2]; simp
                                clear HE HLo
                                go_wp2_with (go_at_call 17; refine (refName_any _ _).mono ?_; rintro e w' ⟨rfl, rfl⟩)
                                go_roundw
                                case rel => exact ⟨j + 1, by omega, by go_num, HN.out, hbel5q⟩
                                case measure => simp [intOf]; omega
                          · have t1 : (x.kind == 1) = false := beq_eq_false_iff_ne.2 (by omega)
                            have t2 : (x.kind == 2) = false := beq_eq_false_iff_ne.2 (by omega)
                            have t3 : (x.kind == 3) = true := beq_iff_eq.2 hk
                            have HLo : Hid (Tr.litOk x = (Tr.termsOk x.terms && (Tr.between x.op 1 4 && x.name.isEmpty && ((x.terms.length : Int) == 2)))) := litOk_3 x hk
                            clear hk
                            cases g1 : Tr.between x.op 1 4
                            · have HF : Hid (Tr.check l = 1) := by show _ = _; rw [HV.out, HD.out, HW.out, HE.out, HLo.out, g1]; simp
                              unfold Tr.between at g1
                              clear HE HD HV HW HLo HRo HA3 HLn
                              go_wp2_with (go_at_call 19; refine (between_any _ _ _ _).mono ?_; rintro e w' ⟨rfl, rfl⟩)
                              go_ret
                              exact ⟨ret_int HF.out.symm, hbel5⟩
                            · cases g2 : x.name.isEmpty
                              · have HF : Hid (Tr.check l = 1) := by show _ = _; rw [HV.out, HD.out, HW.out, HE.out, HLo.out, g2]; simp
                                unfold Tr.between at g1
                                clear HE HD HV HW HLo HRo HA3 HLn
                                go_wp2_with (go_at_call 19; refine (between_any _ _ _ _).mono ?_; rintro e w' ⟨rfl, rfl⟩)
                                go_ret
                                exact ⟨ret_int HF.out.symm, hbel5⟩
                              · cases g3 : ((x.terms.length : Int) == 2)
                                · have HF : Hid (Tr.check l = 1) := by show _ = _; rw [HV.out, HD.out, HW.out, HE.out, HLo.out, g3]; simp
                                  unfold Tr.between at g1
                                  clear HE HD HV HW HLo HRo HA3 HLn
                                  go_wp2_with (go_at_call 19; refine (between_any _ _ _ _).mono ?_; rintro e w' ⟨rfl, rfl⟩)
                                  go_ret
                                  exact ⟨ret_int HF.out.symm, hbel5⟩
                                · have HN : Hid (Tr.litsOk r.body = (r.body.drop (j + 1)).all Tr.litOk) := by show _ = _; rw [HE.out, HLo.out, gT, g1, g2, g3]; simp
                                  unfold Tr.between at g1
                                  clear HE HLo
                                  go_wp2_with (go_at_call 19; refine (between_any _ _ _ _).mono ?_; rintro e w' ⟨rfl, rfl⟩)
                                  go_roundw
                                  case rel => exact ⟨j + 1, by omega, by go_num, HN.out, hbel5q⟩
                                  case measure => simp [intOf]; omega
                          · have t1 : (x.kind == 1) = false := beq_eq_false_iff_ne.2 (by omega)
                            have t2 : (x.kind == 2) = false := beq_eq_false_iff_ne.2 (by omega)
                            have t3 : (x.kind == 3) = false := beq_eq_false_iff_ne.2 (by omega)
                            have t4 : (x.kind == 4) = true := beq_iff_eq.2 hk
                            have HLo : Hid (Tr.litOk x = (Tr.termsOk x.terms && (Tr.between x.op 5 7 && x.name.isEmpty && ((x.terms.length : Int) == 3)))) := litOk_4 x hk
                            clear hk
                            cases g1 : Tr.between x.op 5 7
                            · have HF : Hid (Tr.check l = 1) := by show _ = _; rw [HV.out, HD.out, HW.out, HE.out, HLo.out, g1]; simp
                              unfold Tr.between at g1
                              clear HE HD HV HW HLo HRo HA3 HLn
                              go_wp2_with (go_at_call 19; refine (between_any _ _ _ _).mono ?_; rintro e w' ⟨rfl, rfl⟩)
                              go_ret
                              exact ⟨ret_int HF.out.symm, hbel5⟩
                            · cases g2 : x.name.isEmpty
                              · have HF : Hid (Tr.check l = 1) := by show _ = _; rw [HV.out, HD.out, HW.out, HE.out, HLo.out, g2]; simp
                                unfold Tr.between at g1
                                clear HE HD HV HW HLo HRo HA3 HLn
                                go_wp2_with (go_at_call 19; refine (between_any _ _ _ _).mono ?_; rintro e w' ⟨rfl, rfl⟩)
                                go_ret
                                exact ⟨ret_int HF.out.symm, hbel5⟩
                              · cases g3 : ((x.terms.length : Int) == 3)
                                · have HF : Hid (Tr.check l = 1) := by show _ = _; rw [HV.out, HD.out, HW.out, HE.out, HLo.out, g3]; simp
                                  unfold Tr.between at g1
                                  clear HE HD HV HW HLo HRo HA3 HLn
                                  go_wp2_with (go_at_call 19; refine (between_any _ _ _ _).mono ?_; rintro e w' ⟨rfl, rfl⟩)
                                  go_ret
                                  exact ⟨ret_int HF.out.symm, hbel5⟩
                                · have HN : Hid (Tr.litsOk r.body = (r.body.drop (j + 1)).all Tr.litOk) := by show _ = _; rw [HE.out, HLo.out, gT, g1, g2, g3]; simp
                                  unfold Tr.between at g1
                                  clear HE HLo
                                  go_wp2_with (go_at_call 19; refine (between_any _ _ _ _).mono ?_; rintro e w' ⟨rfl, rfl⟩)
                                  go_roundw
                                  case rel => exact ⟨j + 1, by omega, by go_num, HN.out, hbel5q⟩
                                  case measure => simp [intOf]; omega
                          · have t1 : (x.kind == 1) = false := beq_eq_false_iff_ne.2 hk.1
                            have t2 : (x.kind == 2) = false := beq_eq_false_iff_ne.2 hk.2.1
                            have t3 : (x.kind == 3) = false := beq_eq_false_iff_ne.2 hk.2.2.1
                            have t4 : (x.kind == 4) = false := beq_eq_false_iff_ne.2 hk.2.2.2
                            have HLo : Hid (Tr.litOk x = (Tr.termsOk x.terms && false)) := litOk_5 x hk
                            clear hk
                            have HF : Hid (Tr.check l = 1) := by show _ = _; rw [HV.out, HD.out, HW.out, HE.out, HLo.out]; simp
                            clear HE HD HV HW HLo HRo HA3 HLn
                            go_wp2_with fail
                            go_ret
                            exact ⟨ret_int HF.out.symm, hbel5⟩
                      · have HN : Hid (l.all Tr.ruleOk = (l.drop (k + 1)).all Tr.ruleOk) := by
                          show _ = _
                          rw [HD.out, HW.out, HB.out, List.drop_of_length_le (by omega)]
                          rfl
                        have hbelr4 := hbelr3.trans (hbelq.mono hbelr3.size)
                        clear HB HD HW hL3 hA1 HA3 HRo
                        go_wp2_with fail
                        go_roundw
                        case rel => exact ⟨k + 1, by omega, by go_num, HN.out, hbelr4⟩
                        case measure => simp [intOf]; omega
          · have HF : Hid (Tr.check l = 0) := by show _ = _; rw [HV.out, HA3.out, List.drop_of_length_le (by omega)]; rfl
            have hbel4 := hbel1.trans (hbelr.mono hbel1.size)
            clear hA1 HA3 HV
            go_wp2_with fail
            go_ret
            exact ⟨ret_int HF.out.symm, hbel4⟩

end Go.Proofs.YtclbbiocagkmcaaGreatDoor

/- The document's reader, whole: ParseOf answers the tree of a text, or where it is wrong and why. -/
namespace Go.Proofs.YtclbbiocagkmcaaGreatDoor
open Go.RowKit

theorem TInv.start {w w1 : World} {L : List Tk.Tok} {ao : Option Addr} {cap : Nat} {en : Int} (hT : ToksAt w1 ao L) (hL : L.length ≤ 5000) (hG : ∀ t ∈ L, Tk.Good t) (hbw : Below w.heap.size w w1) (hres : w1.heap[w.heap.size]? = some (.cells #[.slice none 0 0] 24)) :
    TInv w ((w1.alloc (.cells #[.slice ao L.length cap, .int .i64 0, .int .i64 en, .bool false] 76)).alloc (.cells #[.slice none 0 0] 24)) w1.heap.size (w1.heap.size + 1) L en (.inr L) (.slice none 0 0) [] := by
  have old : ∀ (u : World) (o x : Obj) (k : Nat), u.heap[k]? = some x → (u.alloc o).heap[k]? = some x := fun u o x k hk => (((Below.refl u.heap.size u).alloc (Nat.le_refl _) o).block k (heap_lt hk)).trans hk
  have hlt := heap_lt hres
  have hrd : RAt (w1.alloc (.cells #[.slice ao L.length cap, .int .i64 0, .int .i64 en, .bool false] 76)) w1.heap.size L en (.inr L) := by
    refine ⟨0, ao, cap, Nat.zero_le _, hL, hG, heap_alloc_new w1 _, rfl, ?_⟩
    rcases hT with h | ⟨b, off, rfl, hc⟩
    · exact .inl h
    · cases L with
      | nil => exact .inl rfl
      | cons t l =>
        have b4 := (Below.refl w1.heap.size w1).alloc (Nat.le_refl _) (.cells #[.slice (some ⟨b, off, none⟩) (t :: l).length cap, .int .i64 0, .int .i64 en, .bool false] 76)
        exact .inr ⟨b, off, rfl, World.block_lt_of_cell? w1 _ (hc 0 (by simp)).1, fun i hi => ⟨cell_below b4 (hc i hi).1, cell_below b4 (hc i hi).2.1, cell_below b4 (hc i hi).2.2⟩⟩
  exact { bel := (hbw.alloc hbw.size _).alloc (by simp; have := hbw.size; omega) _
          res := old _ _ _ _ (old _ _ _ _ hres)
          tre := by have := heap_alloc_new (w1.alloc (.cells #[.slice ao L.length cap, .int .i64 0, .int .i64 en, .bool false] 76)) (.cells #[.slice none 0 0] 24); simpa using this
          rd := hrd.below ((Below.refl _ _).alloc (Nat.le_refl _) _)
          own := World.ownsRow_nil _ _ _ _
          rls := fun p hp => absurd hp (by simp)
          ltR := hlt
          ltT := Nat.lt_succ_self _ }
namespace Rd
/-- How much is left to be read. -/
def leftR (c : Option Value) (n : Nat) : Nat := match c with | some (.bool true) => 0 | _ => n + 1
def leftS (s : Int ⊕ List Tk.Tok) : Nat := match s with | .inl _ => 0 | .inr r => r.length + 1
end Rd
theorem RAt.left {w : World} {R : Nat} {L : List Tk.Tok} {en : Int} {s : Int ⊕ List Tk.Tok} (h : RAt w R L en s) : Rd.leftR (w.cell? ⟨R, 3, none⟩) (L.length - nxOf w R) = Rd.leftS s := by
  obtain ⟨_, _, _, _, _, _, _, q3, _⟩ := h.cells
  rw [q3]
  cases s with
  | inl a => rfl
  | inr r => rw [h.meas]; rfl
theorem rel_rule {en : Int} {r : List Tk.Tok} {f n N : Nat} {u : Tr.Rule} {s : Int ⊕ List Tk.Tok} {acc : List Tr.Rule} {X : Int ⊕ List Tr.Rule} (hE : Rd.Ends (Pr.rule en r) u s) (hX : (match Pr.rule en r with
    | .inl a => Sum.inl a
    | .inr x => Pr.rules en f (acc ++ [x.1]) x.2) = X) (hlen : n + r.length ≤ N) (hrf : r.length ≤ f + 1) :
    ((∃ a, s = .inl a ∧ X = .inl a) ∨ (∃ r' f', s = .inr r' ∧ n + 1 + r'.length ≤ N ∧ r'.length ≤ f' ∧ Pr.rules en f' (acc ++ [u]) r' = X)) ∧ Rd.leftS s < r.length + 1 := by
  cases hR : Pr.rule en r with
  | inl a =>
    rw [hR] at hE hX
    obtain rfl : s = .inl a := hE
    exact ⟨.inl ⟨a, rfl, hX.symm⟩, Nat.succ_pos _⟩
  | inr x =>
    have hl : x.2.length < r.length := rule_len hR
    rw [hR] at hE hX
    obtain ⟨h1, h2⟩ := (hE : u = x.1 ∧ s = .inr x.2)
    subst h1 h2
    exact ⟨.inr ⟨x.2, f, rfl, by omega, by omega, hX⟩, by show x.2.length + 1 < _; omega⟩

set_option maxRecDepth 100000 in
set_option maxHeartbeats 2000000 in
theorem ParseOf_any (s : ByteArray) (w : World) : Calls Tryz.prog 22 #[.string s] w (ParseTop (Pr.parse s.data.toList) w) := by
  obtain ⟨i0, hi, hz0, hz1, hz2⟩ := info_parts A_info49
  obtain ⟨j0, hj, hy0, hy1, hy2⟩ := info_parts A_info43
  rw [parse_eq]
  have HS : Hid (∀ w, Calls Tryz.prog 38 #[.string s] w (ScanTop s.data.toList w)) := fun w => ScanOf_any s w
  have hL : (Tk.scan s.data.toList).1.length ≤ 5000 := Tk.scan_length _
  have hG : ∀ t ∈ (Tk.scan s.data.toList).1, Tk.Good t := Tk.scan_good _
  unfold ScanTop at HS
  rcases hX : Tk.scan s.data.toList with ⟨T, p, E⟩
  rw [hX] at HS hL hG
  simp only at HS hL hG
  clear hX
  have HQ : Hid (∀ X, Pr.parseOf s.size (T, p, E) = X → ∀ e w', ParseTop X w e w' → ParseTop (Pr.parseOf s.size (T, p, E)) w e w') := by rintro X rfl e w' h; exact h
  generalize ParseTop (Pr.parseOf s.size (T, p, E)) w = Q at HQ ⊢
  go_enter Tryz.func22, Tryz.ntmps22
  go_wp2_with fail
  refine Calls.mono (HS.out _) ?_
  rintro e w1 ⟨ao, cap, rfl, hown, hb⟩
  have hT := toksAt_own hown
  clear hown HS
  have hres : w1.heap[w.heap.size]? = some (.cells #[.slice none 0 0] 24) := (hb.block _ (by simp)).trans (heap_alloc_new w _)
  have hbw : Below w.heap.size w w1 := ((Below.refl w.heap.size w).alloc (Nat.le_refl _) _).trans (hb.mono (by simp))
  obtain ⟨c0, f0⟩ := tree_cell hres
  cases hE : (E == 0)
  · have HP2 : Hid (Pr.parseOf s.size (T, p, E) = ([], (p : Int), E)) := by
      unfold Pr.parseOf
      rw [if_neg (by intro e; simp only at e; rw [e] at hE; exact absurd hE (by decide))]
      exact rfl
    go_wp2_with fail
    exact bodyPost_ret (v := .tuple #[.agg #[.slice none 0 0], .int .i64 p, .int .i64 E]) (by simp [results, Tryz.results22, go_sem, c0]) rfl (HQ.out _ HP2.out _ _ ⟨none, 0, rfl, rulesP_nil _ _, hbw.setCell (p := ⟨w.heap.size, 0, none⟩) (Nat.le_refl _) _⟩)
  · obtain rfl : E = 0 := eq_of_beq hE
    have HP2 : Hid (∀ X, Pr.rules s.size T.length [] T = X → Pr.parseOf s.size (T, p, 0) = match X with
      | .inl a => ([], a, 1)
      | .inr t => if Tr.check t = 0 then (t, 0, 0) else ([], 0, Tr.check t)) := by
      rintro X rfl
      unfold Pr.parseOf
      rw [if_pos rfl]
      exact rfl
    have hst := TInv.start (en := s.size) (cap := cap) hT hL hG hbw hres
    clear hE c0 f0 hT hb hres hbw hG
    generalize hRR : (s.size : Int) = en at *
    go_wp2_with fail
    clear hRR
    generalize (w1.alloc (.cells #[.slice ao T.length cap, .int .i64 0, .int .i64 en, .bool false] 76)).alloc (.cells #[.slice none 0 0] 24) = w2 at *
    generalize w1.heap.size + 1 = TB at *
    generalize w1.heap.size = R at *
    go_loopw [] (fun wr => ∃ (v : Value) (q : List (Tr.Rule × Value × Value)) (sx : Int ⊕ List Tk.Tok), TInv w wr R TB T en sx v q ∧ q.length ≤ 5001 ∧ ((∃ a, sx = .inl a ∧ Pr.rules en T.length [] T = .inl a) ∨ (∃ r f, sx = .inr r ∧ q.length + r.length ≤ T.length ∧ r.length ≤ f ∧ Pr.rules en f (q.map (·.1)) r = Pr.rules en T.length [] T)))
      (fun wr => Rd.leftR (wr.cell? ⟨R, 3, none⟩) (T.length - nxOf wr R))
    case atStart => exact ⟨_, [], .inr T, hst, by simp, .inr ⟨T, T.length, rfl, by simp, Nat.le_refl _, rfl⟩⟩
    case round =>
      rename World => wo
      obtain ⟨v, q, sx, hI, hq5, hcase⟩ := hrel
      clear hst
      obtain ⟨aov, capv, rfl⟩ := own_slice hI.own
      rcases hcase with ⟨a, rfl, hXa⟩ | ⟨r, f, rfl, hlen, hrf, hXr⟩
      · have HP3 : Hid (Pr.parseOf en (T, p, 0) = ([], a, 1)) := HP2.out _ hXa
        obtain ⟨nx, ao', cap', hnx, q0, q1, q2, q3, f1, f3⟩ := hI.rd.cells
        replace q3 : wo.cell? ⟨R, 3, none⟩ = some (.bool true) := q3
        have HH := Here_any R T en (.inl a) wo hI.rd
        have HH : Calls Tryz.prog 39 #[.pointer (some ⟨R, 0, none⟩)] wo fun e w' => e = .returned (.int .i64 a) ∧ ∃ k, w' = wo.drewN k := HH
        obtain ⟨t0, t1, x0, x1⟩ := hI.cells
        clear HP2 hXa
        go_wp2_with fail
        refine HH.mono ?_
        rintro e w3 ⟨rfl, k3, rfl⟩
        go_wp2_with fail
        exact bodyPost_ret (v := .tuple #[.agg #[.slice none 0 0], .int .i64 a, .int .i64 1]) (by simp [results, Tryz.results22, go_sem, x0]) rfl (HQ.out _ HP3.out _ _ ⟨none, 0, rfl, rulesP_nil _ _, (below_drewN hI.bel k3).setCell (p := ⟨w.heap.size, 0, none⟩) (Nat.le_refl _) _⟩)
      · obtain ⟨nx, ao', cap', h1, _, _, h4, h5, _⟩ := hI.rd
        have h5 : T.drop nx = r := h5
        have q0 : wo.cell? ⟨R, 0, none⟩ = some (.slice ao' T.length cap') := by rw [Lib.cell_of_heap h4]; rfl
        have q1 : wo.cell? ⟨R, 1, none⟩ = some (.int .i64 nx) := by rw [Lib.cell_of_heap h4]; rfl
        have q3 : wo.cell? ⟨R, 3, none⟩ = some (.bool false) := by rw [Lib.cell_of_heap h4]; rfl
        clear h4
        by_cases hr : r = []
        · subst hr
          have hnx : nx = T.length := by
            have := congrArg List.length h5
            simp at this
            omega
          subst hnx
          have hXe : Pr.rules en T.length [] T = .inr (q.map (·.1)) := by
            cases f <;> simpa [Pr.rules] using hXr.symm
          have HP3 : Hid (Pr.parseOf en (T, p, 0) = if Tr.check (q.map (·.1)) = 0 then ((q.map (·.1)), 0, 0) else ([], 0, Tr.check (q.map (·.1)))) := HP2.out _ hXe
          have hP := hI.rules
          have hqm : (q.map (·.1)).length = q.length := by simp
          have hbel := hI.bel
          have hszT := hI.sz
          have hltT := hI.ltT
          have hltR := hI.ltR
          obtain ⟨t0, t1, x0, x1⟩ := hI.cells
          have hres := hI.res
          have htre := hI.tre
          clear hXe hXr HP2 h5 hI
          generalize q.map (·.1) = t at hP hqm HP3
          have HK : Hid (∀ w, RulesV w (.slice aov q.length capv) t → Calls Tryz.prog 7 #[.agg #[.slice aov q.length capv]] w fun e w' => e = .returned (.int .i64 (Tr.check t)) ∧ Below w.heap.size w w') := fun w h => CheckTree_any t _ w h
          have hdl : decide (T.length < T.length) = false := by simp
          go_wp2_with fail
          refine Calls.mono (HK.out _ hP.toV) ?_
          rintro e w3 ⟨rfl, hb3⟩
          have hres4 := (hb3.block _ (heap_lt hres)).trans hres
          have htr4 := (hb3.block _ (heap_lt htre)).trans htre
          have hbw4 := hbel.trans (hb3.mono hbel.size)
          have hP4 := hP.below hb3
          clear HK hres htre hb3 hP t0 t1 x0 x1 q0 q1 q3
          obtain ⟨c0, f0⟩ := tree_cell hres4
          obtain ⟨c1, f1⟩ := tree_cell htr4
          cases hC : (Tr.check t == 0)
          · have HP4 : Hid (Pr.parseOf en (T, p, 0) = ([], 0, Tr.check t)) := by
              have := HP3.out
              rw [if_neg (by intro e; rw [e] at hC; exact absurd hC (by decide))] at this
              exact this
            go_wp2_with fail
            exact bodyPost_ret (v := .tuple #[.agg #[.slice none 0 0], .int .i64 0, .int .i64 (Tr.check t)]) (by simp [results, Tryz.results22, go_sem, c0]) rfl (HQ.out _ HP4.out _ _ ⟨none, 0, rfl, rulesP_nil _ _, hbw4.setCell (p := ⟨w.heap.size, 0, none⟩) (Nat.le_refl _) _⟩)
          · have HP4 : Hid (Pr.parseOf en (T, p, 0) = (t, 0, 0)) := by
              have := HP3.out
              rw [if_pos (eq_of_beq hC)] at this
              exact this
            have hC0 : Tr.check t = 0 := eq_of_beq hC
            generalize Tr.check t = ct at *
            subst hC0
            clear hC
            go_wp2_with fail
            exact bodyPost_ret (v := .tuple #[.agg #[.slice aov q.length capv], .int .i64 0, .int .i64 0]) (by simp [results, Tryz.results22, go_sem, c0]) rfl (HQ.out _ HP4.out _ _ ⟨aov, capv, by rw [hqm], by rw [hqm]; exact (hP4.set (by omega) _ _).mono (by omega), hbw4.setCell (p := ⟨w.heap.size, 0, none⟩) (Nat.le_refl _) _⟩)
        · obtain ⟨f, rfl⟩ : ∃ f', f = f' + 1 := by
            cases r with
            | nil => exact absurd rfl hr
            | cons t l => exact ⟨f - 1, by simp at hrf; omega⟩
          have hlt : nx < T.length := by
            rcases Nat.lt_or_ge nx T.length with h | h
            · exact h
            · exact absurd (h5.symm.trans (List.drop_of_length_le h)) hr
          have hdl : decide (nx < T.length) = true := decide_eq_true hlt
          have HXR : Hid _ := (rules_step (en := en) (f := f) (acc := q.map (·.1)) hr).symm.trans hXr
          have hmeas := hI.rd.meas
          have HH := Here_any R T en (.inr r) wo hI.rd
          have HNM : Hid (∀ w1, RAt w1 R T en (.inr r) → _) := fun w1 h => Name_any R T en (.inr r) w1 h
          have HER : Hid (∀ nm s1 p s2 b s3, Rd.Ends (Rd.on (Pr.name en) (.inr r)) nm s1 → Rd.Ends (Rd.on (Pr.terms true en) s1) p s2 → Rd.Ends (Rd.body p.2 en s2) b s3 → Rd.Ends (Pr.rule en r) ⟨Rd.here en (.inr r), nm, p.1, p.2, b⟩ (Rd.need [46] en s3)) := fun nm s1 p s2 b s3 a b c => Rd.ends_rule a b c
          generalize Rd.here en (.inr r) = at_ at *
          clear hXr h5 HP2 HQ
          go_wp2_with fail
          refine HH.mono ?_
          rintro e w3 ⟨rfl, k3, hw3⟩
          have hU := RU.start hI.rd (show Below wo.heap.size wo w3 by rw [hw3]; exact below_drewN (Below.refl _ _) k3) at_
          have hsz3 : wo.heap.size = w3.heap.size := by rw [hw3]; rfl
          clear HH hw3
          go_upto_region 8 with fail
          generalize w3.alloc (.cells #[.int .i64 at_, .string ⟨#[]⟩, .slice none 0 0, .int .i64 0, .slice none 0 0] 46) = w4 at *
          generalize hB : w3.heap.size = B at *
          clear hB q0 q1 q3
          obtain ⟨c0, c1, c2, c3, c4, f1⟩ := hU.cells
          go_wp2_with fail
          refine Calls.mono (HNM.out _ hU.went.2) ?_
          rintro e w5 ⟨nm, s1, rfl, hE1, hA5, hg5⟩
          have HE1 : Hid _ := hE1
          have hU2 := hU.on ⟨hg5, hA5⟩
          clear hU hE1 hA5 hg5 HNM c0 c1 c2 c3 c4 f1
          obtain ⟨c0, c1, c2, c3, c4, f1⟩ := hU2.cells
          have hU3 := hU2.setName nm
          go_wp2_with fail
          refine (Terms_any true R T en s1 _ hU3.went.2).mono ?_
          rintro e w7 ⟨tv, pp, s2, rfl, hE2, hT7, hW7⟩
          have HE2 : Hid _ := hE2
          have hU4 := hU3.on hW7
          have hT7' := hT7.mono (B' := B + 1) hU3.sz
          clear hE2 hU2 hU3 hW7 c0 c1 c2 c3 c4 f1
          obtain ⟨c0, c1, c2, c3, c4, f1⟩ := hU4.cells
          obtain ⟨aot, capt, htv, _⟩ := hT7
          rw [List.length_map] at htv
          subst htv
          have hU5 := hU4.setTerms hT7' pp.2
          go_upto_region 10 with fail
          generalize (w7.setCell ⟨B, 2, none⟩ (.slice aot pp.1.length capt)).setCell ⟨B, 3, none⟩ (.int .i64 pp.2) = w8 at *
          clear c0 c1 c2 c3 c4 f1 hU4 hT7'
          obtain ⟨c0, c1, c2, c3, c4, f1⟩ := hU5.cells
          have HTX := Text_any R T en s2 w8 hU5.went.2
          go_cut [53] (fun v wx => v = .bool (Rd.goesOn pp.2 s2) ∧ ∃ k, wx = w8.drewN k)
          case first =>
            have HG : Hid (Rd.goesOn pp.2 s2 = (decide (0 < pp.2) || !(Rd.text s2 == [46]))) := rfl
            generalize Rd.goesOn pp.2 s2 = G at *
            generalize Rd.text s2 = ty at *
            by_cases hf : 0 < pp.2
            · have hd : decide ((0 : Int) < pp.2) = true := decide_eq_true hf
              have hG := HG.out
              rw [hd] at hG
              subst hG
              clear HG hf
              go_wp2_with fail
              go_meet
              exact ⟨rfl, 0, rfl⟩
            · have hd : decide ((0 : Int) < pp.2) = false := decide_eq_false hf
              have hG := HG.out
              rw [hd] at hG
              clear HG hf
              go_wp2_with fail
              refine HTX.mono ?_
              rintro e w9 ⟨rfl, k9, rfl⟩
              go_wp2_with fail
              go_meet
              refine ⟨?_, k9, rfl⟩
              rw [hG]
              simp
          case rest =>
            obtain ⟨rfl, k9, rfl⟩ := hcut
            have hU6 := hU5.drew k9
            clear c0 c1 c2 c3 c4 f1 hU5 HTX
            generalize w8.drewN k9 = w9 at *
            go_upto_if 53 with fail
            go_cut [] (fun wx => ∃ bv bq s3, Rd.Ends (Rd.body pp.2 en s2) (bq.map (·.1)) s3 ∧ RU wo wx B R T en s3 at_ nm (.slice aot pp.1.length capt) pp.1 pp.2 bv bq)
            case first =>
              cases hG : Rd.goesOn pp.2 s2
              · have HE3 : Hid (Rd.Ends (Rd.body pp.2 en s2) (([] : List (Tr.Lit × Value)).map (·.1)) s2) := by
                  show Rd.Ends _ _ _
                  unfold Rd.body
                  rw [hG]
                  simp only [Bool.false_eq_true, if_false]
                  cases s2 with
                  | inl a => exact rfl
                  | inr r => exact ⟨rfl, rfl⟩
                go_wp2_with fail
                go_meet
                exact ⟨_, [], s2, HE3.out, hU6⟩
              · have HEB : Hid (∀ X, Rd.on (Pr.lits en (Rd.lenS (Rd.need [58, 45] en s2) + 1) []) (Rd.need [58, 45] en s2) = X → Rd.body pp.2 en s2 = X) := by
                  intro X hX
                  unfold Rd.body
                  rw [hG, ← hX]
                  simp only [if_true]
                  cases Rd.need [58, 45] en s2 <;> rfl
                have HN := Need_any [58, 45] (by simp) R T en s2 w9 hU6.went.2
                clear hG
                go_wp2_with fail
                refine HN.mono ?_
                rintro e w10 ⟨rfl, hA10, hg10⟩
                have hU7 := hU6.on ⟨hg10, hA10⟩
                clear hU6 HN hg10
                generalize Rd.need [58, 45] en s2 = s3 at *
                have hlen3 : Rd.lenS s3 ≤ T.length := by
                  cases s3 with
                  | inl a => exact Nat.zero_le _
                  | inr r => exact hA10.len.1
                clear hA10
                generalize hLX : Rd.on (Pr.lits en (Rd.lenS s3 + 1) []) s3 = LX at *
                have HEB2 : Hid (Rd.body pp.2 en s2 = LX) := HEB.out LX rfl
                clear HEB
                go_wp2_with fail
                go_loopw [11] (fun c wx => ∃ (bv : Value) (bq : List (Tr.Lit × Value)) (s4 : Int ⊕ List Tk.Tok), RU wo wx B R T en s4 at_ nm (.slice aot pp.1.length capt) pp.1 pp.2 bv bq ∧ bq.length ≤ 5001 ∧
                    ((c = .bool true ∧ bq.length + Rd.lenS s4 ≤ T.length ∧ ∃ f, Rd.lenS s4 < f ∧ Rd.on (Pr.lits en f (bq.map (·.1))) s4 = LX) ∨ (c = .bool false ∧ Rd.Ends LX (bq.map (·.1)) s4)))
                  (fun c wx => Rd.left c (T.length - nxOf wx R))
                case atStart => exact ⟨_, [], s3, hU7, by simp, .inl ⟨rfl, by simpa using hlen3, _, Nat.lt_succ_self _, hLX⟩⟩
                case round =>
                  obtain ⟨bv, bq, s4, hUr, hbq, hc⟩ := hrel
                  clear hU7 hlen3 hLX
                  obtain ⟨aob, capb, rfl⟩ := own_slice hUr.own
                  obtain ⟨nx4, ao4, cap4, hnx4, q0, q1, q2, q3, g1, g3⟩ := hUr.went.2.cells
                  rcases hc with ⟨rfl, hlen4, f4, hf4, hX4⟩ | ⟨rfl, hE4⟩
                  · cases s4 with
                    | inl a =>
                      have HE4 : Hid (Rd.Ends (Rd.body pp.2 en s2) (bq.map (·.1)) (.inl a)) := by show Rd.Ends _ _ _; rw [HEB2.out, ← hX4]; exact rfl
                      replace q3 : wr.cell? ⟨R, 3, none⟩ = some (.bool true) := q3
                      clear hX4
                      go_wp2_with fail
                      go_meet
                      exact ⟨_, bq, _, HE4.out, hUr⟩
                    | inr r4 =>
                      replace q3 : wr.cell? ⟨R, 3, none⟩ = some (.bool false) := q3
                      obtain ⟨f4, rfl⟩ : ∃ f', f4 = f' + 1 := ⟨f4 - 1, by omega⟩
                      have HX4 : Hid (Pr.lits en (f4 + 1) (bq.map (·.1)) r4 = LX) := hX4
                      have hms := hUr.went.2.meas
                      have HLT : Hid (∀ w1, RAt w1 R T en (.inr r4) → _) := fun w1 h => Lit_any R T en (.inr r4) w1 h
                      unfold RLitEnd at HLT
                      obtain ⟨c0, c1, c2, c3, c4, f1⟩ := hUr.cells
                      have hRB : R < B + 1 := by have := hUr.lt; have := hUr.ltB; omega
                      clear hX4
                      go_upto_region 14 with fail
                      go_cut [] (fun wx => ∃ bv l1 lv s5, Rd.Ends (Pr.lit en r4) l1 s5 ∧ RU wo wx B R T en s5 at_ nm (.slice aot pp.1.length capt) pp.1 pp.2 bv (bq ++ [(l1, lv)]))
                      case first =>
                        go_region_law (first
                          | (go_simp; go_at_call 44; refine Calls.mono (HLT.out _ (RAt.keep hUr.went.2 (fun _ _ => rfl))) ?_; rintro e y2 ⟨l1, lv, s5, rfl, hE5, hTl, hW5⟩; have HE5 : Hid _ := hE5; have hU8 := RU.on2 hUr hW5 ⟨rfl, rfl, rfl, Nat.le_refl _, fun _ _ => rfl⟩; have hTl2 := TermsP.mono (B' := B + 1) hTl hUr.sz; obtain ⟨aol, capl, hlv, hTl'⟩ := hTl; simp only [List.length_map] at hlv; subst hlv; obtain ⟨d0, d1, d2, d3, d4, g1⟩ := hU8.cells; have hsz := hU8.sz; clear hE5; dsimp only)
                          | (refine step_append_lies _ rfl (.tmp 62) (.tmp 64) 44 rfl (B + 1) 50 i0 _ 5 64 Tryz.underlying44 hi hz0 hz1 hz2 rfl (by decide) (.slice aob bq.length capb) bq.length _ ?hs (RU.below hU8 ((Below.refl _ _).alloc (Nat.le_refl _) _)).own ⟨y2.heap.size, 0, none⟩ 1 1 (litCells (l1, .slice aol l1.terms.length capl)) ?hx rfl ?hn ?ho ?hm ?h6 ?hb ?hB _ rfl ?_
                             case hs => simp [Act.eval]
                             case hx => simp [Act.eval]
                             case hn => exact news_lit _ _ _
                             case ho => exact one_lit _ _ _ _
                             case hm => decide
                             case h6 => (unfold maxLen; omega)
                             case hb => omega
                             case hB => (simp; omega)
                             intro g cap y3 hown hgrow hat hlt
                             have hU9 := RU.put (RU.below hU8 ((Below.refl _ _).alloc (Nat.le_refl _) _)) hgrow (hTl2.keep (keeps_below _ ((Below.refl _ _).alloc (Nat.le_refl _) _))) hown
                             obtain ⟨_, e4, ef⟩ := RU.app (RU.below hU8 ((Below.refl _ _).alloc (Nat.le_refl _) _)) hgrow))
                        all_goals (go_wp2_with fail; go_meet)
                        all_goals exact ⟨_, l1, _, s5, HE5.out, hU9⟩
                      case rest =>
                        obtain ⟨bv, l1, lv, s5, hE5, hU9⟩ := hcut
                        have HE5 : Hid (Rd.Ends (Pr.lit en r4) l1 s5) := hE5
                        generalize wc = w14 at *
                        clear hE5 hUr HLT c0 c1 c2 c3 c4 f1 q0 q1 q2 q3 g1 g3
                        have HT9 := Text_any R T en s5 w14 hU9.went.2
                        have hlen4' : bq.length + r4.length ≤ T.length := hlen4
                        have hf4' : r4.length < f4 + 1 := hf4
                        have hbl : ∀ lv' : Value, (bq ++ [(l1, lv')]).length = bq.length + 1 := fun lv' => by simp
                        have hbm : ∀ lv' : Value, (bq ++ [(l1, lv')]).map (fun (x : Tr.Lit × Value) => x.1) = bq.map (fun (x : Tr.Lit × Value) => x.1) ++ [l1] := fun lv' => by simp
                        cases hq : (Rd.text s5 == [44])
                        · have HE7 : Hid (Rd.Ends LX ((bq ++ [(l1, lv)]).map (·.1)) s5) := by
                            show Rd.Ends _ _ _
                            rw [hbm]
                            have h := HE5.out
                            have hx := HX4.out
                            cases hT : Pr.lit en r4 with
                            | inl a => rw [lits_no hT] at hx; rw [hT] at h; rw [← hx]; exact h
                            | inr y =>
                              rw [lits_yes hT] at hx
                              rw [hT] at h
                              obtain ⟨h1, h2⟩ := (h : l1 = y.1 ∧ s5 = .inr y.2)
                              subst h1 h2
                              unfold Pr.after at hx
                              rw [Rd.text_no hq] at hx
                              rw [← hx]
                              exact ⟨rfl, rfl⟩
                          clear HX4 HE5
                          generalize Rd.text s5 = tq at *
                          go_wp2_with fail
                          refine HT9.mono ?_
                          rintro e w15 ⟨rfl, k15, rfl⟩
                          go_wp2_with fail
                          go_roundw
                          case rel => exact ⟨_, bq ++ [(l1, lv)], s5, hU9.drew k15, by rw [hbl]; omega, .inr ⟨rfl, HE7.out⟩⟩
                          case measure => exact Nat.succ_pos _
                        · obtain ⟨r6, rfl, hy⟩ := Rd.text_yes (en := en) (by simp) hq
                          have hT : Pr.lit en r4 = .inr (l1, r6) := by
                            have h := HE5.out
                            cases hT : Pr.lit en r4 with
                            | inl a => rw [hT] at h; exact absurd h (by simp [Rd.Ends])
                            | inr y =>
                              rw [hT] at h
                              obtain ⟨h1, h2⟩ := (h : l1 = y.1 ∧ Sum.inr r6 = Sum.inr y.2)
                              injection h2 with h2
                              rw [h1, h2]
                          have hl6 : r6.length < r4.length := lit_len hT
                          have HX8 : Hid (Rd.on (Pr.lits en f4 ((bq ++ [(l1, lv)]).map (·.1))) (.inr r6.tail) = LX) := by
                            show Pr.lits en f4 _ r6.tail = LX
                            have hx := HX4.out
                            rw [lits_yes hT] at hx
                            unfold Pr.after at hx
                            rw [hbm, ← hx]
                            simp only [hy, if_true]
                          have hlt6 : r6.tail.length ≤ r6.length := by simp
                          clear HX4 HE5 hT
                          generalize Rd.text (.inr r6) = tq at *
                          go_wp2_with fail
                          refine HT9.mono ?_
                          rintro e w15 ⟨rfl, k15, rfl⟩
                          have hU10 := hU9.drew k15
                          have HN := Need_any [44] (by simp) R T en (.inr r6) _ hU10.went.2
                          rw [Rd.need_yes hy] at HN
                          go_wp2_with fail
                          refine HN.mono ?_
                          rintro e w16 ⟨rfl, hA16, hg16⟩
                          go_wp2_with fail
                          go_roundw
                          case rel => exact ⟨_, bq ++ [(l1, lv)], .inr r6.tail, hU10.on ⟨hg16, hA16⟩, by rw [hbl]; omega, .inl ⟨rfl, by rw [hbl]; show bq.length + 1 + r6.tail.length ≤ T.length; omega, f4, by show r6.tail.length < f4; omega, HX8.out⟩⟩
                          case measure =>
                            show (T.length - nxOf w16 R) + 1 < (T.length - nxOf wr R) + 1
                            rw [hA16.meas, hms]
                            omega
                  · have HE4 : Hid (Rd.Ends (Rd.body pp.2 en s2) (bq.map (·.1)) s4) := by show Rd.Ends _ _ _; rw [HEB2.out]; exact hE4
                    clear hE4
                    go_wp2_with fail
                    go_meet
                    exact ⟨_, bq, _, HE4.out, hUr⟩
            case rest =>
              obtain ⟨bv, bq, s3, hE3, hU7⟩ := hcut
              have HE3 : Hid _ := HER.out _ _ _ _ _ _ HE1.out HE2.out hE3
              generalize wc = w12 at *
              clear hE3 hU6 HE1 HE2 HER
              obtain ⟨aob, capb, rfl⟩ := own_slice hU7.own
              have HN := Need_any [46] (by simp) R T en s3 w12 hU7.went.2
              go_wp2_with fail
              refine HN.mono ?_
              rintro e w13 ⟨rfl, hA13, hg13⟩
              have hU8 := hU7.on ⟨hg13, hA13⟩
              have hI8 := hI.on hU8.went
              have hTrm := hU8.trm.mono (B' := TB + 1) (by have := hU8.ltB; have := hI.sz; omega)
              have hLts := hU8.lits.mono (B' := TB + 1) (by have := hU8.ltB; have := hI.sz; omega)
              obtain ⟨c0, c1, c2, c3, c4, f1⟩ := hU8.cells
              obtain ⟨t0, t1, x0, x1⟩ := hI8.cells
              have hszT := hI8.sz
              clear HN hU7 hA13 hg13
              generalize Rd.need [46] en s3 = s5 at *
              go_wp2_with (at_builtin; refine wpList_append_own _ rfl (.tmp 73) (.tmp 75) 22 rfl (TB + 1) 46 j0 _ 5 80 Tryz.underlying22 hj hy0 hy1 hy2 rfl (by decide) _ _ _ rfl (ownsRow_below hI8.own ((Below.refl _ _).alloc (Nat.le_refl _) _)) ⟨w13.heap.size, 0, none⟩ 1 1 (ruleCells (⟨at_, nm, pp.1, pp.2, bq.map (·.1)⟩, .slice aot pp.1.length capt, .slice aob bq.length capb)) rfl rfl ?c1 ?c2 ?c3 ?c4 ?c5 ?_)
              case c1 => exact news_rule _ ⟨at_, nm, pp.1, pp.2, bq.map (·.1)⟩ _ _
              case c2 => exact one_rule _ _ _ _ _ _ _
              case c3 => unfold maxLen; omega
              case c4 => omega
              case c5 => simp; omega
              intro v' w14 hown14 hgrow _
              have hI9 := TInv.put (v' := v') (p := (⟨at_, nm, pp.1, pp.2, bq.map (·.1)⟩, .slice aot pp.1.length capt, .slice aob bq.length capb)) (hI8.below ((Below.refl _ _).alloc (Nat.le_refl _) _)) hgrow (hTrm.keep (keeps_below _ ((Below.refl _ _).alloc (Nat.le_refl _) _))) (hLts.keep (keeps_below _ ((Below.refl _ _).alloc (Nat.le_refl _) _))) hown14
              obtain ⟨_, e4, ef⟩ := TInv.app (hI8.below ((Below.refl _ _).alloc (Nat.le_refl _) _)) hgrow
              obtain ⟨ao9, cap9, rfl⟩ := own_slice hown14
              clear c0 c1 c2 c3 c4 f1 t0 t1 x0 x1 hTrm hLts hU8 hI8
              go_wp2_with fail
              go_roundw
              case rel =>
                refine ⟨_, _, s5, hI9, by rw [List.length_append]; show q.length + 1 ≤ 5001; omega, ?_⟩
                have hr := (rel_rule HE3.out HXR.out hlen hrf).1
                rcases hr with ⟨a, h1, h2⟩ | ⟨r', f', h1, h2, h3, h4⟩
                · exact .inl ⟨a, h1, h2⟩
                · exact .inr ⟨r', f', h1, by rw [List.length_append]; exact h2, h3, by rw [List.map_append]; exact h4⟩
              case measure =>
                rw [hI9.rd.left, hI.rd.left]
                exact (rel_rule HE3.out HXR.out hlen hrf).2

end Go.Proofs.YtclbbiocagkmcaaGreatDoor

/- What is parsed hangs on kinds and texts alone, but for where all begins. -/
namespace Go.Proofs.YtclbbiocagkmcaaGreatDoor
namespace Pr

def er (t : Tk.Tok) : Tk.Tok := ⟨t.kind, 0, t.text⟩
def erL (x : Tr.Lit) : Tr.Lit := ⟨x.kind, 0, x.op, x.name, x.terms⟩
def erR (r : Tr.Rule) : Tr.Rule := ⟨0, r.name, r.terms, r.fold, r.body.map erL⟩
def zap {α β : Type} (f : α → β) : Int ⊕ (α × List Tk.Tok) → Int ⊕ (β × List Tk.Tok)
  | .inl _ => .inl 0
  | .inr x => .inr (f x.1, x.2.map er)

theorem hd_kind (en : Int) (r : List Tk.Tok) : (hd 0 (r.map er)).kind = (hd en r).kind := by cases r <;> rfl
theorem hd_text (en : Int) (r : List Tk.Tok) : (hd 0 (r.map er)).text = (hd en r).text := by cases r <;> rfl
theorem hd_at (r : List Tk.Tok) : (hd 0 (r.map er)).at_ = 0 := by cases r <;> rfl
theorem tail_er (r : List Tk.Tok) : (r.map er).tail = r.tail.map er := by cases r <;> rfl
theorem isText_er (en : Int) (r : List Tk.Tok) (t : List UInt8) : isText 0 (r.map er) t = isText en r t := by unfold isText; rw [hd_text en]

theorem must_er (t : List UInt8) (en : Int) (r : List Tk.Tok) : must t 0 (r.map er) = match must t en r with | .inl _ => .inl 0 | .inr x => .inr (x.map er) := by
  unfold must
  rw [hd_text en, hd_at, tail_er]
  by_cases h : ((hd en r).text == t) = true
  · rw [if_pos h, if_pos h]
  · rw [if_neg h, if_neg h]
theorem name_er (en : Int) (r : List Tk.Tok) : name 0 (r.map er) = zap id (name en r) := by
  unfold name
  rw [hd_text en, hd_kind en, hd_at, tail_er]
  by_cases h : (((hd en r).kind == 1) && !Tr.isWord (hd en r).text) = true
  · rw [if_pos h, if_pos h]; rfl
  · rw [if_neg h, if_neg h]; rfl
theorem number_er (en : Int) (r : List Tk.Tok) : number 0 (r.map er) = zap id (number en r) := by
  unfold number
  rw [hd_text en, hd_kind en, hd_at, tail_er]
  by_cases h : ((hd en r).kind == 3) = true
  · rw [if_pos h, if_pos h]; rfl
  · rw [if_neg h, if_neg h]; rfl
theorem neg_er (en : Int) (r : List Tk.Tok) : neg 0 (r.map er) = zap id (neg en r) := by
  unfold neg
  rw [hd_text en, hd_at, number_er en]
  by_cases h : ((hd en r).text == [48]) = true
  · rw [if_pos h, if_pos h]; rfl
  · rw [if_neg h, if_neg h]
    cases number en r <;> rfl
theorem term_er (en : Int) (r : List Tk.Tok) : term 0 (r.map er) = zap id (term en r) := by
  unfold term
  rw [hd_text en, hd_kind en, tail_er, must_er [45] en]
  by_cases h : ((hd en r).kind == 2) = true
  · rw [if_pos h, if_pos h]; rfl
  · rw [if_neg h, if_neg h]
    by_cases h2 : ((hd en r).kind == 3) = true
    · rw [if_pos h2, if_pos h2]; rfl
    · rw [if_neg h2, if_neg h2]
      cases must [45] en r with
      | inl a => rfl
      | inr x => exact neg_er en x
theorem foldAt_er (en : Int) (r : List Tk.Tok) : foldAt 0 (r.map er) = ((foldAt en r).1, (foldAt en r).2.map er) := by
  unfold foldAt
  rw [hd_text en, tail_er]
  by_cases h : (Tr.foldOf (hd en r).text != 0) = true
  · rw [if_pos h, if_pos h]
  · rw [if_neg h, if_neg h]
theorem foldMay_er (may : Bool) (en : Int) (r : List Tk.Tok) : foldMay may 0 (r.map er) = ((foldMay may en r).1, (foldMay may en r).2.map er) := by
  unfold foldMay
  cases may
  · rfl
  · exact foldAt_er en r
theorem more_er (may : Bool) (en : Int) : ∀ (f : Nat) (acc : List Tr.Term) (r : List Tk.Tok), more may 0 f acc (r.map er) = zap id (more may en f acc r)
  | 0, _, _ => rfl
  | f + 1, acc, r => by
    unfold more
    rw [foldMay_er may en]
    simp only
    rw [term_er en]
    cases term en (foldMay may en r).2 with
    | inl a => rfl
    | inr x =>
      simp only [zap, id]
      rw [isText_er en, tail_er]
      by_cases h : (((foldMay may en r).1 == 0) && isText en x.2 [44]) = true
      · rw [if_pos h, if_pos h]; exact more_er may en f _ _
      · rw [if_neg h, if_neg h]
theorem inside_er (may : Bool) (en : Int) (r : List Tk.Tok) : inside may 0 (r.map er) = zap id (inside may en r) := by
  unfold inside
  rw [isText_er en, tail_er, List.length_map, more_er may en]
  by_cases h : isText en r [41] = true
  · rw [if_pos h, if_pos h]; rfl
  · rw [if_neg h, if_neg h]
    cases more may en (r.length + 1) [] r with
    | inl a => rfl
    | inr x =>
      simp only [zap, id]
      rw [must_er [41] en]
      cases must [41] en x.2 <;> rfl
theorem terms_er (may : Bool) (en : Int) (r : List Tk.Tok) : terms may 0 (r.map er) = zap id (terms may en r) := by
  unfold terms
  rw [must_er [40] en]
  cases must [40] en r with
  | inl a => rfl
  | inr x => exact inside_er may en x
theorem op_er (en : Int) (r : List Tk.Tok) : op 0 (r.map er) = zap id (op en r) := by
  unfold op
  rw [hd_text en, hd_at, tail_er]
  by_cases h : (opOf (hd en r).text != 0) = true
  · rw [if_pos h, if_pos h]; rfl
  · rw [if_neg h, if_neg h]; rfl
theorem atom_er (kind at_ en : Int) (r : List Tk.Tok) : atom kind 0 0 (r.map er) = zap erL (atom kind at_ en r) := by
  unfold atom
  rw [name_er en]
  cases name en r with
  | inl a => rfl
  | inr x =>
    simp only [zap, id]
    rw [terms_er false en]
    cases terms false en x.2 <;> rfl
theorem calcLit_er (at_ o : Int) (a b : Tr.Term) (en : Int) (r : List Tk.Tok) : calcLit 0 o a b 0 (r.map er) = zap erL (calcLit at_ o a b en r) := by
  unfold calcLit
  rw [must_er [61] en]
  cases must [61] en r with
  | inl p => rfl
  | inr x =>
    simp only
    rw [term_er en]
    cases term en x <;> rfl
theorem reckon_er (at_ en : Int) (r : List Tk.Tok) : reckon 0 0 (r.map er) = zap erL (reckon at_ en r) := by
  unfold reckon
  rw [term_er en]
  cases term en r with
  | inl p => rfl
  | inr a =>
    simp only [zap, id]
    rw [op_er en]
    cases op en a.2 with
    | inl p => rfl
    | inr o =>
      simp only [zap, id]
      rw [term_er en]
      cases term en o.2 with
      | inl p => rfl
      | inr b =>
        simp only [zap, id]
        by_cases h : Tr.between o.1 5 7 = true
        · rw [if_pos h, if_pos h]; exact calcLit_er at_ o.1 a.1 b.1 en b.2
        · rw [if_neg h, if_neg h]; rfl
theorem lit_er (en : Int) (r : List Tk.Tok) : lit 0 (r.map er) = zap erL (lit en r) := by
  unfold lit
  rw [isText_er en, hd_at, hd_kind en, tail_er]
  by_cases h : isText en r [110, 111, 116] = true
  · rw [if_pos h, if_pos h]; exact atom_er 2 _ en _
  · rw [if_neg h, if_neg h]
    by_cases h2 : ((hd en r).kind == 1) = true
    · rw [if_pos h2, if_pos h2]; exact atom_er 1 _ en _
    · rw [if_neg h2, if_neg h2]; exact reckon_er _ en _
theorem lits_er (en : Int) : ∀ (f : Nat) (acc : List Tr.Lit) (r : List Tk.Tok), lits 0 f (acc.map erL) (r.map er) = zap (List.map erL) (lits en f acc r)
  | 0, _, _ => rfl
  | f + 1, acc, r => by
    unfold lits
    rw [lit_er en]
    cases lit en r with
    | inl a => rfl
    | inr x =>
      simp only [zap]
      rw [isText_er en, tail_er, show acc.map erL ++ [erL x.1] = (acc ++ [x.1]).map erL by simp]
      by_cases h : isText en x.2 [44] = true
      · rw [if_pos h, if_pos h]; exact lits_er en f _ _
      · rw [if_neg h, if_neg h]
theorem tailOf_er (at_ : Int) (nm : List UInt8) (l : List Tr.Term) (fo en : Int) (r : List Tk.Tok) : tailOf 0 nm l fo 0 (r.map er) = zap erR (tailOf at_ nm l fo en r) := by
  unfold tailOf
  rw [must_er [58, 45] en]
  cases must [58, 45] en r with
  | inl p => rfl
  | inr x =>
    simp only
    rw [List.length_map, show ([] : List Tr.Lit) = ([] : List Tr.Lit).map erL from rfl, lits_er en]
    simp only [List.map_nil]
    cases lits en (x.length + 1) [] x with
    | inl p => rfl
    | inr b =>
      simp only [zap]
      rw [must_er [46] en]
      cases must [46] en b.2 <;> rfl
theorem rule_er (en : Int) (r : List Tk.Tok) : rule 0 (r.map er) = zap erR (rule en r) := by
  unfold rule
  rw [name_er en, hd_at]
  cases name en r with
  | inl p => rfl
  | inr x =>
    simp only [zap, id]
    rw [terms_er true en]
    cases terms true en x.2 with
    | inl p => rfl
    | inr y =>
      simp only [zap, id]
      rw [isText_er en, tail_er]
      by_cases h : ((y.1.2 == 0) && isText en y.2 [46]) = true
      · rw [if_pos h, if_pos h]; rfl
      · rw [if_neg h, if_neg h]; exact tailOf_er _ _ _ _ en _
theorem rules_er (en : Int) : ∀ (f : Nat) (acc : List Tr.Rule) (r : List Tk.Tok), rules 0 f (acc.map erR) (r.map er) = match rules en f acc r with | .inl _ => .inl 0 | .inr t => .inr (t.map erR)
  | 0, _, _ => rfl
  | f + 1, acc, r => by
    cases r with
    | nil => rfl
    | cons t r =>
      have h := rule_er en (t :: r)
      rw [List.map_cons] at h ⊢
      unfold rules
      simp only
      rw [h]
      cases rule en (t :: r) with
      | inl a => rfl
      | inr x =>
        simp only [zap]
        rw [show acc.map erR ++ [erR x.1] = (acc ++ [x.1]).map erR by simp]
        exact rules_er en f _ _
end Pr
end Go.Proofs.YtclbbiocagkmcaaGreatDoor

/- Tokens alone say what is parsed: joined they are parsed alike, but for where all begins. -/
namespace Go.Proofs.YtclbbiocagkmcaaGreatDoor
open Pr

theorem litOk_er (x : Tr.Lit) : Tr.litOk (erL x) = Tr.litOk x := rfl
theorem litsOk_er (l : List Tr.Lit) : Tr.litsOk (l.map erL) = Tr.litsOk l := by
  unfold Tr.litsOk; rw [List.all_map]; rfl
theorem litsMany_er (l : List Tr.Lit) : Tr.litsMany (l.map erL) = Tr.litsMany l := by
  unfold Tr.litsMany; rw [List.any_map]; rfl
theorem ruleOk_er (r : Tr.Rule) : Tr.ruleOk (erR r) = Tr.ruleOk r := by
  unfold Tr.ruleOk
  show (Tr.isName r.name && Tr.termsOk r.terms && Tr.foldOk r.fold r.terms.length (r.body.map erL).length && Tr.litsOk (r.body.map erL)) = _
  rw [litsOk_er, List.length_map]
theorem ruleMany_er (r : Tr.Rule) : Tr.ruleMany (erR r) = Tr.ruleMany r := by
  unfold Tr.ruleMany
  show (decide (4 < (r.body.map erL).length) || decide (3 < r.terms.length) || Tr.litsMany (r.body.map erL)) = _
  rw [litsMany_er, List.length_map]
theorem check_er (t : List Tr.Rule) : Tr.check (t.map erR) = Tr.check t := by
  have h1 : (t.map erR).any Tr.ruleMany = t.any Tr.ruleMany := by rw [List.any_map]; congr 1; funext r; exact ruleMany_er r
  have h2 : (t.map erR).all Tr.ruleOk = t.all Tr.ruleOk := by rw [List.all_map]; congr 1; funext r; exact ruleOk_er r
  unfold Tr.check Tr.many
  rw [h1, h2, List.length_map]

theorem termsEq_refl (l : List Tr.Term) : Tr.termsEq l l = true := by
  unfold Tr.termsEq
  induction l with
  | nil => rfl
  | cons a l ih => rw [Tr.listEq, ih]; simp [Tr.termEq]
theorem litEq_er {x y : Tr.Lit} (h : erL x = erL y) : Tr.litEq false x y = true := by
  unfold erL at h
  injection h with h1 _ h2 h3 h4
  unfold Tr.litEq
  rw [h1, h2, h3, h4, termsEq_refl]
  simp
theorem litsEq_er : ∀ {l m : List Tr.Lit}, l.map erL = m.map erL → Tr.listEq (Tr.litEq false) l m = true
  | [], [], _ => rfl
  | [], _ :: _, h => by simp at h
  | _ :: _, [], h => by simp at h
  | x :: l, y :: m, h => by
    rw [List.map_cons, List.map_cons] at h
    injection h with h1 h2
    rw [Tr.listEq, litEq_er h1, litsEq_er h2]; rfl
theorem ruleEq_er {x y : Tr.Rule} (h : erR x = erR y) : Tr.ruleEq false x y = true := by
  unfold erR at h
  injection h with _ h1 h2 h3 h4
  have hl : x.body.length = y.body.length := by have := congrArg List.length h4; simpa using this
  unfold Tr.ruleEq Tr.headEq
  rw [h1, h2, h3, hl, termsEq_refl, litsEq_er h4]
  simp
theorem treeEq_er : ∀ {l m : List Tr.Rule}, l.map erR = m.map erR → Tr.treeEq false l m = true
  | [], [], _ => rfl
  | [], _ :: _, h => by simp at h
  | _ :: _, [], h => by simp at h
  | x :: l, y :: m, h => by
    rw [List.map_cons, List.map_cons] at h
    injection h with h1 h2
    unfold Tr.treeEq
    rw [Tr.listEq, ruleEq_er h1]
    exact treeEq_er h2

theorem same_er : ∀ {l m : List Tk.Tok}, Tk.same false l m = true → l.map er = m.map er
  | [], [], _ => rfl
  | [], _ :: _, h => by simp [Tk.same] at h
  | _ :: _, [], h => by simp [Tk.same] at h
  | x :: l, y :: m, h => by
    rw [Tk.same, Bool.and_eq_true] at h
    have h1 := h.1
    unfold Tk.sameOne at h1
    simp at h1
    rw [List.map_cons, List.map_cons, same_er h.2]
    unfold er
    rw [h1.1, h1.2]

/-- What comes of tokens with the same kinds and texts. -/
theorem parseOf_alike (n n' : Int) (T T' : List Tk.Tok) (p p' : Nat) (h : T.map er = T'.map er) :
    (parseOf n (T, p, 0)).2.2 = (parseOf n' (T', p', 0)).2.2 ∧ Tr.treeEq false (parseOf n (T, p, 0)).1 (parseOf n' (T', p', 0)).1 = true := by
  have hl : T.length = T'.length := by have := congrArg List.length h; simpa using this
  have h1 := rules_er n T.length [] T
  have h2 := rules_er n' T'.length [] T'
  rw [List.map_nil] at h1 h2
  rw [h, hl] at h1
  rw [h1] at h2
  unfold parseOf
  simp only [if_true]
  rw [hl]
  cases hA : rules n T'.length [] T with
  | inl a =>
    cases hB : rules n' T'.length [] T' with
    | inl b => exact ⟨rfl, rfl⟩
    | inr b => rw [hA, hB] at h2; simp at h2
  | inr a =>
    cases hB : rules n' T'.length [] T' with
    | inl b => rw [hA, hB] at h2; simp at h2
    | inr b =>
      rw [hA, hB] at h2
      simp only [Sum.inr.injEq] at h2
      have hc : Tr.check a = Tr.check b := by rw [← check_er a, h2, check_er b]
      simp only
      rw [hc]
      by_cases h0 : Tr.check b = 0
      · rw [if_pos h0, if_pos h0]; exact ⟨rfl, treeEq_er h2⟩
      · rw [if_neg h0, if_neg h0]; exact ⟨rfl, rfl⟩

theorem fine_of_check {t : List Tr.Rule} (h : Tr.check t = 0) : Fine t := by
  have hm : Tr.many t = false := by
    cases hm : Tr.many t
    · rfl
    · unfold Tr.check at h; rw [hm] at h; simp at h
  unfold Tr.many at hm
  rw [Bool.or_eq_false_iff] at hm
  have h12 := of_decide_eq_false hm.1
  refine ⟨by omega, fun i hi => ?_⟩
  have hr : Tr.ruleMany (Tr.ruleD t i) = false := by
    have := hm.2
    rw [List.any_eq_false] at this
    have hh := this (Tr.ruleD t i) (by unfold Tr.ruleD; rw [List.getD_eq_getElem?_getD, List.getElem?_eq_getElem hi]; exact List.getElem_mem hi)
    simpa using hh
  obtain ⟨g1, g2, g3⟩ := ruleMany_no hr
  exact ⟨by omega, by omega, fun i hi => Nat.le_trans (g3 i hi) (by decide)⟩
theorem fine_nil : Fine [] := ⟨by simp, fun i hi => absurd hi (by simp)⟩
theorem fine_parse (s : ByteArray) : Fine (Pr.parse s.data.toList).1 := by
  rw [parse_eq]
  unfold parseOf
  split
  · split
    · exact fine_nil
    · split
      · exact fine_of_check (by assumption)
      · exact fine_nil
  · exact fine_nil

theorem parse_checked (L : List UInt8) (h : (Pr.parse L).2.2 = 0) : Tr.check (Pr.parse L).1 = 0 := by
  revert h
  unfold Pr.parse
  split
  · split
    · intro h; simp at h
    · split
      · intro _; assumption
      · rename_i hc
        intro h; exact absurd h hc
  · rename_i hc
    intro h; exact absurd h hc
theorem parse_wrong (L : List UInt8) (h : ¬ (Tk.scan L).2.2 = 0) : Pr.parse L = ([], ((Tk.scan L).2.1 : Int), (Tk.scan L).2.2) := by
  unfold Pr.parse
  rw [if_neg h]

/-- Joined tokens are parsed alike. -/
theorem parse_join (s : ByteArray) (h : (Tk.scan s.data.toList).2.2 = 0) (hj : (Tk.join (Tk.scan s.data.toList).1).2 = 0) :
    (Pr.parse s.data.toList).2.2 = (Pr.parse (Tk.join (Tk.scan s.data.toList).1).1).2.2 ∧ Tr.treeEq false (Pr.parse s.data.toList).1 (Pr.parse (Tk.join (Tk.scan s.data.toList).1).1).1 = true := by
  obtain ⟨h1, h2⟩ := join_scan _ hj
  have e1 := parse_eq s
  have e2 := parse_eq ⟨(Tk.join (Tk.scan s.data.toList).1).1.toArray⟩
  rw [show (⟨(Tk.join (Tk.scan s.data.toList).1).1.toArray⟩ : ByteArray).data.toList = (Tk.join (Tk.scan s.data.toList).1).1 from rfl] at e2
  rw [e1, e2]
  rcases hS : Tk.scan s.data.toList with ⟨T, p, E⟩
  rw [hS] at h h1 h2
  rcases hS2 : Tk.scan (Tk.join T).1 with ⟨T', p', E'⟩
  simp only at h h1 h2 ⊢
  rw [hS2] at h1 h2
  simp only at h1 h2
  subst h
  subst h1
  exact parseOf_alike _ _ T T' p p' (same_er h2)

end Go.Proofs.YtclbbiocagkmcaaGreatDoor

/- What must be in any case: the statements' own small text. -/
namespace Go.Proofs.YtclbbiocagkmcaaGreatDoor
open Go.RowKit

def smallL : List UInt8 := [113, 40, 49, 44, 32, 50, 41, 46, 10, 112, 40, 88, 44, 32, 99, 111, 117, 110, 116, 32, 89, 41, 32, 58, 45, 32, 113, 40, 88, 44, 32, 89, 41, 44, 32, 110, 111, 116, 32, 114, 40, 89, 41, 44, 32, 88, 32, 60, 32, 89, 46, 10]
def smallB : ByteArray := ⟨#[113, 40, 49, 44, 32, 50, 41, 46, 10, 112, 40, 88, 44, 32, 99, 111, 117, 110, 116, 32, 89, 41, 32, 58, 45, 32, 113, 40, 88, 44, 32, 89, 41, 44, 32, 110, 111, 116, 32, 114, 40, 89, 41, 44, 32, 88, 32, 60, 32, 89, 46, 10]⟩
def smallT : List Tr.Rule := (Pr.parse smallL).1
set_option maxRecDepth 100000 in
theorem small_ok : (Pr.parse smallL).2 = (0, 0) := by kernel_rfl
theorem small_parse : Pr.parse smallL = (smallT, 0, 0) := by unfold smallT; rw [← small_ok]
theorem small_len : smallT.length = 2 := by kernel_rfl
theorem small_fold : (Tr.ruleD smallT 1).fold = 1 := by kernel_rfl
theorem small_body : (Tr.ruleD smallT 1).body.length = 3 := by kernel_rfl
theorem small_kind : (Tr.litD (Tr.ruleD smallT 1).body 1).kind = 2 := by kernel_rfl
theorem small_check : Tr.check smallT = 0 := by kernel_rfl

set_option maxRecDepth 100000 in
set_option maxHeartbeats 1000000 in
theorem treeBegun_any (w : World) : Calls Tryz.prog 12 #[] w fun e w' => e = .returned (.bool true) ∧ Below w.heap.size w w' := by
  have HP : Hid (∀ w, Calls Tryz.prog 13 #[.string smallB] w fun e w' => ∃ ao cap, e = .returned (.tuple #[.agg #[.slice ao 2 cap], .int .i64 0, .int .i64 0]) ∧ RulesV w' (.slice ao 2 cap) smallT ∧ Below w.heap.size w w') := by
    intro w
    have h := Parse_any smallB w
    rw [show smallB.data.toList = smallL from rfl, small_parse] at h
    refine h.mono ?_
    rintro e w' ⟨ao, cap, he, hR, hb⟩
    simp only [small_len] at he hR
    exact ⟨ao, cap, he, hR.toV, hb⟩
  have HC : Hid (∀ w ao cap, RulesV w (.slice ao 2 cap) smallT → Calls Tryz.prog 14 #[.agg #[.slice ao 2 cap]] w fun e w' => e = .returned (.int .i64 0) ∧ Below w.heap.size w w') := by
    intro w ao cap h
    have := Check_any smallT _ w h
    rw [small_check] at this
    exact this
  unfold smallB at HP
  go_enter Tryz.func12, Tryz.ntmps12
  go_wp2_with fail
  refine Calls.mono (HP.out _) ?_
  rintro e w1 ⟨ao, cap, rfl, hR, hb⟩
  have hR1 := rulesV_below hR ((Below.refl _ _).alloc (Nat.le_refl _) (.cells #[.slice ao 2 cap] 24))
  obtain ⟨aor, capr, hv, hRA⟩ := hR
  rcases hRA with h | ⟨b, off, hao, hc⟩
  · exact absurd (congrArg List.length h) (by rw [small_len]; decide)
  obtain ⟨r0, r1, r2, r3, lv, r4, hL⟩ := hc 1 (by rw [small_len]; decide)
  rw [small_fold] at r3
  obtain ⟨aol, capl, rfl, hLA⟩ := hL
  rw [small_body] at r4
  rcases hLA with h | ⟨b2, off2, rfl, hc2⟩
  · exact absurd (congrArg List.length h) (by rw [small_body]; decide)
  have l0 := (hc2 1 (by rw [small_body]; decide)).1
  rw [small_kind] at l0
  rw [small_len] at hv
  injection hv with e1 e2 e3
  subst e1
  subst e3
  subst hao
  clear hc hc2 r0 r1 r2 HP
  have hb1 : b < w1.heap.size := World.block_lt_of_cell? w1 _ r3
  have hb2 : b2 < w1.heap.size := World.block_lt_of_cell? w1 _ l0
  go_wp2_with fail
  refine Calls.mono (HC.out _ _ _ hR1) ?_
  rintro e w2 ⟨rfl, hb3⟩
  have hbel := (hb.alloc hb.size (.cells #[.slice (some ⟨b, off, none⟩) 2 cap] 24)).trans (hb3.mono (by simp; exact Nat.le_succ_of_le hb.size))
  clear HC hR1 r3 r4 l0 hb hb3
  go_wp2_with fail
  go_ret
  exact ⟨rfl, hbel⟩

end Go.Proofs.YtclbbiocagkmcaaGreatDoor

/- What must be in any case, of package show. -/
namespace Go.Proofs.YtclbbiocagkmcaaGreatDoor
open Go.RowKit

namespace Tr
theorem listEq_refl {α : Type} {p : α → α → Bool} (h : ∀ x, p x x = true) : ∀ l : List α, listEq p l l = true
  | [] => rfl
  | x :: r => by unfold listEq; rw [h x, listEq_refl h r]; rfl
theorem termsEq_refl (l : List Term) : termsEq l l = true := listEq_refl (fun x => by simp [termEq]) l
theorem treeEq_refl (q : Bool) (l : List Rule) : treeEq q l l = true :=
  listEq_refl (fun x => by simp [ruleEq, headEq, termsEq_refl, listEq_refl (p := litEq q) (fun y => by simp [litEq, termsEq_refl]) x.body]) l
end Tr

def smallX : List Tr.Rule := [⟨0, [113], [⟨[], 1⟩, ⟨[], 2⟩], 0, []⟩, ⟨9, [112], [⟨[88], 0⟩, ⟨[89], 0⟩], 1, [⟨1, 26, 0, [113], [⟨[88], 0⟩, ⟨[89], 0⟩]⟩, ⟨2, 35, 0, [114], [⟨[89], 0⟩]⟩, ⟨3, 45, 1, [], [⟨[88], 0⟩, ⟨[89], 0⟩]⟩]⟩]
theorem small_eq : smallT = smallX := by kernel_rfl
theorem itoa_one : Lib.itoa 1 = [49] := by unfold Lib.itoa; rw [if_neg (by decide), Lib.decDigits, dif_pos (by decide)]; rfl
theorem itoa_two : Lib.itoa 2 = [50] := by unfold Lib.itoa; rw [if_neg (by decide), Lib.decDigits, dif_pos (by decide)]; rfl
theorem small_shown : Sh.shown smallT = smallL := by
  unfold Sh.shown
  rw [small_check, if_pos rfl, small_len, small_eq]
  simp [Sh.rules, Sh.rule, Sh.atom, Sh.terms, Sh.ahead, Sh.sep, Sh.fold, Sh.term, Sh.tail, Sh.lits, Sh.lit, Sh.reck, Sh.third, Sh.sign, Tr.ruleD, Tr.termD, Tr.litD, smallX, smallL, itoa_one, itoa_two]
theorem small_fine : Fine smallT := fine_parse smallB
theorem small_not : Tr.treeEq false smallT [] = false := by kernel_rfl

set_option maxRecDepth 100000 in
set_option maxHeartbeats 1000000 in
theorem showBegun_any (w : World) (hp : Pow w) : Calls Tryz.prog 9 #[] w fun e w' => e = .returned (.bool true) ∧ Below w.heap.size w w' := by
  have HP : Hid (∀ w, Calls Tryz.prog 22 #[.string smallB] w fun e w' => ∃ ao cap, e = .returned (.tuple #[.agg #[.slice ao 2 cap], .int .i64 0, .int .i64 0]) ∧ RulesV w' (.slice ao 2 cap) smallT ∧ Below w.heap.size w w') := by
    intro w
    have h := ParseOf_any smallB w
    rw [show smallB.data.toList = smallL from rfl, small_parse] at h
    refine h.mono ?_
    rintro e w' ⟨ao, cap, he, hR, hb⟩
    simp only [small_len] at he hR
    exact ⟨ao, cap, he, hR.toV, hb⟩
  have HS : Hid (∀ w ao cap, RulesV w (.slice ao 2 cap) smallT → Pow w → Calls Tryz.prog 6 #[.agg #[.slice ao 2 cap]] w fun e w' => e = .returned (.tuple #[strV smallL, .int .i64 0]) ∧ Below w.heap.size w w') := by
    intro w ao cap h hp
    have := Show_any smallT _ w h hp
    rw [small_check, small_shown] at this
    exact this
  have HM : Hid (∀ w ao cap, RulesV w (.slice ao 2 cap) smallT → Calls Tryz.prog 10 #[.agg #[.slice ao 2 cap], .agg #[.slice ao 2 cap]] w fun e w' => e = .returned (.bool true) ∧ Below w.heap.size w w') := by
    intro w ao cap h
    have := Same_any smallT smallT w _ _ h h small_fine
    rw [Tr.treeEq_refl] at this
    exact this
  have HN : Hid (∀ w ao cap, RulesV w (.slice ao 2 cap) smallT → Calls Tryz.prog 10 #[.agg #[.slice ao 2 cap], .agg #[.slice none 0 0]] w fun e w' => e = .returned (.bool false) ∧ Below w.heap.size w w') := by
    intro w ao cap h
    have := Same_any smallT [] w _ (.slice none 0 0) h ⟨none, 0, rfl, .inl rfl⟩ small_fine
    rw [small_not] at this
    exact this
  unfold smallB at HP
  unfold smallL at HS
  go_enter Tryz.func9, Tryz.ntmps9
  go_wp2_with fail
  refine Calls.mono (HP.out _) ?_
  rintro e w1 ⟨ao, cap, rfl, hR, hb⟩
  have hb1 : Below w1.heap.size w1 (w1.alloc (.cells #[.slice ao 2 cap] 24)) := (Below.refl _ _).alloc (Nat.le_refl _) _
  have hR1 := rulesV_below hR hb1
  have htr1 := heap_alloc_new w1 (.cells #[.slice ao 2 cap] 24)
  have hbel1 := hb.trans (hb1.mono hb.size)
  go_upto_region 2 with fail
  generalize w1.alloc (.cells #[.slice ao 2 cap] 24) = w2 at *
  generalize w1.heap.size = X at *
  obtain ⟨c0, _⟩ := tree_cell htr1
  clear HP hb hb1 hR
  go_wp2_with fail
  refine Calls.mono (HS.out _ _ _ hR1 (hp.below hbel1)) ?_
  rintro e w3 ⟨rfl, hb3⟩
  have htr3 := (hb3.block _ (heap_lt htr1)).trans htr1
  have hR3 := rulesV_below hR1 hb3
  have hbel3 := hbel1.trans (hb3.mono hbel1.size)
  clear c0 hR1 htr1 hbel1 hb3 HS
  obtain ⟨c0, _⟩ := tree_cell htr3
  go_wp2_with fail
  refine Calls.mono (HM.out _ _ _ hR3) ?_
  rintro e w4 ⟨rfl, hb4⟩
  have htr4 := (hb4.block _ (heap_lt htr3)).trans htr3
  have hR4 := rulesV_below hR3 hb4
  have hbel4 := hbel3.trans (hb4.mono hbel3.size)
  clear c0 hR3 htr3 hbel3 hb4 HM
  obtain ⟨c0, _⟩ := tree_cell htr4
  go_wp2_with fail
  refine Calls.mono (HN.out _ _ _ hR4) ?_
  rintro e w5 ⟨rfl, hb5⟩
  have hbel5 := hbel4.trans (hb5.mono hbel4.size)
  go_wp2_with fail
  go_ret
  exact ⟨rfl, hbel5⟩

end Go.Proofs.YtclbbiocagkmcaaGreatDoor

/- What is shown, as tokens; the parser's steps over them. -/
namespace Go.Proofs.YtclbbiocagkmcaaGreatDoor
namespace Sh

/-! ### Digits and their number -/
theorem decFrom_append : ∀ (l m : List UInt8) (acc n : Nat), Lib.decFrom acc l = some n → Lib.decFrom acc (l ++ m) = Lib.decFrom n m
  | [], m, acc, n, h => by
    simp only [Lib.decFrom, Option.some.injEq] at h
    subst h
    rfl
  | b :: r, m, acc, n, h => by
    simp only [List.cons_append, Lib.decFrom] at h ⊢
    cases hd : Lib.digitVal b with
    | none => rw [hd] at h; cases h
    | some d => rw [hd] at h; exact decFrom_append r m _ n h
theorem byte_nat {d : Nat} (h : d < 10) : (UInt8.ofNat (48 + d)).toNat = 48 + d := by simp; omega
theorem digitVal_nat {d : Nat} (h : d < 10) : Lib.digitVal (UInt8.ofNat (48 + d)) = some d := by
  unfold Lib.digitVal
  rw [byte_nat h, if_pos (by omega)]
  congr 1
  omega
theorem decFrom_digits (u : Nat) : Lib.decFrom 0 (Lib.decDigits u) = some u := by
  induction u using Nat.strongRecOn with
  | _ u ih =>
    by_cases h : u < 10
    · rw [Lib.decDigits_one h]
      simp only [Lib.decFrom, digitVal_nat h]
      congr 1
      omega
    · rw [Lib.decDigits, dif_neg h, decFrom_append _ _ _ _ (ih (u / 10) (by omega))]
      simp only [Lib.decFrom, digitVal_nat (Nat.mod_lt u (by decide : 10 > 0))]
      congr 1
      omega
theorem digits_digit (u : Nat) : ∀ b ∈ Lib.decDigits u, Tk.digit (b.toNat : Int) = true := by
  induction u using Nat.strongRecOn with
  | _ u ih =>
    intro b hb
    by_cases h : u < 10
    · rw [Lib.decDigits_one h, List.mem_singleton] at hb
      subst hb
      rw [byte_nat h]
      unfold Tk.digit
      simp only [Bool.and_eq_true, decide_eq_true_eq]
      omega
    · rw [Lib.decDigits, dif_neg h, List.mem_append] at hb
      rcases hb with hb | hb
      · exact ih (u / 10) (by omega) b hb
      · rw [List.mem_singleton] at hb
        subst hb
        rw [byte_nat (Nat.mod_lt u (by decide))]
        have := Nat.mod_lt u (by decide : 10 > 0)
        unfold Tk.digit
        simp only [Bool.and_eq_true, decide_eq_true_eq]
        omega
theorem digits_ne (u : Nat) : ∃ c l, Lib.decDigits u = c :: l := by
  have h := decFrom_digits u
  cases hd : Lib.decDigits u with
  | nil =>
    exfalso
    have := Lib.decDigits_length u
    rw [hd, Lib.nDigits] at this
    split at this <;> simp at this
  | cons c l => exact ⟨c, l, rfl⟩
theorem num_digits (u : Nat) : Pr.num (Lib.decDigits u) = (u : Int) := by
  obtain ⟨c, l, hc⟩ := digits_ne u
  have hd := digits_digit u
  have hf := decFrom_digits u
  rw [hc] at hd hf ⊢
  obtain ⟨n, h1, h2⟩ := Tk.atoi_digits hd
  rw [hf] at h1
  unfold Pr.num
  rw [h2]
  injection h1 with h1
  subst h1
  rfl

/-! ### Tokens of a tree -/
abbrev sg (s : List UInt8) : Tk.Tok := ⟨4, 0, s⟩
def termK (t : Tr.Term) : List Tk.Tok :=
  if t.var.isEmpty then (if t.n < 0 then [sg [45], ⟨3, 0, Lib.decDigits t.n.natAbs⟩] else [⟨3, 0, Lib.decDigits t.n.toNat⟩]) else [⟨2, 0, t.var⟩]
def foldK (f : Int) : List Tk.Tok :=
  if f = 1 then [⟨1, 0, [99, 111, 117, 110, 116]⟩] else if f = 2 then [⟨1, 0, [115, 117, 109]⟩] else if f = 3 then [⟨1, 0, [108, 101, 97, 115, 116]⟩] else if f = 4 then [⟨1, 0, [109, 111, 115, 116]⟩] else []
def termsK (fa : List Tk.Tok) : List Tr.Term → List Tk.Tok
  | [] => []
  | [t] => fa ++ termK t
  | t :: u :: l => termK t ++ sg [44] :: termsK fa (u :: l)
def atomK (nm : List UInt8) (l : List Tr.Term) (f : Int) : List Tk.Tok := ⟨1, 0, nm⟩ :: sg [40] :: (termsK (foldK f) l ++ [sg [41]])

/-! ### The parser over them -/
theorem term_back (t : Tr.Term) (h : Tr.termOk t = true) (en : Int) (r : List Tk.Tok) : Pr.term en (termK t ++ r) = .inr (t, r) := by
  obtain ⟨var, n⟩ := t
  unfold Tr.termOk at h
  unfold termK
  cases var with
  | nil =>
    by_cases hn : n < 0
    · have h1 : (Lib.decDigits n.natAbs == [48]) = false := by
        rw [beq_eq_false_iff_ne]
        intro he
        have := decFrom_digits n.natAbs
        rw [he] at this
        have h0 : Lib.decFrom 0 [48] = some 0 := by decide
        rw [h0] at this
        injection this with this
        omega
      have h2 : -((n.natAbs : Int)) = n := by omega
      simp [Pr.term, Pr.hd, Pr.must, Pr.neg, Pr.number, hn, h1, num_digits, h2]
    · have h2 : (n.toNat : Int) = n := by omega
      simp only [Pr.term, Pr.hd, hn, if_false, List.isEmpty_nil, if_true, List.cons_append, List.nil_append, List.tail_cons, num_digits, h2]
      simp
  | cons c l =>
    simp only [List.isEmpty_cons, Bool.false_eq_true, if_false, Bool.and_eq_true, beq_iff_eq] at h
    obtain ⟨h0, _⟩ := h
    subst h0
    simp [Pr.term, Pr.hd]

theorem foldOf_hd {c : UInt8} (l : List UInt8) (h : c ≠ 99 ∧ c ≠ 115 ∧ c ≠ 108 ∧ c ≠ 109) : Tr.foldOf (c :: l) = 0 := by
  obtain ⟨h1, h2, h3, h4⟩ := h
  simp [Tr.foldOf, h1, h2, h3, h4]
theorem great_ne {c : UInt8} (h : Tk.great (c.toNat : Int) = true ∨ Tk.digit (c.toNat : Int) = true) : c ≠ 99 ∧ c ≠ 115 ∧ c ≠ 108 ∧ c ≠ 109 := by
  unfold Tk.great Tk.digit at h
  simp only [Bool.and_eq_true, decide_eq_true_eq] at h
  refine ⟨?_, ?_, ?_, ?_⟩ <;> (rintro rfl; revert h; decide)
theorem var_great {c : UInt8} {l : List UInt8} (h : Tk.isTok 2 (c :: l) = true) : Tk.great (c.toNat : Int) = true := by
  unfold Tk.isTok at h
  have h1 := (of_decide_eq_true h).2.2.2.1
  unfold Tk.kindOf at h1
  simp only at h1
  split at h1
  · cases h1
  · split at h1
    · assumption
    · split at h1 <;> cases h1
theorem fold_none (t : Tr.Term) (h : Tr.termOk t = true) (en : Int) (r : List Tk.Tok) : Tr.foldOf (Pr.hd en (termK t ++ r)).text = 0 := by
  obtain ⟨var, n⟩ := t
  unfold Tr.termOk at h
  unfold termK
  cases var with
  | nil =>
    by_cases hn : n < 0
    · simp [Pr.hd, hn, Tr.foldOf]
    · obtain ⟨c, l, hc⟩ := digits_ne n.toNat
      have hd := digits_digit n.toNat c (by rw [hc]; simp)
      simp only [hn, if_false, List.isEmpty_nil, if_true, List.cons_append, Pr.hd, hc]
      exact foldOf_hd l (great_ne (.inr hd))
  | cons c l =>
    simp only [List.isEmpty_cons, Bool.false_eq_true, if_false, Bool.and_eq_true, beq_iff_eq] at h
    exact foldOf_hd l (great_ne (.inl (var_great h.2)))

/-- A fold that may stand here. -/
def foldFit (may : Bool) (f : Int) : Prop := f = 0 ∨ (may = true ∧ (f = 1 ∨ f = 2 ∨ f = 3 ∨ f = 4))
theorem foldMay_back (may : Bool) (f : Int) (hf : foldFit may f) (t : Tr.Term) (h : Tr.termOk t = true) (en : Int) (r : List Tk.Tok) :
    Pr.foldMay may en (foldK f ++ (termK t ++ r)) = (f, termK t ++ r) := by
  rcases hf with rfl | ⟨rfl, rfl | rfl | rfl | rfl⟩
  · have e0 : foldK 0 = [] := rfl
    rw [e0, List.nil_append]
    unfold Pr.foldMay
    split
    · unfold Pr.foldAt
      rw [fold_none t h en r]
      rfl
    · rfl
  all_goals rfl

theorem more_back (may : Bool) (f : Int) (hf : foldFit may f) (en : Int) (r : List Tk.Tok) (hr : Pr.isText en r [44] = false) :
    ∀ (l : List Tr.Term) (fuel : Nat) (acc : List Tr.Term), l ≠ [] → Tr.termsOk l = true → l.length ≤ fuel → Pr.more may en fuel acc (termsK (foldK f) l ++ r) = .inr ((acc ++ l, f), r)
  | [], _, _, h, _, _ => absurd rfl h
  | [t], 0, _, _, _, h => by simp at h
  | [t], fuel + 1, acc, _, hok, _ => by
    have ht : Tr.termOk t = true := List.all_eq_true.1 hok t (by simp)
    rw [Pr.more, termsK, List.append_assoc, foldMay_back may f hf t ht en r]
    simp only [term_back t ht, hr, Bool.and_false, Bool.false_eq_true, if_false]
  | t :: u :: l, 0, _, _, _, h => by simp at h
  | t :: u :: l, fuel + 1, acc, _, hok, hl => by
    have ht : Tr.termOk t = true := List.all_eq_true.1 hok t (by simp)
    have hok' : Tr.termsOk (u :: l) = true := List.all_eq_true.2 fun x hx => List.all_eq_true.1 hok x (List.mem_cons_of_mem _ hx)
    have ih := more_back may f hf en r hr (u :: l) fuel (acc ++ [t]) (by simp) hok' (by simp at hl ⊢; omega)
    have h0 := foldMay_back may 0 (.inl rfl) t ht en (sg [44] :: termsK (foldK f) (u :: l) ++ r)
    have e0 : foldK 0 = [] := rfl
    rw [e0, List.nil_append] at h0
    rw [Pr.more, termsK, List.append_assoc, h0]
    simp only [term_back t ht, List.cons_append, Pr.isText, Pr.hd, List.tail_cons]
    simpa using ih

theorem termsK_len (fa : List Tk.Tok) : ∀ l : List Tr.Term, l.length ≤ (termsK fa l).length
  | [] => Nat.le_refl _
  | [t] => by
    simp only [termsK, List.length_append, List.length_cons, List.length_nil]
    have : 1 ≤ (termK t).length := by unfold termK; (repeat' split) <;> simp
    omega
  | t :: u :: l => by
    have := termsK_len fa (u :: l)
    simp only [termsK, List.length_append, List.length_cons] at this ⊢
    omega

theorem hd_close (fa : List Tk.Tok) (f : Int) (hfa : fa = foldK f) (l : List Tr.Term) (hne : l ≠ []) (hok : Tr.termsOk l = true) (en : Int) (r : List Tk.Tok) : Pr.isText en (termsK fa l ++ r) [41] = false := by
  have key : ∀ (t : Tr.Term) (s : List Tk.Tok), Tr.termOk t = true → Pr.isText en (termK t ++ s) [41] = false := by
    intro t s h
    obtain ⟨var, n⟩ := t
    unfold Tr.termOk at h
    unfold termK Pr.isText
    cases var with
    | nil =>
      by_cases hn : n < 0
      · simp [Pr.hd, hn]
      · obtain ⟨c, m, hc⟩ := digits_ne n.toNat
        have hd := digits_digit n.toNat c (by rw [hc]; simp)
        simp only [hn, if_false, List.isEmpty_nil, if_true, List.cons_append, Pr.hd, hc]
        rw [beq_eq_false_iff_ne]
        intro he
        injection he with he
        subst he
        revert hd; decide
    | cons c m =>
      simp only [List.isEmpty_cons, Bool.false_eq_true, if_false, Bool.and_eq_true, beq_iff_eq] at h
      have hg := var_great h.2
      show (c :: m == [41]) = false
      rw [beq_eq_false_iff_ne]
      intro he
      injection he with he
      subst he
      revert hg; decide
  subst hfa
  match l, hne, hok with
  | [t], _, hok =>
    have ht : Tr.termOk t = true := List.all_eq_true.1 hok t (by simp)
    rw [termsK, List.append_assoc]
    have hk := key t r ht
    unfold foldK
    (repeat' split) <;> first | exact hk | rfl
  | t :: u :: l, _, hok =>
    have ht : Tr.termOk t = true := List.all_eq_true.1 hok t (by simp)
    rw [termsK, List.append_assoc]
    exact key t _ ht

theorem terms_back (may : Bool) (f : Int) (hf : foldFit may f) (l : List Tr.Term) (hok : Tr.termsOk l = true) (h0 : l = [] → f = 0) (en : Int) (r : List Tk.Tok) :
    Pr.terms may en (sg [40] :: (termsK (foldK f) l ++ [sg [41]]) ++ r) = .inr ((l, f), r) := by
  have hm : Pr.must [40] en (sg [40] :: (termsK (foldK f) l ++ [sg [41]]) ++ r) = .inr (termsK (foldK f) l ++ (sg [41] :: r)) := by simp [Pr.must, Pr.hd]
  rw [Pr.terms, hm]
  simp only
  unfold Pr.inside
  by_cases hl : l = []
  · subst hl
    rw [h0 rfl]
    simp [termsK, Pr.isText, Pr.hd]
  · have hr : Pr.isText en (sg [41] :: r) [44] = false := by simp [Pr.isText, Pr.hd]
    have hlen := termsK_len (foldK f) l
    rw [hd_close _ f rfl l hl hok, more_back may f hf en (sg [41] :: r) hr l _ [] hl hok (by simp only [List.length_append]; omega)]
    simp [Pr.must, Pr.hd]

theorem atom_back (nm : List UInt8) (l : List Tr.Term) (hn : Tr.isName nm = true) (hok : Tr.termsOk l = true) (kind at_ en : Int) (r : List Tk.Tok) :
    Pr.atom kind at_ en (atomK nm l 0 ++ r) = .inr (⟨kind, at_, 0, nm, l⟩, r) := by
  unfold Tr.isName at hn
  simp only [Bool.and_eq_true] at hn
  have ht := terms_back false 0 (.inl rfl) l hok (fun _ => rfl) en r
  have hnm : Pr.name en (atomK nm l 0 ++ r) = .inr (nm, sg [40] :: (termsK (foldK 0) l ++ [sg [41]]) ++ r) := by
    simp [Pr.name, atomK, Pr.hd, hn.2]
  rw [Pr.atom, hnm]
  simp only
  rw [ht]
end Sh
end Go.Proofs.YtclbbiocagkmcaaGreatDoor

/- The parser over the tokens of what is shown: literals, rules, trees. -/
namespace Go.Proofs.YtclbbiocagkmcaaGreatDoor
namespace Sh

def thirdK (x : Tr.Lit) : List Tk.Tok := if x.kind = 4 then sg [61] :: termK (Tr.termD x.terms 2) else []
def reckK (x : Tr.Lit) : List Tk.Tok := termK (Tr.termD x.terms 0) ++ sg (sign x.op) :: (termK (Tr.termD x.terms 1) ++ thirdK x)
def litK (x : Tr.Lit) : List Tk.Tok := if x.kind = 1 then atomK x.name x.terms 0 else if x.kind = 2 then ⟨1, 0, [110, 111, 116]⟩ :: atomK x.name x.terms 0 else reckK x
def litsK : List Tr.Lit → List Tk.Tok
  | [] => []
  | [x] => litK x
  | x :: y :: l => litK x ++ sg [44] :: litsK (y :: l)
def tailK : List Tr.Lit → List Tk.Tok
  | [] => []
  | x :: l => sg [58, 45] :: litsK (x :: l)
def ruleK (r : Tr.Rule) : List Tk.Tok := atomK r.name r.terms r.fold ++ tailK r.body ++ [sg [46]]
def rulesK : List Tr.Rule → List Tk.Tok
  | [] => []
  | r :: l => ruleK r ++ rulesK l

theorem opOf_sign {o : Int} (h : 1 ≤ o ∧ o ≤ 7) : Pr.opOf (sign o) = o := by
  have : o = 1 ∨ o = 2 ∨ o = 3 ∨ o = 4 ∨ o = 5 ∨ o = 6 ∨ o = 7 := by omega
  rcases this with rfl | rfl | rfl | rfl | rfl | rfl | rfl <;> rfl
theorem op_back {o : Int} (h : 1 ≤ o ∧ o ≤ 7) (en : Int) (r : List Tk.Tok) : Pr.op en (sg (sign o) :: r) = .inr (o, r) := by
  have hne : (o != 0) = true := by rw [bne_iff_ne]; omega
  simp only [Pr.op, Pr.hd, opOf_sign h, hne, if_true, List.tail_cons]

theorem termK_hd (t : Tr.Term) (h : Tr.termOk t = true) (en : Int) (r : List Tk.Tok) :
    Pr.isText en (termK t ++ r) [110, 111, 116] = false ∧ ((Pr.hd en (termK t ++ r)).kind == 1) = false ∧ (Pr.hd en (termK t ++ r)).at_ = 0 := by
  obtain ⟨var, n⟩ := t
  unfold Tr.termOk at h
  unfold termK Pr.isText
  cases var with
  | nil =>
    by_cases hn : n < 0
    · simp [Pr.hd, hn]
    · obtain ⟨c, m, hc⟩ := digits_ne n.toNat
      have hd := digits_digit n.toNat c (by rw [hc]; simp)
      simp only [hn, if_false, List.isEmpty_nil, if_true, List.cons_append, Pr.hd, hc]
      refine ⟨?_, rfl, trivial⟩
      rw [beq_eq_false_iff_ne]
      intro he
      injection he with he
      subst he
      revert hd; decide
  | cons c m =>
    simp only [List.isEmpty_cons, Bool.false_eq_true, if_false, Bool.and_eq_true, beq_iff_eq] at h
    have hg := var_great h.2
    refine ⟨?_, rfl, rfl⟩
    show (c :: m == [110, 111, 116]) = false
    rw [beq_eq_false_iff_ne]
    intro he
    injection he with he
    subst he
    revert hg; decide

theorem termsD (l : List Tr.Term) (h : Tr.termsOk l = true) (i : Nat) (hi : i < l.length) : Tr.termOk (Tr.termD l i) = true := by
  refine List.all_eq_true.1 h _ ?_
  unfold Tr.termD
  rw [List.getD_eq_getElem?_getD, List.getElem?_eq_getElem hi]
  exact List.getElem_mem hi

theorem lit_back (x : Tr.Lit) (h : Tr.litOk x = true) (en : Int) (r : List Tk.Tok) : Pr.lit en (litK x ++ r) = .inr (Pr.erL x, r) := by
  obtain ⟨kind, at_, op, name, terms⟩ := x
  unfold Tr.litOk at h
  simp only [Bool.and_eq_true] at h
  obtain ⟨ht, h⟩ := h
  by_cases h1 : kind = 1
  · subst h1
    simp only [true_or, if_true, Bool.and_eq_true, beq_iff_eq] at h
    obtain ⟨rfl, hn⟩ := h
    have hw : Pr.isText en (atomK name terms 0 ++ r) [110, 111, 116] = false := by
      have := hn
      unfold Tr.isName at this
      simp only [Bool.and_eq_true, Bool.not_eq_true'] at this
      have h2 := this.2
      unfold Tr.isWord at h2
      simp only [Bool.or_eq_false_iff] at h2
      exact h2.1
    have e1 : litK ⟨1, at_, 0, name, terms⟩ = atomK name terms 0 := rfl
    rw [e1, Pr.lit, hw]
    simp only [Bool.false_eq_true, if_false]
    have hk : ((Pr.hd en (atomK name terms 0 ++ r)).kind == 1) = true := rfl
    rw [if_pos hk, atom_back name terms hn ht]
    rfl
  · by_cases h2 : kind = 2
    · subst h2
      simp only [or_true, if_true, Bool.and_eq_true, beq_iff_eq] at h
      obtain ⟨rfl, hn⟩ := h
      have e1 : litK ⟨2, at_, 0, name, terms⟩ ++ r = ⟨1, 0, [110, 111, 116]⟩ :: (atomK name terms 0 ++ r) := rfl
      have hk : Pr.isText en (⟨1, 0, [110, 111, 116]⟩ :: (atomK name terms 0 ++ r)) [110, 111, 116] = true := rfl
      rw [e1, Pr.lit, if_pos hk]
      simp only [List.tail_cons]
      rw [atom_back name terms hn ht]
      rfl
    · have e1 : litK ⟨kind, at_, op, name, terms⟩ = reckK ⟨kind, at_, op, name, terms⟩ := by unfold litK; rw [if_neg h1, if_neg h2]
      have key : ∀ o : Int, op = o → 1 ≤ o ∧ o ≤ 7 → 2 ≤ terms.length → ∀ s, Pr.lit en (termK (Tr.termD terms 0) ++ sg (sign op) :: (termK (Tr.termD terms 1) ++ s)) = (if Tr.between op 5 7 then Pr.calcLit 0 op (Tr.termD terms 0) (Tr.termD terms 1) en s else .inr (⟨3, 0, op, [], [Tr.termD terms 0, Tr.termD terms 1]⟩, s)) := by
        intro o ho hb hl s
        have t0 := termsD terms ht 0 (by omega)
        have t1 := termsD terms ht 1 (by omega)
        obtain ⟨k1, k2, k3⟩ := termK_hd _ t0 en (sg (sign op) :: (termK (Tr.termD terms 1) ++ s))
        rw [Pr.lit, k1, k2, k3]
        simp only [Bool.false_eq_true, if_false]
        rw [Pr.reckon, term_back _ t0]
        simp only
        rw [op_back (by omega)]
        simp only
        rw [term_back _ t1]
      rw [if_neg (by rintro (h | h); exact h1 h; exact h2 h)] at h
      by_cases h3 : kind = 3
      · subst h3
        simp only [if_true, Bool.and_eq_true, beq_iff_eq, List.isEmpty_iff, Tr.between, decide_eq_true_eq] at h
        obtain ⟨⟨hb, rfl⟩, hl⟩ := h
        match terms, hl with
        | [a, b], _ =>
          have e2 : reckK ⟨3, at_, op, [], [a, b]⟩ ++ r = termK (Tr.termD [a, b] 0) ++ sg (sign op) :: (termK (Tr.termD [a, b] 1) ++ r) := by simp [reckK, thirdK]
          rw [e1, e2, key op rfl (by omega) (by simp)]
          rw [if_neg (by simp only [Tr.between, Bool.and_eq_true, decide_eq_true_eq]; omega)]
          rfl
      · rw [if_neg h3] at h
        by_cases h4 : kind = 4
        · subst h4
          simp only [if_true, Bool.and_eq_true, beq_iff_eq, List.isEmpty_iff, Tr.between, decide_eq_true_eq] at h
          obtain ⟨⟨hb, rfl⟩, hl⟩ := h
          match terms, hl, ht, key with
          | [a, b, c], _, ht, key =>
            have t2 := termsD [a, b, c] ht 2 (by simp)
            have e2 : reckK ⟨4, at_, op, [], [a, b, c]⟩ ++ r = termK (Tr.termD [a, b, c] 0) ++ sg (sign op) :: (termK (Tr.termD [a, b, c] 1) ++ (sg [61] :: (termK (Tr.termD [a, b, c] 2) ++ r))) := by simp [reckK, thirdK]
            rw [e1, e2, key op rfl (by omega) (by simp)]
            rw [if_pos (by simp only [Tr.between, Bool.and_eq_true, decide_eq_true_eq]; omega)]
            have hm : Pr.must [61] en (sg [61] :: (termK (Tr.termD [a, b, c] 2) ++ r)) = .inr (termK (Tr.termD [a, b, c] 2) ++ r) := by simp [Pr.must, Pr.hd]
            rw [Pr.calcLit, hm]
            simp only
            rw [term_back _ t2]
            rfl
        · rw [if_neg h4] at h
          cases h

theorem litK_ne (x : Tr.Lit) : 1 ≤ (litK x).length := by
  unfold litK
  split
  · simp [atomK]
  · split
    · simp
    · unfold reckK
      simp only [List.length_append, List.length_cons]
      omega
theorem litsK_len : ∀ l : List Tr.Lit, l.length ≤ (litsK l).length
  | [] => Nat.le_refl _
  | [x] => litK_ne x
  | x :: y :: l => by
    have := litsK_len (y :: l)
    simp only [litsK, List.length_append, List.length_cons] at this ⊢
    omega

theorem lits_back (en : Int) (r : List Tk.Tok) (hr : Pr.isText en r [44] = false) :
    ∀ (l : List Tr.Lit) (fuel : Nat) (acc : List Tr.Lit), l ≠ [] → Tr.litsOk l = true → l.length ≤ fuel → Pr.lits en fuel acc (litsK l ++ r) = .inr (acc ++ l.map Pr.erL, r)
  | [], _, _, h, _, _ => absurd rfl h
  | [x], 0, _, _, _, h => by simp at h
  | [x], fuel + 1, acc, _, hok, _ => by
    have hx : Tr.litOk x = true := List.all_eq_true.1 hok x (by simp)
    rw [Pr.lits, litsK, lit_back x hx]
    simp only [hr, Bool.false_eq_true, if_false, List.map_cons, List.map_nil]
  | x :: y :: l, 0, _, _, _, h => by simp at h
  | x :: y :: l, fuel + 1, acc, _, hok, hl => by
    have hx : Tr.litOk x = true := List.all_eq_true.1 hok x (by simp)
    have hok' : Tr.litsOk (y :: l) = true := List.all_eq_true.2 fun z hz => List.all_eq_true.1 hok z (List.mem_cons_of_mem _ hz)
    have ih := lits_back en r hr (y :: l) fuel (acc ++ [Pr.erL x]) (by simp) hok' (by simp at hl ⊢; omega)
    rw [Pr.lits, litsK, List.append_assoc, lit_back x hx]
    simp only [List.cons_append, Pr.isText, Pr.hd, List.tail_cons]
    simpa using ih

theorem rule_back (r : Tr.Rule) (h : Tr.ruleOk r = true) (en : Int) (s : List Tk.Tok) : Pr.rule en (ruleK r ++ s) = .inr (Pr.erR r, s) := by
  obtain ⟨at_, name, terms, fold, body⟩ := r
  unfold Tr.ruleOk at h
  simp only [Bool.and_eq_true] at h
  obtain ⟨⟨⟨hn, ht⟩, hf⟩, hb⟩ := h
  unfold Tr.foldOk at hf
  simp only [Bool.or_eq_true, beq_iff_eq, Bool.and_eq_true, Tr.between, decide_eq_true_eq] at hf
  have hfit : foldFit true fold := by
    rcases hf with h | h
    · exact .inl h
    · exact .inr ⟨rfl, by omega⟩
  have h0 : terms = [] → fold = 0 := by
    rintro rfl
    rcases hf with h | h
    · exact h
    · simp at h
  have hname : Pr.name en (ruleK ⟨at_, name, terms, fold, body⟩ ++ s) = .inr (name, sg [40] :: (termsK (foldK fold) terms ++ [sg [41]]) ++ (tailK body ++ sg [46] :: s)) := by
    unfold Tr.isName at hn
    simp only [Bool.and_eq_true] at hn
    simp [Pr.name, ruleK, atomK, Pr.hd, hn.2]
  have hat : (Pr.hd en (ruleK ⟨at_, name, terms, fold, body⟩ ++ s)).at_ = 0 := rfl
  rw [Pr.rule, hname]
  simp only
  rw [terms_back true fold hfit terms ht h0]
  simp only
  rw [hat]
  cases body with
  | nil =>
    have hf0 : fold = 0 := by
      rcases hf with h | h
      · exact h
      · simp at h
    subst hf0
    rfl
  | cons x l =>
    have hno : Pr.isText en (tailK (x :: l) ++ sg [46] :: s) [46] = false := rfl
    rw [hno, Bool.and_false]
    simp only [Bool.false_eq_true, if_false]
    have hm : Pr.must [58, 45] en (tailK (x :: l) ++ sg [46] :: s) = .inr (litsK (x :: l) ++ sg [46] :: s) := by simp [Pr.must, Pr.hd, tailK]
    rw [Pr.tailOf, hm]
    simp only
    have hlen := litsK_len (x :: l)
    rw [lits_back en (sg [46] :: s) rfl (x :: l) _ [] (by simp) hb (by simp only [List.length_append]; omega)]
    simp only [List.nil_append]
    have hm2 : Pr.must [46] en (sg [46] :: s) = .inr s := by simp [Pr.must, Pr.hd]
    rw [hm2]
    rfl

theorem rules_back (en : Int) : ∀ (l : List Tr.Rule) (fuel : Nat) (acc : List Tr.Rule), l.all Tr.ruleOk = true → l.length ≤ fuel → Pr.rules en fuel acc (rulesK l) = .inr (acc ++ l.map Pr.erR)
  | [], 0, acc, _, _ => by simp [Pr.rules]
  | [], fuel + 1, acc, _, _ => by simp [Pr.rules, rulesK]
  | r :: l, 0, acc, _, h => by simp at h
  | r :: l, fuel + 1, acc, hok, hl => by
    have hr : Tr.ruleOk r = true := List.all_eq_true.1 hok r (by simp)
    have hok' : l.all Tr.ruleOk = true := List.all_eq_true.2 fun z hz => List.all_eq_true.1 hok z (List.mem_cons_of_mem _ hz)
    have ih := rules_back en l fuel (acc ++ [Pr.erR r]) hok' (by simp at hl; omega)
    have hb := rule_back r hr en (rulesK l)
    have e : rulesK (r :: l) = ⟨1, 0, r.name⟩ :: (sg [40] :: (termsK (foldK r.fold) r.terms ++ [sg [41]]) ++ (tailK r.body ++ sg [46] :: rulesK l)) := by simp [rulesK, ruleK, atomK]
    rw [e, Pr.rules, ← e]
    have e2 : rulesK (r :: l) = ruleK r ++ rulesK l := rfl
    rw [e2, hb]
    simp only
    rw [ih]
    simp
theorem rulesK_len : ∀ l : List Tr.Rule, l.length ≤ (rulesK l).length
  | [] => Nat.le_refl _
  | r :: l => by
    have := rulesK_len l
    simp only [rulesK, ruleK, List.length_append, List.length_cons, List.length_nil] at this ⊢
    omega
end Sh
end Go.Proofs.YtclbbiocagkmcaaGreatDoor

/- Scanning a text that is laid out of tokens and blanks. -/
namespace Go.Proofs.YtclbbiocagkmcaaGreatDoor

/-- May a byte stand right behind a token, and not belong to it? -/
def okB (t : List UInt8) (c : UInt8) : Bool :=
  match t with
  | [] => false
  | a :: q => if Tk.small a.toNat || Tk.great a.toNat then !Tk.alnum c.toNat else if Tk.digit a.toNat then !Tk.digit c.toNat else !((a :: q == [60]) && (c == 61))

theorem tok_apart (t r : List UInt8) (k : Int) (h : Tk.isTok k t = true) (hr : ∀ c s, r = c :: s → okB t c = true) :
    Tk.errOf (t ++ r) = 0 ∧ Tk.kindOf (t ++ r) = k ∧ Tk.lenOf (t ++ r) = t.length ∧ Tk.sep false (t ++ r) = 0 := by
  have h := of_decide_eq_true h
  obtain ⟨h1, h2, h3, h4, h5⟩ := h
  match t, h1 with
  | c :: q, _ =>
    have hk : Tk.kindOf (c :: (q ++ r)) = k := by rw [kindOf_cons]; rw [kindOf_cons] at h4; exact h4
    have hlen : Tk.lenOf (c :: (q ++ r)) = (c :: q).length := by
      rw [lenOf_cons] at h5 ⊢
      by_cases g1 : (Tk.small c.toNat || Tk.great c.toNat) = true
      · rw [if_pos g1] at h5 ⊢
        refine pre_append Tk.alnum (c :: q) r h5 fun d s e => ?_
        have := hr d s e
        simp only [okB, g1, if_true, Bool.not_eq_true'] at this
        exact this
      · rw [if_neg g1] at h5 ⊢
        by_cases g2 : Tk.digit c.toNat = true
        · rw [if_pos g2] at h5 ⊢
          refine pre_append Tk.digit (c :: q) r h5 fun d s e => ?_
          have := hr d s e
          rw [okB, if_neg g1, if_pos g2, Bool.not_eq_true'] at this
          exact this
        · rw [if_neg g2] at h5 ⊢
          rcases sign_cases c q with ⟨k1, d, s, rfl, k2⟩ | ⟨k1, k2⟩
          · rcases sign_cases c (d :: s ++ r) with ⟨m1, _⟩ | ⟨m1, _⟩
            · rw [m1, ← h5, k1]
            · exact absurd ⟨d, s ++ r, rfl, k2⟩ m1
          · have hl : 1 ≤ (c :: q).length := by simp
            have hs : Tk.isSign c = true := by
              by_cases hs : Tk.isSign c = true
              · exact hs
              · rw [if_neg hs] at k2; omega
            rw [if_pos hs] at k2
            rw [k2] at h5
            have hq : q = [] := List.eq_nil_of_length_eq_zero (by simpa using h5.symm)
            subst hq
            rcases sign_cases c ([] ++ r) with ⟨_, d, s, e, m2⟩ | ⟨_, m2⟩
            · have hd := hr d s (by simpa using e)
              rw [okB, if_neg g1, if_neg g2, Bool.not_eq_true'] at hd
              rcases m2 with ⟨rfl, rfl⟩ | ⟨rfl, rfl⟩ | ⟨rfl, rfl⟩
              · exact absurd hs (by decide)
              · exact absurd hd (by decide)
              · exact absurd hs (by decide)
            · rw [m2, if_pos hs]; rfl
    have herr : Tk.errOf (c :: (q ++ r)) = 0 := by
      rw [lenOf_cons] at hlen
      rw [lenOf_cons] at h5
      rw [errOf_cons] at h3 ⊢
      by_cases g1 : (Tk.small c.toNat || Tk.great c.toNat) = true
      · rw [if_pos g1] at h3 ⊢
        rw [if_pos g1] at hlen h5
        rw [hlen, ← h5]; exact h3
      · rw [if_neg g1] at h3 ⊢
        rw [if_neg g1] at hlen h5
        by_cases g2 : Tk.digit c.toNat = true
        · rw [if_pos g2] at h3 ⊢
          rw [if_pos g2] at hlen h5
          rw [hlen, ← h5]; exact h3
        · rw [if_neg g2] at h3 ⊢
          rw [if_neg g2] at hlen h5
          rw [hlen, ← h5]; exact h3
    exact ⟨herr, hk, hlen, sep_zero _ _ herr⟩

/-! ### Texts laid of tokens and blanks -/
abbrev El := Tk.Tok ⊕ UInt8
def tx : List El → List UInt8
  | [] => []
  | .inl t :: l => t.text ++ tx l
  | .inr b :: l => b :: tx l
def toks : List El → List Tk.Tok
  | [] => []
  | .inl t :: l => t :: toks l
  | .inr _ :: l => toks l
def good : List El → List UInt8 → Prop
  | [], _ => True
  | .inl t :: l, r => Tk.isTok t.kind t.text = true ∧ (∀ c s, tx l ++ r = c :: s → okB t.text c = true) ∧ good l r
  | .inr b :: l, r => (b = 32 ∨ b = 10) ∧ good l r
theorem tx_append : ∀ a b : List El, tx (a ++ b) = tx a ++ tx b
  | [], _ => rfl
  | .inl t :: a, b => by simp [tx, tx_append a b]
  | .inr c :: a, b => by simp [tx, tx_append a b]
theorem toks_append : ∀ a b : List El, toks (a ++ b) = toks a ++ toks b
  | [], _ => rfl
  | .inl t :: a, b => by simp [toks, toks_append a b]
  | .inr c :: a, b => by simp [toks, toks_append a b]
theorem good_append : ∀ (a b : List El) (r : List UInt8), good a (tx b ++ r) → good b r → good (a ++ b) r
  | [], _, _, _, h => h
  | .inl t :: a, b, r, ha, hb => ⟨ha.1, fun c s e => ha.2.1 c s (by rw [← e, ← List.append_assoc, ← tx_append]; rfl), good_append a b r ha.2.2 hb⟩
  | .inr c :: a, b, r, ha, hb => ⟨ha.1, good_append a b r ha.2 hb⟩

theorem scan_el (L : List UInt8) : ∀ (l : List El), good l [] → ∀ (f p : Nat) (acc : List Tk.Tok), L.drop p = tx l → L.length ≤ p + f →
    ∃ m, Tk.scanP L f (p + Tk.sep false (tx l)) acc = (acc ++ m, 0, 0) ∧ m.map Pr.er = (toks l).map Pr.er := by
  intro l
  induction l with
  | nil =>
    intro _ f p acc hd _
    have hl : L.length ≤ p := by
      have := congrArg List.length hd
      rw [List.length_drop] at this
      simp [tx] at this
      omega
    exact ⟨[], by rw [Tk.scanP_end _ _ _ _ (by omega), List.append_nil], rfl⟩
  | cons x l ih =>
    intro hg f p acc hd hf
    cases x with
    | inr b =>
      obtain ⟨hb, hg⟩ := hg
      have hs : Tk.sep false (tx (.inr b :: l)) = Tk.sep false (tx l) + 1 := by
        rw [tx, Tk.sep]
        rcases hb with rfl | rfl
        · rw [if_neg (by decide), if_pos (by decide)]
        · rw [if_neg (by decide), if_pos (by decide)]
      have hdr : L.drop (p + 1) = tx l := by rw [← List.drop_drop, hd]; rfl
      obtain ⟨m, hm, he⟩ := ih hg f (p + 1) acc hdr (by omega)
      refine ⟨m, ?_, he⟩
      rw [hs, show p + (Tk.sep false (tx l) + 1) = p + 1 + Tk.sep false (tx l) by omega]
      exact hm
    | inl t =>
      obtain ⟨ht, hc, hg⟩ := hg
      obtain ⟨b1, b2, b3, b4⟩ := tok_apart t.text (tx l) t.kind ht (by simpa using hc)
      have e : tx (.inl t :: l) = t.text ++ tx l := rfl
      rw [e] at hd ⊢
      rw [b4, Nat.add_zero]
      have hpos : 1 ≤ t.text.length := by
        have := of_decide_eq_true ht
        rcases hh : t.text with _ | ⟨c, q⟩
        · exact absurd hh this.1
        · simp
      have hlen : L.length = p + t.text.length + (tx l).length := by
        have := congrArg List.length hd
        rw [List.length_drop, List.length_append] at this
        omega
      obtain ⟨f, rfl⟩ : ∃ f', f = f' + 1 := ⟨f - 1, by omega⟩
      have hlt : p < L.length := by omega
      rw [← hd] at b1 b2 b3
      rw [Tk.scanP_yes L f p acc hlt b1, b3]
      have hdr : L.drop (p + t.text.length) = tx l := by
        rw [← List.drop_drop, hd, List.drop_left]
      have htok : Tk.tokAt L p = ⟨t.kind, p, t.text⟩ := by
        unfold Tk.tokAt
        rw [b2, b3, hd, List.take_left]
      rw [hdr, htok]
      obtain ⟨m, hm, he⟩ := ih hg f (p + t.text.length) (acc ++ [⟨t.kind, p, t.text⟩]) hdr (by omega)
      refine ⟨⟨t.kind, p, t.text⟩ :: m, by rw [hm]; simp, ?_⟩
      rw [toks, List.map_cons, List.map_cons, he]
      rfl

theorem scan_tx (l : List El) (hg : good l []) (hl : (tx l).length ≤ 5000) :
    (Tk.scan (tx l)).2.2 = 0 ∧ (Tk.scan (tx l)).1.map Pr.er = (toks l).map Pr.er := by
  obtain ⟨m, hm, he⟩ := scan_el (tx l) l hg (tx l).length 0 [] rfl (by omega)
  rw [Nat.zero_add] at hm
  unfold Tk.scan
  rw [if_neg (by omega), hm]
  exact ⟨rfl, he⟩
end Go.Proofs.YtclbbiocagkmcaaGreatDoor

