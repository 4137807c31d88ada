/- Own texts, one behind the other (part 5). -/
import Derived.Test.YtjbfbbhaagkagaaGreatDoorBundleD
import Derived.Test.YtjbfbbhaagkagaaGreatDoorRows
import Derived.Test.YtjbfbbhaagkagaaGreatDoorCards
import Derived.Test.YtjbfbbhaagkagaaGreatDoorTie
import Derived.ProofKit
import Derived.Deep.Slices
import Derived.Deep.Strs
import Derived.LaidLaws
/- The document's answer: CheckTree. -/
namespace Go.Proofs.YtjbfbbhaagkagaaGreatDoor
open Go.RowKit

theorem lit_kinds (x : Tr.Lit) : x.kind = 1 ∨ x.kind = 2 ∨ x.kind = 3 ∨ x.kind = 4 ∨ (¬ x.kind = 1 ∧ ¬ x.kind = 2 ∧ ¬ x.kind = 3 ∧ ¬ x.kind = 4) := by omega
theorem litOk_1 (x : Tr.Lit) (h : x.kind = 1 ∨ x.kind = 2) : Tr.litOk x = (Tr.termsOk x.terms && ((x.op == 0) && Tr.isName x.name)) := by
  unfold Tr.litOk; rw [if_pos h]
theorem litOk_3 (x : Tr.Lit) (h : x.kind = 3) : Tr.litOk x = (Tr.termsOk x.terms && (Tr.between x.op 1 4 && x.name.isEmpty && ((x.terms.length : Int) == 2))) := by
  unfold Tr.litOk; rw [if_neg (by omega), if_pos h]
theorem litOk_4 (x : Tr.Lit) (h : x.kind = 4) : Tr.litOk x = (Tr.termsOk x.terms && (Tr.between x.op 5 7 && x.name.isEmpty && ((x.terms.length : Int) == 3))) := by
  unfold Tr.litOk; rw [if_neg (by omega), if_neg (by omega), if_pos h]
theorem litOk_5 (x : Tr.Lit) (h : ¬ x.kind = 1 ∧ ¬ x.kind = 2 ∧ ¬ x.kind = 3 ∧ ¬ x.kind = 4) : Tr.litOk x = (Tr.termsOk x.terms && false) := by
  unfold Tr.litOk; rw [if_neg (by omega), if_neg (by omega), if_neg (by omega)]

theorem foldOk_no {f : Int} {a b : Nat} (h : Tr.foldOk f a b = false) :
    (decide (0 ≤ f) && decide (f ≤ 4)) = false ∨ ((decide (0 ≤ f) && decide (f ≤ 4)) = true ∧ decide ((0 : Int) < f) = true ∧ ((a : Int) == 0) = true) ∨
    ((decide (0 ≤ f) && decide (f ≤ 4)) = true ∧ decide ((0 : Int) < f) = true ∧ ((a : Int) == 0) = false ∧ ((b : Int) == 0) = true) := by
  unfold Tr.foldOk Tr.between at h
  simp only [Bool.or_eq_false_iff, beq_eq_false_iff_ne, Bool.and_eq_false_iff, decide_eq_false_iff_not] at h
  obtain ⟨h0, h1⟩ := h
  by_cases hb : 0 ≤ f ∧ f ≤ 4
  · have e1 : (decide (0 ≤ f) && decide (f ≤ 4)) = true := by simp [hb.1, hb.2]
    have e2 : decide ((0 : Int) < f) = true := decide_eq_true (by omega)
    by_cases ha : a = 0
    · exact .inr (.inl ⟨e1, e2, beq_iff_eq.2 (by omega)⟩)
    · exact .inr (.inr ⟨e1, e2, beq_eq_false_iff_ne.2 (by omega), beq_iff_eq.2 (by omega)⟩)
  · left
    simp only [Bool.and_eq_false_iff, decide_eq_false_iff_not]
    omega
theorem foldOk_yes {f : Int} {a b : Nat} (h : Tr.foldOk f a b = true) :
    ((decide (0 ≤ f) && decide (f ≤ 4)) = true ∧ decide ((0 : Int) < f) = false) ∨
    ((decide (0 ≤ f) && decide (f ≤ 4)) = true ∧ decide ((0 : Int) < f) = true ∧ ((a : Int) == 0) = false ∧ ((b : Int) == 0) = false) := by
  unfold Tr.foldOk Tr.between at h
  simp only [Bool.or_eq_true, beq_iff_eq, Bool.and_eq_true, decide_eq_true_eq] at h
  rcases h with h | ⟨⟨⟨h1, h2⟩, h3⟩, h4⟩
  · exact .inl ⟨by subst h; rfl, decide_eq_false (by omega)⟩
  · exact .inr ⟨by simp; omega, decide_eq_true (by omega), beq_eq_false_iff_ne.2 (by omega), beq_eq_false_iff_ne.2 (by omega)⟩

theorem many_no {l : List Tr.Rule} (h : Tr.many l = false) : ∀ k, k < l.length → Tr.ruleMany (Tr.ruleD l k) = false := fun k hk => by
  unfold Tr.many at h
  simp only [Bool.or_eq_false_iff] at h
  have e : Tr.ruleD l k = l[k] := by rw [Tr.ruleD, List.getD_eq_getElem?_getD, List.getElem?_eq_getElem hk]; rfl
  rw [e]
  have := List.any_eq_false.1 h.2 _ (List.getElem_mem hk)
  simpa using this

set_option maxRecDepth 100000 in
set_option maxHeartbeats 8000000 in
theorem CheckTree_any (l : List Tr.Rule) (v : Value) (w : World) (hA : RulesV w v l) :
    Calls Tryz.prog 10 #[treeVal v] w fun e w' => e = .returned (.int .i64 (Tr.check l)) ∧ Below w.heap.size w w' := by
  have hA0 := rulesV_below hA (below_alloc w (.cells #[v] 24))
  have hbel0 := below_alloc w (.cells #[v] 24)
  obtain ⟨ao, ca, rfl, _⟩ := hA
  by_cases h12 : 12 < l.length
  · have HF : Hid (Tr.check l = 2) := by show _ = _; unfold Tr.check Tr.many; rw [decide_eq_true h12]; rfl
    go_enter Tryz.func10, Tryz.ntmps10
    go_wp2_with fail
    go_ret
    exact ⟨ret_int HF.out.symm, hbel0⟩
  · have HMa : Hid (Tr.many l = l.any Tr.ruleMany) := by show _ = _; unfold Tr.many; rw [decide_eq_false h12]; rfl
    have c0 : (w.alloc (.cells #[.slice ao l.length ca] 24)).cell? ⟨w.heap.size, 0, none⟩ = some (.slice ao l.length ca) := by simp [go_sem]
    go_enter Tryz.func10, Tryz.ntmps10
    go_wp2_with fail
    generalize (w.alloc (.cells #[.slice ao l.length ca] 24)) = w0 at *
    go_loopw [3] (fun i wr => ∃ k : Nat, k ≤ l.length ∧ i = .int .i64 k ∧ Tr.many l = (l.drop k).any Tr.ruleMany ∧ Below w0.heap.size w0 wr) (fun i _ => l.length - (intOf i).toNat)
    case atStart => exact ⟨0, Nat.zero_le _, rfl, HMa.out, Below.refl _ _⟩
    case round =>
      obtain ⟨k, hk, rfl, hany, hbelr⟩ := hrel
      have HA : Hid (Tr.many l = (l.drop k).any Tr.ruleMany) := hany
      have c1 := cell_below hbelr c0
      clear hany HMa
      by_cases hlt : k < l.length
      · obtain ⟨ao', ca', hv, hR⟩ := rulesV_below hA0 hbelr
        rcases hR with h | ⟨b, off, rfl, hc⟩
        · rw [h] at hlt; exact absurd hlt (by simp)
        injection hv with e1 _ e3
        subst e1 e3
        obtain ⟨a0, a1, ⟨v2, a2, hT⟩, a3, v4, a4, hL⟩ := hc k hlt
        have HD : Hid (Tr.many l = (Tr.ruleMany (Tr.ruleD l k) || (l.drop (k + 1)).any Tr.ruleMany)) := HA.out.trans (any_drop _ _ _ k hlt)
        clear hc HA
        generalize Tr.ruleD l k = r at *
        have hL0 := litsV_below hL (below_alloc wr (ruleObj r v2 v4))
        have hbel1 : Below w.heap.size w (wr.alloc (ruleObj r v2 v4)) := (hbel0.trans (hbelr.mono hbel0.size)).trans ((below_alloc wr _).mono (hbel0.trans (hbelr.mono hbel0.size)).size)
        have hbelr1 : Below w0.heap.size w0 (wr.alloc (ruleObj r v2 v4)) := hbelr.trans ((below_alloc wr _).mono hbelr.size)
        obtain ⟨ao2, ca2, rfl, _⟩ := hT
        obtain ⟨ao4, ca4, rfl, _⟩ := hL
        have d4 : (wr.alloc (ruleObj r (.slice ao2 r.terms.length ca2) (.slice ao4 r.body.length ca4))).cell? ⟨wr.heap.size, 4, none⟩ = some (.slice ao4 r.body.length ca4) := by simp [go_sem]
        by_cases h3 : 3 < r.terms.length
        rotate_left
        · have g2 : decide ((3 : Int) < (r.terms.length : Int)) = false := decide_eq_false (by omega)
          by_cases h4 : 4 < r.body.length
          rotate_left
          · have g1 : decide ((4 : Int) < (r.body.length : Int)) = false := decide_eq_false (by omega)
            have HM : Hid (Tr.ruleMany r = Tr.litsMany r.body) := by show _ = _; unfold Tr.ruleMany; rw [decide_eq_false h4, decide_eq_false h3]; rfl
            go_wp2_with fail
            generalize (wr.alloc (ruleObj r (.slice ao2 r.terms.length ca2) (.slice ao4 r.body.length ca4))) = w1 at *
            go_loopw [5] (fun i wq => ∃ j : Nat, j ≤ r.body.length ∧ i = .int .i64 j ∧ Tr.litsMany r.body = (r.body.drop j).any (fun x => decide (3 < x.terms.length)) ∧ wq = w1) (fun i _ => r.body.length - (intOf i).toNat)
            case atStart => exact ⟨0, Nat.zero_le _, rfl, rfl, rfl⟩
            case round =>
              obtain ⟨j, hj, rfl, hany, rfl⟩ := hrel
              have HB : Hid (Tr.litsMany r.body = (r.body.drop j).any (fun x => decide (3 < x.terms.length))) := hany
              clear hany
              by_cases hltj : j < r.body.length
              · obtain ⟨bo', cb', hv, hL⟩ := hL0
                rcases hL with h | ⟨b2, off2, rfl, hc⟩
                · rw [h] at hltj; exact absurd hltj (by simp)
                injection hv with e1 _ e3
                subst e1 e3
                obtain ⟨q0, q1, q2, q3, u4, q4, hT⟩ := hc j hltj
                have HE : Hid (Tr.litsMany r.body = (decide (3 < (Tr.litD r.body j).terms.length) || (r.body.drop (j + 1)).any (fun x => decide (3 < x.terms.length)))) := HB.out.trans (any_drop _ _ _ j hltj)
                clear hc HB hA0
                generalize Tr.litD r.body j = x at *
                obtain ⟨ao5, ca5, rfl, _⟩ := hT
                by_cases hx : 3 < x.terms.length
                rotate_left
                · have g : decide ((3 : Int) < (x.terms.length : Int)) = false := decide_eq_false (by omega)
                  have HN : Hid (Tr.litsMany r.body = (r.body.drop (j + 1)).any (fun x => decide (3 < x.terms.length))) := by show _ = _; rw [HE.out, decide_eq_false hx]; rfl
                  clear HE
                  go_wp2_with fail
                  go_roundw
                  case rel => exact ⟨j + 1, by omega, by go_num, HN.out, trivial⟩
                  case measure => simp [intOf]; omega
                · have g : decide ((3 : Int) < (x.terms.length : Int)) = true := decide_eq_true (by omega)
                  have HF : Hid (Tr.check l = 2) := by show _ = _; unfold Tr.check; rw [HD.out, HM.out, HE.out, decide_eq_true hx]; rfl
                  clear HE HD HM
                  go_wp2_with fail
                  go_ret
                  exact ⟨ret_int HF.out.symm, hbel1⟩
              · have HN : Hid (Tr.many l = (l.drop (k + 1)).any Tr.ruleMany) := by
                  show _ = _
                  rw [HD.out, HM.out, HB.out, List.drop_of_length_le (by omega)]
                  rfl
                clear HB HD HM hL0 hA0
                go_wp2_with fail
                go_roundw
                case rel => exact ⟨k + 1, by omega, by go_num, HN.out, hbelr1⟩
                case measure => simp [intOf]; omega
          · have g1 : decide ((4 : Int) < (r.body.length : Int)) = true := decide_eq_true (by omega)
            have HF : Hid (Tr.check l = 2) := by show _ = _; unfold Tr.check; rw [HD.out]; unfold Tr.ruleMany; rw [decide_eq_true h4]; simp
            clear HD hA0 hL0
            go_wp2_with fail
            go_ret
            exact ⟨ret_int HF.out.symm, hbel1⟩
        · have g2 : decide ((3 : Int) < (r.terms.length : Int)) = true := decide_eq_true (by omega)
          have HF : Hid (Tr.check l = 2) := by show _ = _; unfold Tr.check; rw [HD.out]; unfold Tr.ruleMany; rw [decide_eq_true h3]; simp
          clear HD hA0 hL0
          go_wp2_with fail
          go_ret
          exact ⟨ret_int HF.out.symm, hbel1⟩
      · have gm : Tr.many l = false := by rw [HA.out, List.drop_of_length_le (by omega)]; rfl
        have HM : Hid (∀ k, k < l.length → Tr.ruleMany (Tr.ruleD l k) = false) := many_no gm
        have HV : Hid (Tr.check l = if l.all Tr.ruleOk then 0 else 1) := by show _ = _; unfold Tr.check; rw [gm]; rfl
        have hbel1 := hbel0.trans (hbelr.mono hbel0.size)
        have hA1 := rulesV_below hA0 hbelr
        clear HA gm hA0 hbel0 c0 hbelr
        go_wp2_with fail
        generalize hw1 : wr = w1 at *
        clear hw1
        go_loopw [6] (fun i wr => ∃ k : Nat, k ≤ l.length ∧ i = .int .i64 k ∧ l.all Tr.ruleOk = (l.drop k).all Tr.ruleOk ∧ Below w1.heap.size w1 wr) (fun i _ => l.length - (intOf i).toNat)
        case atStart => exact ⟨0, Nat.zero_le _, rfl, rfl, Below.refl _ _⟩
        case round =>
          obtain ⟨k, hk, rfl, hall, hbelr⟩ := hrel
          have HA3 : Hid (l.all Tr.ruleOk = (l.drop k).all Tr.ruleOk) := hall
          have c2 := cell_below hbelr c1
          clear hall
          by_cases hlt : k < l.length
          · obtain ⟨ao', ca', hv, hR⟩ := rulesV_below hA1 hbelr
            rcases hR with h | ⟨b, off, rfl, hc⟩
            · rw [h] at hlt; exact absurd hlt (by simp)
            injection hv with e1 _ e3
            subst e1 e3
            obtain ⟨a0, a1, ⟨v2, a2, hT⟩, a3, v4, a4, hL⟩ := hc k hlt
            have HD : Hid (l.all Tr.ruleOk = (Tr.ruleOk (Tr.ruleD l k) && (l.drop (k + 1)).all Tr.ruleOk)) := HA3.out.trans (all_drop _ _ _ k hlt)
            obtain ⟨f1, f2, f3⟩ := ruleMany_no (HM.out k hlt)
            clear hc
            generalize Tr.ruleD l k = r at *
            have HRo : Hid (Tr.ruleOk r = (Tr.isName r.name && Tr.termsOk r.terms && Tr.foldOk r.fold r.terms.length r.body.length && Tr.litsOk r.body)) := rfl
            have hbel2 : Below w.heap.size w (wr.alloc (ruleObj r v2 v4)) := (hbel1.trans (hbelr.mono hbel1.size)).trans ((below_alloc wr _).mono (hbel1.trans (hbelr.mono hbel1.size)).size)
            have hbelr2 : Below w1.heap.size w1 (wr.alloc (ruleObj r v2 v4)) := hbelr.trans ((below_alloc wr _).mono hbelr.size)
            have hL0 := litsV_below hL (below_alloc wr (ruleObj r v2 v4))
            have HC : Hid (_) := areTerms_any r.terms v2 (wr.alloc (ruleObj r v2 v4)) (by omega) (termsV_below hT (below_alloc _ _))
            obtain ⟨ao2, ca2, rfl, _⟩ := hT
            obtain ⟨ao4, ca4, rfl, _⟩ := hL
            have HLn : Hid (True) := trivial
            cases gn : Tr.isName r.name
            · have HF : Hid (Tr.check l = 1) := by show _ = _; rw [HV.out, HD.out, HRo.out, gn]; rfl
              clear HD HV HRo HC
              go_wp2_with (go_at_call 23; refine (refName_any _ _).mono ?_; rintro e w' ⟨rfl, rfl⟩)
              go_ret
              exact ⟨ret_int HF.out.symm, hbel2⟩
            · go_wp2_with (go_at_call 23; refine (refName_any _ _).mono ?_; rintro e w' ⟨rfl, rfl⟩)
              refine Calls.mono HC.out ?_
              rintro e w3 ⟨he, hb3⟩
              obtain ⟨z0, z1, z2, z3, z4⟩ := ruleBox hb3
              have hbel3 := hbel2.trans (hb3.mono hbel2.size)
              have hbelr3 := hbelr2.trans (hb3.mono hbelr2.size)
              have hL3 := litsV_below hL0 hb3
              clear HC hb3 hL0 a0 a1 a2 a3 a4
              cases gt : Tr.termsOk r.terms
              · have HF : Hid (Tr.check l = 1) := by show _ = _; rw [HV.out, HD.out, HRo.out, gt]; simp
                rw [gt] at he
                subst he
                clear HD HV HRo
                go_wp2_with fail
                go_ret
                exact ⟨ret_int HF.out.symm, hbel3⟩
              · rw [gt] at he
                subst he
                cases gf : Tr.foldOk r.fold r.terms.length r.body.length
                · have HF : Hid (Tr.check l = 1) := by show _ = _; rw [HV.out, HD.out, HRo.out, gf]; simp
                  clear HD HV HRo
                  rcases foldOk_no gf with hb | ⟨hb, hp, ht⟩ | ⟨hb, hp, ht, hq⟩
                  · go_wp2_with (go_at_call 25; refine (between_any _ _ _ _).mono ?_; rintro e w' ⟨rfl, rfl⟩)
                    go_ret
                    exact ⟨ret_int HF.out.symm, hbel3⟩
                  · go_wp2_with (go_at_call 25; refine (between_any _ _ _ _).mono ?_; rintro e w' ⟨rfl, rfl⟩)
                    go_ret
                    exact ⟨ret_int HF.out.symm, hbel3⟩
                  · go_wp2_with (go_at_call 25; refine (between_any _ _ _ _).mono ?_; rintro e w' ⟨rfl, rfl⟩)
                    go_ret
                    exact ⟨ret_int HF.out.symm, hbel3⟩
                · have HW : Hid (Tr.ruleOk r = Tr.litsOk r.body) := by show _ = _; rw [HRo.out, gn, gt, gf]; rfl
                  rcases foldOk_yes gf with ⟨hb, hp⟩ | ⟨hb, hp, ht, hq⟩
                  · go_wp2_with (go_at_call 25; refine (between_any _ _ _ _).mono ?_; rintro e w3 ⟨rfl, rfl⟩)
                    clear hb hp gf gt gn
                    go_loopw [8] (fun i wq => ∃ j : Nat, j ≤ r.body.length ∧ i = .int .i64 j ∧ Tr.litsOk r.body = (r.body.drop j).all Tr.litOk ∧ Below w3.heap.size w3 wq) (fun i _ => r.body.length - (intOf i).toNat)
                    case atStart => exact ⟨0, Nat.zero_le _, rfl, rfl, Below.refl _ _⟩
                    case round =>
                      obtain ⟨j, hj, rfl, hall, hbelq⟩ := hrel
                      have HB : Hid (Tr.litsOk r.body = (r.body.drop j).all Tr.litOk) := hall
                      have z4' := cell_below hbelq z4
                      clear hall
                      by_cases hltj : j < r.body.length
                      · obtain ⟨bo', cb', hv, hL⟩ := litsV_below hL3 hbelq
                        rcases hL with h | ⟨b2, off2, rfl, hc⟩
                        · rw [h] at hltj; exact absurd hltj (by simp)
                        injection hv with e1 _ e3
                        subst e1 e3
                        obtain ⟨q0, q1, q2, q3, u4, q4, hT⟩ := hc j hltj
                        have HE : Hid (Tr.litsOk r.body = (Tr.litOk (Tr.litD r.body j) && (r.body.drop (j + 1)).all Tr.litOk)) := HB.out.trans (all_drop _ _ _ j hltj)
                        have hfit := f3 j hltj
                        clear hc HB hL3 hA1
                        generalize Tr.litD r.body j = x at *
                        have HC : Hid (_) := areTerms_any x.terms u4 (wr.alloc (litObj x u4)) hfit (termsV_below hT (below_alloc _ _))
                        obtain ⟨ao5, ca5, rfl, _⟩ := hT
                        go_wp2_with fail
                        refine Calls.mono HC.out ?_
                        rintro e w5 ⟨he, hb5⟩
                        obtain ⟨y0, y1, y2, y3, y4⟩ := litBox hb5
                        have hbel5q := hbelq.trans ((below_box hb5).mono hbelq.size)
                        have hbel5 := hbel3.trans (hbel5q.mono hbel3.size)
                        clear HC hb5 q0 q1 q2 q3 q4
                        cases gT : Tr.termsOk x.terms
                        · rw [gT] at he
                          subst he
                          rcases lit_kinds x with hk | hk | hk | hk | hk
                          · have t1 : (x.kind == 1) = true := beq_iff_eq.2 hk
                            have HLo : Hid (Tr.litOk x = (Tr.termsOk x.terms && ((x.op == 0) && Tr.isName x.name))) := litOk_1 x (.inl hk)
                            clear hk
                            have HF : Hid (Tr.check l = 1) := by show _ = _; rw [HV.out, HD.out, HW.out, HE.out, HLo.out, gT]; simp
                            clear HE HD HV HW HLo HRo HA3 HLn
                            go_wp2_with fail
                            go_ret
                            exact ⟨ret_int HF.out.symm, hbel5⟩
                          · have t1 : (x.kind == 1) = false := beq_eq_false_iff_ne.2 (by omega)
                            have t2 : (x.kind == 2) = true := beq_iff_eq.2 hk
                            have HLo : Hid (Tr.litOk x = (Tr.termsOk x.terms && ((x.op == 0) && Tr.isName x.name))) := litOk_1 x (.inr hk)
                            clear hk
                            have HF : Hid (Tr.check l = 1) := by show _ = _; rw [HV.out, HD.out, HW.out, HE.out, HLo.out, gT]; simp
                            clear HE HD HV HW HLo HRo HA3 HLn
                            go_wp2_with fail
                            go_ret
                            exact ⟨ret_int HF.out.symm, hbel5⟩
                          · have t1 : (x.kind == 1) = false := beq_eq_false_iff_ne.2 (by omega)
                            have t2 : (x.kind == 2) = false := beq_eq_false_iff_ne.2 (by omega)
                            have t3 : (x.kind == 3) = true := beq_iff_eq.2 hk
                            have HLo : Hid (Tr.litOk x = (Tr.termsOk x.terms && (Tr.between x.op 1 4 && x.name.isEmpty && ((x.terms.length : Int) == 2)))) := litOk_3 x hk
                            clear hk
                            have HF : Hid (Tr.check l = 1) := by show _ = _; rw [HV.out, HD.out, HW.out, HE.out, HLo.out, gT]; simp
                            clear HE HD HV HW HLo HRo HA3 HLn
                            go_wp2_with fail
                            go_ret
                            exact ⟨ret_int HF.out.symm, hbel5⟩
                          · have t1 : (x.kind == 1) = false := beq_eq_false_iff_ne.2 (by omega)
                            have t2 : (x.kind == 2) = false := beq_eq_false_iff_ne.2 (by omega)
                            have t3 : (x.kind == 3) = false := beq_eq_false_iff_ne.2 (by omega)
                            have t4 : (x.kind == 4) = true := beq_iff_eq.2 hk
                            have HLo : Hid (Tr.litOk x = (Tr.termsOk x.terms && (Tr.between x.op 5 7 && x.name.isEmpty && ((x.terms.length : Int) == 3)))) := litOk_4 x hk
                            clear hk
                            have HF : Hid (Tr.check l = 1) := by show _ = _; rw [HV.out, HD.out, HW.out, HE.out, HLo.out, gT]; simp
                            clear HE HD HV HW HLo HRo HA3 HLn
                            go_wp2_with fail
                            go_ret
                            exact ⟨ret_int HF.out.symm, hbel5⟩
                          · have t1 : (x.kind == 1) = false := beq_eq_false_iff_ne.2 hk.1
                            have t2 : (x.kind == 2) = false := beq_eq_false_iff_ne.2 hk.2.1
                            have t3 : (x.kind == 3) = false := beq_eq_false_iff_ne.2 hk.2.2.1
                            have t4 : (x.kind == 4) = false := beq_eq_false_iff_ne.2 hk.2.2.2
                            have HLo : Hid (Tr.litOk x = (Tr.termsOk x.terms && false)) := litOk_5 x hk
                            clear hk
                            have HF : Hid (Tr.check l = 1) := by show _ = _; rw [HV.out, HD.out, HW.out, HE.out, HLo.out]; simp
                            clear HE HD HV HW HLo HRo HA3 HLn
                            go_wp2_with fail
                            go_ret
                            exact ⟨ret_int HF.out.symm, hbel5⟩
                        · rw [gT] at he
                          subst he
                          rcases lit_kinds x with hk | hk | hk | hk | hk
                          · have t1 : (x.kind == 1) = true := beq_iff_eq.2 hk
                            have HLo : Hid (Tr.litOk x = (Tr.termsOk x.terms && ((x.op == 0) && Tr.isName x.name))) := litOk_1 x (.inl hk)
                            clear hk
                            cases g1 : (x.op == 0)
                            · have HF : Hid (Tr.check l = 1) := by show _ = _; rw [HV.out, HD.out, HW.out, HE.out, HLo.out, g1]; simp
                              clear HE HD HV HW HLo HRo HA3 HLn
                              go_wp2_with fail
                              go_ret
                              exact ⟨ret_int HF.out.symm, hbel5⟩
                            · cases g2 : Tr.isName x.name
                              · have HF : Hid (Tr.check l = 1) := by show _ = _; rw [HV.out, HD.out, HW.out, HE.out, HLo.out, g2]; simp
                                clear HE HD HV HW HLo HRo HA3 HLn
                                go_wp2_with (go_at_call 23; refine (refName_any _ _).mono ?_; rintro e w' ⟨rfl, rfl⟩)
                                go_ret
                                exact ⟨ret_int HF.out.symm, hbel5⟩
                              · have HN : Hid (Tr.litsOk r.body = (r.body.drop (j + 1)).all Tr.litOk) := by show _ = _; rw [HE.out, HLo.out, gT, g1, g2]; simp
                                clear HE HLo
                                go_wp2_with (go_at_call 23; refine (refName_any _ _).mono ?_; rintro e w' ⟨rfl, rfl⟩)
                                go_roundw
                                case rel => exact ⟨j + 1, by omega, by go_num, HN.out, hbel5q⟩
                                case measure => simp [intOf]; omega
                          · have t1 : (x.kind == 1) = false := beq_eq_false_iff_ne.2 (by omega)
                            have t2 : (x.kind == 2) = true := beq_iff_eq.2 hk
                            have HLo : Hid (Tr.litOk x = (Tr.termsOk x.terms && ((x.op == 0) && Tr.isName x.name))) := litOk_1 x (.inr hk)
                            clear hk
                            cases g1 : (x.op == 0)
                            · have HF : Hid (Tr.check l = 1) := by show _ = _; rw [HV.out, HD.out, HW.out, HE.out, HLo.out, g1]; simp
                              clear HE HD HV HW HLo HRo HA3 HLn
                              go_wp2_with fail
                              go_ret
                              exact ⟨ret_int HF.out.symm, hbel5⟩
                            · cases g2 : Tr.isName x.name
                              · have HF : Hid (Tr.check l = 1) := by show _ = _; rw [HV.out, HD.out, HW.out, HE.out, HLo.out, g2]; simp
                                clear HE HD HV HW HLo HRo HA3 HLn
                                go_wp2_with (go_at_call 23; refine (refName_any _ _).mono ?_; rintro e w' ⟨rfl, rfl⟩)
                                go_ret
                                exact ⟨ret_int HF.out.symm, hbel5⟩
                              · have HN : Hid (Tr.litsOk r.body = (r.body.drop (j + 1)).all Tr.litOk) := by show _ = _; rw [HE.out, HLo.out, gT, g1, g2]; simp
                                clear HE HLo
                                go_wp2_with (go_at_call 23; refine (refName_any _ _).mono ?_; rintro e w' ⟨rfl, rfl⟩)
                                go_roundw
                                case rel => exact ⟨j + 1, by omega, by go_num, HN.out, hbel5q⟩
                                case measure => simp [intOf]; omega
                          · have t1 : (x.kind == 1) = false := beq_eq_false_iff_ne.2 (by omega)
                            have t2 : (x.kind == 2) = false := beq_eq_false_iff_ne.2 (by omega)
                            have t3 : (x.kind == 3) = true := beq_iff_eq.2 hk
                            have HLo : Hid (Tr.litOk x = (Tr.termsOk x.terms && (Tr.between x.op 1 4 && x.name.isEmpty && ((x.terms.length : Int) == 2)))) := litOk_3 x hk
                            clear hk
                            cases g1 : Tr.between x.op 1 4
                            · have HF : Hid (Tr.check l = 1) := by show _ = _; rw [HV.out, HD.out, HW.out, HE.out, HLo.out, g1]; simp
                              unfold Tr.between at g1
                              clear HE HD HV HW HLo HRo HA3 HLn
                              go_wp2_with (go_at_call 25; refine (between_any _ _ _ _).mono ?_; rintro e w' ⟨rfl, rfl⟩)
                              go_ret
                              exact ⟨ret_int HF.out.symm, hbel5⟩
                            · cases g2 : x.name.isEmpty
                              · have HF : Hid (Tr.check l = 1) := by show _ = _; rw [HV.out, HD.out, HW.out, HE.out, HLo.out, g2]; simp
                                unfold Tr.between at g1
                                clear HE HD HV HW HLo HRo HA3 HLn
                                go_wp2_with (go_at_call 25; refine (between_any _ _ _ _).mono ?_; rintro e w' ⟨rfl, rfl⟩)
                                go_ret
                                exact ⟨ret_int HF.out.symm, hbel5⟩
                              · cases g3 : ((x.terms.length : Int) == 2)
                                · have HF : Hid (Tr.check l = 1) := by show _ = _; rw [HV.out, HD.out, HW.out, HE.out, HLo.out, g3]; simp
                                  unfold Tr.between at g1
                                  clear HE HD HV HW HLo HRo HA3 HLn
                                  go_wp2_with (go_at_call 25; refine (between_any _ _ _ _).mono ?_; rintro e w' ⟨rfl, rfl⟩)
                                  go_ret
                                  exact ⟨ret_int HF.out.symm, hbel5⟩
                                · have HN : Hid (Tr.litsOk r.body = (r.body.drop (j + 1)).all Tr.litOk) := by show _ = _; rw [HE.out, HLo.out, gT, g1, g2, g3]; simp
                                  unfold Tr.between at g1
                                  clear HE HLo
                                  go_wp2_with (go_at_call 25; refine (between_any _ _ _ _).mono ?_; rintro e w' ⟨rfl, rfl⟩)
                                  go_roundw
                                  case rel => exact ⟨j + 1, by omega, by go_num, HN.out, hbel5q⟩
                                  case measure => simp [intOf]; omega
                          · have t1 : (x.kind == 1) = false := beq_eq_false_iff_ne.2 (by omega)
                            have t2 : (x.kind == 2) = false := beq_eq_false_iff_ne.2 (by omega)
                            have t3 : (x.kind == 3) = false := beq_eq_false_iff_ne.2 (by omega)
                            have t4 : (x.kind == 4) = true := beq_iff_eq.2 hk
                            have HLo : Hid (Tr.litOk x = (Tr.termsOk x.terms && (Tr.between x.op 5 7 && x.name.isEmpty && ((x.terms.length : Int) == 3)))) := litOk_4 x hk
                            clear hk
                            cases g1 : Tr.between x.op 5 7
                            · have HF : Hid (Tr.check l = 1) := by show _ = _; rw [HV.out, HD.out, HW.out, HE.out, HLo.out, g1]; simp
                              unfold Tr.between at g1
                              clear HE HD HV HW HLo HRo HA3 HLn
                              go_wp2_with (go_at_call 25; refine (between_any _ _ _ _).mono ?_; rintro e w' ⟨rfl, rfl⟩)
                              go_ret
                              exact ⟨ret_int HF.out.symm, hbel5⟩
                            · cases g2 : x.name.isEmpty
                              · have HF : Hid (Tr.check l = 1) := by show _ = _; rw [HV.out, HD.out, HW.out, HE.out, HLo.out, g2]; simp
                                unfold Tr.between at g1
                                clear HE HD HV HW HLo HRo HA3 HLn
                                go_wp2_with (go_at_call 25; refine (between_any _ _ _ _).mono ?_; rintro e w' ⟨rfl, rfl⟩)
                                go_ret
                                exact ⟨ret_int HF.out.symm, hbel5⟩
                              · cases g3 : ((x.terms.length : Int) == 3)
                                · have HF : Hid (Tr.check l = 1) := by show _ = _; rw [HV.out, HD.out, HW.out, HE.out, HLo.out, g3]; simp
                                  unfold Tr.between at g1
                                  clear HE HD HV HW HLo HRo HA3 HLn
                                  go_wp2_with (go_at_call 25; refine (between_any _ _ _ _).mono ?_; rintro e w' ⟨rfl, rfl⟩)
                                  go_ret
                                  exact ⟨ret_int HF.out.symm, hbel5⟩
                                · have HN : Hid (Tr.litsOk r.body = (r.body.drop (j + 1)).all Tr.litOk) := by show _ = _; rw [HE.out, HLo.out, gT, g1, g2, g3]; simp
                                  unfold Tr.between at g1
                                  clear HE HLo
                                  go_wp2_with (go_at_call 25; refine (between_any _ _ _ _).mono ?_; rintro e w' ⟨rfl, rfl⟩)
                                  go_roundw
                                  case rel => exact ⟨j + 1, by omega, by go_num, HN.out, hbel5q⟩
                                  case measure => simp [intOf]; omega
                          · have t1 : (x.kind == 1) = false := beq_eq_false_iff_ne.2 hk.1
                            have t2 : (x.kind == 2) = false := beq_eq_false_iff_ne.2 hk.2.1
                            have t3 : (x.kind == 3) = false := beq_eq_false_iff_ne.2 hk.2.2.1
                            have t4 : (x.kind == 4) = false := beq_eq_false_iff_ne.2 hk.2.2.2
                            have HLo : Hid (Tr.litOk x = (Tr.termsOk x.terms && false)) := litOk_5 x hk
                            clear hk
                            have HF : Hid (Tr.check l = 1) := by show _ = _; rw [HV.out, HD.out, HW.out, HE.out, HLo.out]; simp
                            clear HE HD HV HW HLo HRo HA3 HLn
                            go_wp2_with fail
                            go_ret
                            exact ⟨ret_int HF.out.symm, hbel5⟩
                      · have HN : Hid (l.all Tr.ruleOk = (l.drop (k + 1)).all Tr.ruleOk) := by
                          show _ = _
                          rw [HD.out, HW.out, HB.out, List.drop_of_length_le (by omega)]
                          rfl
                        have hbelr4 := hbelr3.trans (hbelq.mono hbelr3.size)
                        clear HB HD HW hL3 hA1 HA3 HRo
                        go_wp2_with fail
                        go_roundw
                        case rel => exact ⟨k + 1, by omega, by go_num, HN.out, hbelr4⟩
                        case measure => simp [intOf]; omega
                  · go_wp2_with (go_at_call 25; refine (between_any _ _ _ _).mono ?_; rintro e w3 ⟨rfl, rfl⟩)
                    clear hb hp gf gt gn
                    go_loopw [8] (fun i wq => ∃ j : Nat, j ≤ r.body.length ∧ i = .int .i64 j ∧ Tr.litsOk r.body = (r.body.drop j).all Tr.litOk ∧ Below w3.heap.size w3 wq) (fun i _ => r.body.length - (intOf i).toNat)
                    case atStart => exact ⟨0, Nat.zero_le _, rfl, rfl, Below.refl _ _⟩
                    case round =>
                      obtain ⟨j, hj, rfl, hall, hbelq⟩ := hrel
                      have HB : Hid (Tr.litsOk r.body = (r.body.drop j).all Tr.litOk) := hall
                      have z4' := cell_below hbelq z4
                      clear hall
                      by_cases hltj : j < r.body.length
                      · obtain ⟨bo', cb', hv, hL⟩ := litsV_below hL3 hbelq
                        rcases hL with h | ⟨b2, off2, rfl, hc⟩
                        · rw [h] at hltj; exact absurd hltj (by simp)
                        injection hv with e1 _ e3
                        subst e1 e3
                        obtain ⟨q0, q1, q2, q3, u4, q4, hT⟩ := hc j hltj
                        have HE : Hid (Tr.litsOk r.body = (Tr.litOk (Tr.litD r.body j) && (r.body.drop (j + 1)).all Tr.litOk)) := HB.out.trans (all_drop _ _ _ j hltj)
                        have hfit := f3 j hltj
                        clear hc HB hL3 hA1
                        generalize Tr.litD r.body j = x at *
                        have HC : Hid (_) := areTerms_any x.terms u4 (wr.alloc (litObj x u4)) hfit (termsV_below hT (below_alloc _ _))
                        obtain ⟨ao5, ca5, rfl, _⟩ := hT
                        go_wp2_with fail
                        refine Calls.mono HC.out ?_
                        rintro e w5 ⟨he, hb5⟩
                        obtain ⟨y0, y1, y2, y3, y4⟩ := litBox hb5
                        have hbel5q := hbelq.trans ((below_box hb5).mono hbelq.size)
                        have hbel5 := hbel3.trans (hbel5q.mono hbel3.size)
                        clear HC hb5 q0 q1 q2 q3 q4
                        cases gT : Tr.termsOk x.terms
                        · rw [gT] at he
                          subst he
                          rcases lit_kinds x with hk | hk | hk | hk | hk
                          · have t1 : (x.kind == 1) = true := beq_iff_eq.2 hk
                            have HLo : Hid (Tr.litOk x = (Tr.termsOk x.terms && ((x.op == 0) && Tr.isName x.name))) := litOk_1 x (.inl hk)
                            clear hk
                            have HF : Hid (Tr.check l = 1) := by show _ = _; rw [HV.out, HD.out, HW.out, HE.out, HLo.out, gT]; simp
                            clear HE HD HV HW HLo HRo HA3 HLn
                            go_wp2_with fail
                            go_ret
                            exact ⟨ret_int HF.out.symm, hbel5⟩
                          · have t1 : (x.kind == 1) = false := beq_eq_false_iff_ne.2 (by omega)
                            have t2 : (x.kind == 2) = true := beq_iff_eq.2 hk
                            have HLo : Hid (Tr.litOk x = (Tr.termsOk x.terms && ((x.op == 0) && Tr.isName x.name))) := litOk_1 x (.inr hk)
                            clear hk
                            have HF : Hid (Tr.check l = 1) := by show _ = _; rw [HV.out, HD.out, HW.out, HE.out, HLo.out, gT]; simp
                            clear HE HD HV HW HLo HRo HA3 HLn
                            go_wp2_with fail
                            go_ret
                            exact ⟨ret_int HF.out.symm, hbel5⟩
                          · have t1 : (x.kind == 1) = false := beq_eq_false_iff_ne.2 (by omega)
                            have t2 : (x.kind == 2) = false := beq_eq_false_iff_ne.2 (by omega)
                            have t3 : (x.kind == 3) = true := beq_iff_eq.2 hk
                            have HLo : Hid (Tr.litOk x = (Tr.termsOk x.terms && (Tr.between x.op 1 4 && x.name.isEmpty && ((x.terms.length : Int) == 2)))) := litOk_3 x hk
                            clear hk
                            have HF : Hid (Tr.check l = 1) := by show _ = _; rw [HV.out, HD.out, HW.out, HE.out, HLo.out, gT]; simp
                            clear HE HD HV HW HLo HRo HA3 HLn
                            go_wp2_with fail
                            go_ret
                            exact ⟨ret_int HF.out.symm, hbel5⟩
                          · have t1 : (x.kind == 1) = false := beq_eq_false_iff_ne.2 (by omega)
                            have t2 : (x.kind == 2) = false := beq_eq_false_iff_ne.2 (by omega)
                            have t3 : (x.kind == 3) = false := beq_eq_false_iff_ne.2 (by omega)
                            have t4 : (x.kind == 4) = true := beq_iff_eq.2 hk
                            have HLo : Hid (Tr.litOk x = (Tr.termsOk x.terms && (Tr.between x.op 5 7 && x.name.isEmpty && ((x.terms.length : Int) == 3)))) := litOk_4 x hk
                            clear hk
                            have HF : Hid (Tr.check l = 1) := by show _ = _; rw [HV.out, HD.out, HW.out, HE.out, HLo.out, gT]; simp
                            clear HE HD HV HW HLo HRo HA3 HLn
                            go_wp2_with fail
                            go_ret
                            exact ⟨ret_int HF.out.symm, hbel5⟩
                          · have t1 : (x.kind == 1) = false := beq_eq_false_iff_ne.2 hk.1
                            have t2 : (x.kind == 2) = false := beq_eq_false_iff_ne.2 hk.2.1
                            have t3 : (x.kind == 3) = false := beq_eq_false_iff_ne.2 hk.2.2.1
                            have t4 : (x.kind == 4) = false := beq_eq_false_iff_ne.2 hk.2.2.2
                            have HLo : Hid (Tr.litOk x = (Tr.termsOk x.terms && false)) := litOk_5 x hk
                            clear hk
                            have HF : Hid (Tr.check l = 1) := by show _ = _; rw [HV.out, HD.out, HW.out, HE.out, HLo.out]; simp
                            clear HE HD HV HW HLo HRo HA3 HLn
                            go_wp2_with fail
                            go_ret
                            exact ⟨ret_int HF.out.symm, hbel5⟩
                        · rw [gT] at he
                          subst he
                          rcases lit_kinds x with hk | hk | hk | hk | hk
                          · have t1 : (x.kind == 1) = true := beq_iff_eq.2 hk
                            have HLo : Hid (Tr.litOk x = (Tr.termsOk x.terms && ((x.op == 0) && Tr.isName x.name))) := litOk_1 x (.inl hk)
                            clear hk
                            cases g1 : (x.op == 0)
                            · have HF : Hid (Tr.check l = 1) := by show _ = _; rw [HV.out, HD.out, HW.out, HE.out, HLo.out, g1]; simp
                              clear HE HD HV HW HLo HRo HA3 HLn
                              go_wp2_with fail
                              go_ret
                              exact ⟨ret_int HF.out.symm, hbel5⟩
                            · cases g2 : Tr.isName x.name
                              · have HF : Hid (Tr.check l = 1) := by show _ = _; rw [HV.out, HD.out, HW.out, HE.out, HLo.out, g2]; simp
                                clear HE HD HV HW HLo HRo HA3 HLn
                                go_wp2_with (go_at_call 23; refine (refName_any _ _).mono ?_; rintro e w' ⟨rfl, rfl⟩)
                                go_ret
                                exact ⟨ret_int HF.out.symm, hbel5⟩
                              · have HN : Hid (Tr.litsOk r.body = (r.body.drop (j + 1)).all Tr.litOk) := by show _ = _; rw [HE.out, HLo.out, gT, g1, g2]; simp
                                clear HE HLo
                                go_wp2_with (go_at_call 23; refine (refName_any _ _).mono ?_; rintro e w' ⟨rfl, rfl⟩)
                                go_roundw
                                case rel => exact ⟨j + 1, by omega, by go_num, HN.out, hbel5q⟩
                                case measure => simp [intOf]; omega
                          · have t1 : (x.kind == 1) = false := beq_eq_false_iff_ne.2 (by omega)
                            have t2 : (x.kind == 2) = true := beq_iff_eq.2 hk
                            have HLo : Hid (Tr.litOk x = (Tr.termsOk x.terms && ((x.op == 0) && Tr.isName x.name))) := litOk_1 x (.inr hk)
                            clear hk
                            cases g1 : (x.op == 0)
                            · have HF : Hid (Tr.check l = 1) := by show _ = _; rw [HV.out, HD.out, HW.out, HE.out, HLo.out, g1]; simp
                              clear HE HD HV HW HLo HRo HA3 HLn
                              go_wp2_with fail
                              go_ret
                              exact ⟨ret_int HF.out.symm, hbel5⟩
                            · cases g2 : Tr.isName x.name
                              · have HF : Hid (Tr.check l = 1) := by show _ = _; rw [HV.out, HD.out, HW.out, HE.out, HLo.out, g2]; simp
                                clear HE HD HV HW HLo HRo HA3 HLn
                                go_wp2_with (go_at_call 23; refine (refName_any _ _).mono ?_; rintro e w' ⟨rfl, rfl⟩)
                                go_ret
                                exact ⟨ret_int HF.out.symm, hbel5⟩
                              · have HN : Hid (Tr.litsOk r.body = (r.body.drop (j + 1)).all Tr.litOk) := by show _ = _; rw [HE.out, HLo.out, gT, g1, g2]; simp
                                clear HE HLo
                                go_wp2_with (go_at_call 23; refine (refName_any _ _).mono ?_; rintro e w' ⟨rfl, rfl⟩)
                                go_roundw
                                case rel => exact ⟨j + 1, by omega, by go_num, HN.out, hbel5q⟩
                                case measure => simp [intOf]; omega
                          · have t1 : (x.kind == 1) = false := beq_eq_false_iff_ne.2 (by omega)
                            have t2 : (x.kind == 2) = false := beq_eq_false_iff_ne.2 (by omega)
                            have t3 : (x.kind == 3) = true := beq_iff_eq.2 hk
                            have HLo : Hid (Tr.litOk x = (Tr.termsOk x.terms && (Tr.between x.op 1 4 && x.name.isEmpty && ((x.terms.length : Int) == 2)))) := litOk_3 x hk
                            clear hk
                            cases g1 : Tr.between x.op 1 4
                            · have HF : Hid (Tr.check l = 1) := by show _ = _; rw [HV.out, HD.out, HW.out, HE.out, HLo.out, g1]; simp
                              unfold Tr.between at g1
                              clear HE HD HV HW HLo HRo HA3 HLn
                              go_wp2_with (go_at_call 25; refine (between_any _ _ _ _).mono ?_; rintro e w' ⟨rfl, rfl⟩)
                              go_ret
                              exact ⟨ret_int HF.out.symm, hbel5⟩
                            · cases g2 : x.name.isEmpty
                              · have HF : Hid (Tr.check l = 1) := by show _ = _; rw [HV.out, HD.out, HW.out, HE.out, HLo.out, g2]; simp
                                unfold Tr.between at g1
                                clear HE HD HV HW HLo HRo HA3 HLn
                                go_wp2_with (go_at_call 25; refine (between_any _ _ _ _).mono ?_; rintro e w' ⟨rfl, rfl⟩)
                                go_ret
                                exact ⟨ret_int HF.out.symm, hbel5⟩
                              · cases g3 : ((x.terms.length : Int) == 2)
                                · have HF : Hid (Tr.check l = 1) := by show _ = _; rw [HV.out, HD.out, HW.out, HE.out, HLo.out, g3]; simp
                                  unfold Tr.between at g1
                                  clear HE HD HV HW HLo HRo HA3 HLn
                                  go_wp2_with (go_at_call 25; refine (between_any _ _ _ _).mono ?_; rintro e w' ⟨rfl, rfl⟩)
                                  go_ret
                                  exact ⟨ret_int HF.out.symm, hbel5⟩
                                · have HN : Hid (Tr.litsOk r.body = (r.body.drop (j + 1)).all Tr.litOk) := by show _ = _; rw [HE.out, HLo.out, gT, g1, g2, g3]; simp
                                  unfold Tr.between at g1
                                  clear HE HLo
                                  go_wp2_with (go_at_call 25; refine (between_any _ _ _ _).mono ?_; rintro e w' ⟨rfl, rfl⟩)
                                  go_roundw
                                  case rel => exact ⟨j + 1, by omega, by go_num, HN.out, hbel5q⟩
                                  case measure => simp [intOf]; omega
                          · have t1 : (x.kind == 1) = false := beq_eq_false_iff_ne.2 (by omega)
                            have t2 : (x.kind == 2) = false := beq_eq_false_iff_ne.2 (by omega)
                            have t3 : (x.kind == 3) = false := beq_eq_false_iff_ne.2 (by omega)
                            have t4 : (x.kind == 4) = true := beq_iff_eq.2 hk
                            have HLo : Hid (Tr.litOk x = (Tr.termsOk x.terms && (Tr.between x.op 5 7 && x.name.isEmpty && ((x.terms.length : Int) == 3)))) := litOk_4 x hk
                            clear hk
                            cases g1 : Tr.between x.op 5 7
                            · have HF : Hid (Tr.check l = 1) := by show _ = _; rw [HV.out, HD.out, HW.out, HE.out, HLo.out, g1]; simp
                              unfold Tr.between at g1
                              clear HE HD HV HW HLo HRo HA3 HLn
                              go_wp2_with (go_at_call 25; refine (between_any _ _ _ _).mono ?_; rintro e w' ⟨rfl, rfl⟩)
                              go_ret
                              exact ⟨ret_int HF.out.symm, hbel5⟩
                            · cases g2 : x.name.isEmpty
                              · have HF : Hid (Tr.check l = 1) := by show _ = _; rw [HV.out, HD.out, HW.out, HE.out, HLo.out, g2]; simp
                                unfold Tr.between at g1
                                clear HE HD HV HW HLo HRo HA3 HLn
                                go_wp2_with (go_at_call 25; refine (between_any _ _ _ _).mono ?_; rintro e w' ⟨rfl, rfl⟩)
                                go_ret
                                exact ⟨ret_int HF.out.symm, hbel5⟩
                              · cases g3 : ((x.terms.length : Int) == 3)
                                · have HF : Hid (Tr.check l = 1) := by show _ = _; rw [HV.out, HD.out, HW.out, HE.out, HLo.out, g3]; simp
                                  unfold Tr.between at g1
                                  clear HE HD HV HW HLo HRo HA3 HLn
                                  go_wp2_with (go_at_call 25; refine (between_any _ _ _ _).mono ?_; rintro e w' ⟨rfl, rfl⟩)
                                  go_ret
                                  exact ⟨ret_int HF.out.symm, hbel5⟩
                                · have HN : Hid (Tr.litsOk r.body = (r.body.drop (j + 1)).all Tr.litOk) := by show _ = _; rw [HE.out, HLo.out, gT, g1, g2, g3]; simp
                                  unfold Tr.between at g1
                                  clear HE HLo
                                  go_wp2_with (go_at_call 25; refine (between_any _ _ _ _).mono ?_; rintro e w' ⟨rfl, rfl⟩)
                                  go_roundw
                                  case rel => exact ⟨j + 1, by omega, by go_num, HN.out, hbel5q⟩
                                  case measure => simp [intOf]; omega
                          · have t1 : (x.kind == 1) = false := beq_eq_false_iff_ne.2 hk.1
                            have t2 : (x.kind == 2) = false := beq_eq_false_iff_ne.2 hk.2.1
                            have t3 : (x.kind == 3) = false := beq_eq_false_iff_ne.2 hk.2.2.1
                            have t4 : (x.kind == 4) = false := beq_eq_false_iff_ne.2 hk.2.2.2
                            have HLo : Hid (Tr.litOk x = (Tr.termsOk x.terms && false)) := litOk_5 x hk
                            clear hk
                            have HF : Hid (Tr.check l = 1) := by show _ = _; rw [HV.out, HD.out, HW.out, HE.out, HLo.out]; simp
                            clear HE HD HV HW HLo HRo HA3 HLn
                            go_wp2_with fail
                            go_ret
                            exact ⟨ret_int HF.out.symm, hbel5⟩
                      · have HN : Hid (l.all Tr.ruleOk = (l.drop (k + 1)).all Tr.ruleOk) := by
                          show _ = _
                          rw [HD.out, HW.out, HB.out, List.drop_of_length_le (by omega)]
                          rfl
                        have hbelr4 := hbelr3.trans (hbelq.mono hbelr3.size)
                        clear HB HD HW hL3 hA1 HA3 HRo
                        go_wp2_with fail
                        go_roundw
                        case rel => exact ⟨k + 1, by omega, by go_num, HN.out, hbelr4⟩
                        case measure => simp [intOf]; omega
          · have HF : Hid (Tr.check l = 0) := by show _ = _; rw [HV.out, HA3.out, List.drop_of_length_le (by omega)]; rfl
            have hbel4 := hbel1.trans (hbelr.mono hbel1.size)
            clear hA1 HA3 HV
            go_wp2_with fail
            go_ret
            exact ⟨ret_int HF.out.symm, hbel4⟩

end Go.Proofs.YtjbfbbhaagkagaaGreatDoor

/- TreeChecks: the walk of the statement's function. -/
namespace Go.Proofs.YtjbfbbhaagkagaaGreatDoor
open Go.RowKit

set_option maxRecDepth 100000 in
set_option maxHeartbeats 1000000 in
theorem law_checks (l : List Tr.Rule) (w : World) (v : Value) (hA : RulesV w v l) :
    Calls Tryz.prog 4 #[treeVal v] w fun e w' => e = .returned (.bool true) ∧ Below w.heap.size w w' := by
  have HC : Hid (∀ w, RulesV w v l → _) := fun w h => Check_any l v w h
  have HT : Hid (∀ w, RulesV w v l → _) := fun w h => CheckTree_any l v w h
  obtain ⟨ao, cap, rfl, hA'⟩ := hA
  have hA : RulesV w (.slice ao l.length cap) l := ⟨ao, cap, rfl, hA'⟩
  have hA0 := rulesV_below hA ((Below.refl _ _).alloc (Nat.le_refl _) (.cells #[.slice ao l.length cap] 24))
  clear hA'
  have hsz0 : w.heap.size < (w.alloc (.cells #[.slice ao l.length cap] 24)).drew.heap.size := by simp [World.drew]
  have hbk0 : (w.alloc (.cells #[.slice ao l.length cap] 24)).drew.heap[w.heap.size]? = some (.cells #[.slice ao l.length cap] 24) := heap_alloc_new w _
  replace hA0 : RulesV (w.alloc (.cells #[.slice ao l.length cap] 24)).drew (.slice ao l.length cap) l := hA0
  have hb0 : Below w.heap.size w (w.alloc (.cells #[.slice ao l.length cap] 24)).drew := ((Below.refl _ _).alloc (Nat.le_refl _) _).drew
  unfold treeVal at *
  go_enter Tryz.func4, Tryz.ntmps4
  go_wp2_with fail
  go_region_law (first
    | (go_simp; go_at_call 7; refine Calls.mono (treeBegun_any _) ?_; rintro e y1 ⟨rfl, hb1⟩; have hA1 := rulesV_below hA0 hb1; have htr := (hb1.block _ hsz0).trans hbk0; have hbel1 := hb0.trans (hb1.mono (Nat.le_of_lt hsz0)); obtain ⟨c1, f1⟩ := tree_cell htr; dsimp only)
    | (go_simp; go_at_call 9; refine Calls.mono (HC.out _ hA1) ?_; rintro e y2 ⟨rfl, hb2⟩; have hA2 := rulesV_below hA1 hb2; have hbel2 := hbel1.trans (hb2.mono hbel1.size); obtain ⟨c2, f2⟩ := tree_cell ((hb2.block _ (heap_lt htr)).trans htr); dsimp only)
    | (go_simp; go_at_call 10; refine Calls.mono (HT.out _ hA2) ?_; rintro e y3 ⟨rfl, hb3⟩; have hbel3 := hbel2.trans (hb3.mono hbel2.size); dsimp only))
  all_goals go_wp2_with fail
  all_goals go_ret
  all_goals exact ⟨rfl, hbel3⟩

end Go.Proofs.YtjbfbbhaagkagaaGreatDoor

/- A tree that came in, read out of memory. -/
namespace Go.Proofs.YtjbfbbhaagkagaaGreatDoor
open Go.RowKit

theorem A_cells24 : Tryz.prog.cellsOf 24 = 1 := by kernel_rfl
theorem A_cells22 : Tryz.prog.cellsOf 22 = 1 := by kernel_rfl
theorem A_cells40 : Tryz.prog.cellsOf 40 = 1 := by kernel_rfl
theorem A_cells41 : Tryz.prog.cellsOf 41 = 1 := by kernel_rfl
theorem A_cells43 : Tryz.prog.cellsOf 43 = 5 := by kernel_rfl
theorem A_cells49 : Tryz.prog.cellsOf 49 = 5 := by kernel_rfl
theorem A_cells71 : Tryz.prog.cellsOf 71 = 2 := by kernel_rfl
theorem A_cells3 : Tryz.prog.cellsOf 3 = 1 := by kernel_rfl
theorem A_cells9 : Tryz.prog.cellsOf 9 = 1 := by kernel_rfl

theorem list2 {l : List Value} (h : l.length = 2) : ∃ a b, l = [a, b] := by
  match l, h with
  | [a, b], _ => exact ⟨a, b, rfl⟩
theorem list5 {l : List Value} (h : l.length = 5) : ∃ a b c d e, l = [a, b, c, d, e] := by
  match l, h with
  | [a, b, c, d, e], _ => exact ⟨a, b, c, d, e, rfl⟩

section
variable {H : Type} {enc : TypeId × Value → H} {w : World} {base : Nat} {spare : Nat → Bool} {held : Bool}

/-- A slice whose elements can be read. -/
theorem open_row {α : Type} {st e : TypeId} {k : Nat} (ht : Tryz.prog.underlying st = some (.slice e)) (hk : Tryz.prog.cellsOf e = k) (hk0 : 0 < k) (d : α) (In : Nat → Nat → α → Prop)
    (el : ∀ n cs' y b off, cs'.length = k → (∀ j, j < k → w.cell? ⟨b, off + j, none⟩ = cs'[j]?) → DataW.trod enc Tryz.prog w base spare held n e cs' = some y → ∃ a, In b off a)
    {fuel : Nat} {v : Value} {x : DataW H × List MemPlace} (h : DataW.trod enc Tryz.prog w base spare held fuel st [v] = some x) :
    ∃ (ao : Option Addr) (l : List α) (cap : Nat), v = .slice ao l.length cap ∧ (l = [] ∨ ∃ b off, ao = some ⟨b, off, none⟩ ∧ ∀ i, i < l.length → In b (off + i * k) (l.getD i d)) := by
  haveI : Inhabited α := ⟨d⟩
  rcases Deep.open_slice ht h with ⟨hv, _⟩ | ⟨a, len, cap, m, n, D, Pl, hv, hb, hl, hm, hmm, hx, hel⟩
  · have hv' : v = .slice none 0 0 := by simpa using hv
    exact ⟨none, [], 0, hv', .inl rfl⟩
  · have hv' : v = .slice (some a) len cap := by simpa using hv
    have hlm : len ≤ m := by rw [hmm]; split <;> omega
    by_cases h0 : len = 0
    · subst h0
      exact ⟨some a, [], cap, hv', .inl rfl⟩
    · obtain ⟨b, off, spot⟩ := a
      have hspot : spot = none := by
        obtain ⟨cs', h1, _⟩ := hel 0 (by omega)
        rw [hk] at h1
        obtain ⟨_, hlen, hcell⟩ := World.cells?_some h1
        have hc := hcell 0 hk0
        cases hcs : cs'[0]? with
        | none => rw [List.getElem?_eq_none_iff] at hcs; omega
        | some u =>
          rw [hcs] at hc
          simpa [Addr.add] using World.cell?_spot hc
      subst hspot
      have each : ∀ i, i < len → ∃ q : α, In b (off + i * k) q := by
        intro i hi
        obtain ⟨cs', h1, h2⟩ := hel i (by omega)
        rw [hk] at h1
        obtain ⟨_, hlen, hcell⟩ := World.cells?_some h1
        refine el n cs' _ b (off + i * k) hlen (fun j hj => ?_) h2
        have := hcell j hj
        rw [Deep.add_add, WideShapes.add_plain] at this
        rw [← this, Nat.add_assoc]
      obtain ⟨q, hq⟩ := Deep.choose_lt each
      refine ⟨some ⟨b, off, none⟩, (List.range len).map q, cap, by rw [hv']; simp, .inr ⟨b, off, rfl, fun i hi => ?_⟩⟩
      have hi' : i < len := by simpa using hi
      have ht : ((List.range len).map q).getD i d = q i := by
        rw [List.getD_eq_getElem?_getD, List.getElem?_map, List.getElem?_range hi']
        rfl
      rw [ht]
      exact hq i hi'

theorem trod_struct1 {t : TypeId} {f0 : Field} {fuel : Nat} {cs : List Value} {x : DataW H × List MemPlace} (ht : Tryz.prog.underlying t = some (.struct #[f0])) (h : DataW.trod enc Tryz.prog w base spare held fuel t cs = some x) :
    ∃ y0 n, cs.length = Tryz.prog.cellsOf t ∧ DataW.trod enc Tryz.prog w base spare held n f0.type ((cs.drop f0.offset).take (Tryz.prog.cellsOf f0.type)) = some y0 := by
  obtain ⟨xs, n, _, rfl, hl, hlen, hf⟩ := DataW.trod_struct ht h
  match xs, hlen with
  | [y0], _ => exact ⟨y0, n, hl, by simpa using hf 0 f0 rfl⟩
theorem trod_struct2 {t : TypeId} {f0 f1 : Field} {fuel : Nat} {cs : List Value} {x : DataW H × List MemPlace} (ht : Tryz.prog.underlying t = some (.struct #[f0, f1])) (h : DataW.trod enc Tryz.prog w base spare held fuel t cs = some x) :
    ∃ y0 y1 n, cs.length = Tryz.prog.cellsOf t ∧ DataW.trod enc Tryz.prog w base spare held n f0.type ((cs.drop f0.offset).take (Tryz.prog.cellsOf f0.type)) = some y0 ∧
      DataW.trod enc Tryz.prog w base spare held n f1.type ((cs.drop f1.offset).take (Tryz.prog.cellsOf f1.type)) = some y1 := by
  obtain ⟨xs, n, _, rfl, hl, hlen, hf⟩ := DataW.trod_struct ht h
  match xs, hlen with
  | [y0, y1], _ => exact ⟨y0, y1, n, hl, by simpa using hf 0 f0 rfl, by simpa using hf 1 f1 rfl⟩
theorem trod_struct5 {t : TypeId} {f0 f1 f2 f3 f4 : Field} {fuel : Nat} {cs : List Value} {x : DataW H × List MemPlace} (ht : Tryz.prog.underlying t = some (.struct #[f0, f1, f2, f3, f4])) (h : DataW.trod enc Tryz.prog w base spare held fuel t cs = some x) :
    ∃ y0 y1 y2 y3 y4 n, cs.length = Tryz.prog.cellsOf t ∧ DataW.trod enc Tryz.prog w base spare held n f0.type ((cs.drop f0.offset).take (Tryz.prog.cellsOf f0.type)) = some y0 ∧
      DataW.trod enc Tryz.prog w base spare held n f1.type ((cs.drop f1.offset).take (Tryz.prog.cellsOf f1.type)) = some y1 ∧ DataW.trod enc Tryz.prog w base spare held n f2.type ((cs.drop f2.offset).take (Tryz.prog.cellsOf f2.type)) = some y2 ∧
      DataW.trod enc Tryz.prog w base spare held n f3.type ((cs.drop f3.offset).take (Tryz.prog.cellsOf f3.type)) = some y3 ∧ DataW.trod enc Tryz.prog w base spare held n f4.type ((cs.drop f4.offset).take (Tryz.prog.cellsOf f4.type)) = some y4 := by
  obtain ⟨xs, n, _, rfl, hl, hlen, hf⟩ := DataW.trod_struct ht h
  match xs, hlen with
  | [y0, y1, y2, y3, y4], _ => exact ⟨y0, y1, y2, y3, y4, n, hl, by simpa using hf 0 f0 rfl, by simpa using hf 1 f1 rfl, by simpa using hf 2 f2 rfl, by simpa using hf 3 f3 rfl, by simpa using hf 4 f4 rfl⟩

theorem open_terms {fuel : Nat} {v : Value} {x : DataW H × List MemPlace} (h : DataW.trod enc Tryz.prog w base spare held fuel 40 [v] = some x) : ∃ l, TermsV w v l := by
  obtain ⟨ao, l, cap, hv, hl⟩ := open_row Tryz.underlying40 A_cells71 (by decide) (⟨[], 0⟩ : Tr.Term) (TermIn w) (fun n cs' y b off hlen hc h2 => by
    obtain ⟨y0, y1, k, _, g0, g1⟩ := trod_struct2 Tryz.underlying71 h2
    obtain ⟨v0, v1, rfl⟩ := list2 hlen
    simp [A_cells3, A_cells9] at g0 g1
    obtain ⟨k0, e0, _, _⟩ := DataW.trod_string Tryz.underlying9 g0
    obtain ⟨k1, e1, _, _⟩ := DataW.trod_int Tryz.underlying3 g1
    simp at e0 e1
    subst e0 e1
    exact ⟨⟨k0.data.toList, k1⟩, hc 0 (by decide), hc 1 (by decide)⟩) h
  exact ⟨l, ao, cap, hv, hl⟩

theorem open_lits {fuel : Nat} {v : Value} {x : DataW H × List MemPlace} (h : DataW.trod enc Tryz.prog w base spare held fuel 41 [v] = some x) : ∃ l, LitsV w v l := by
  obtain ⟨ao, l, cap, hv, hl⟩ := open_row Tryz.underlying41 A_cells49 (by decide) (⟨0, 0, 0, [], []⟩ : Tr.Lit) (LitIn w) (fun n cs' y b off hlen hc h2 => by
    obtain ⟨y0, y1, y2, y3, y4, k, _, g0, g1, g2, g3, g4⟩ := trod_struct5 Tryz.underlying49 h2
    obtain ⟨v0, v1, v2, v3, v4, rfl⟩ := list5 hlen
    simp [A_cells3, A_cells9, A_cells40] at g0 g1 g2 g3 g4
    obtain ⟨k0, e0, _, _⟩ := DataW.trod_int Tryz.underlying3 g0
    obtain ⟨k1, e1, _, _⟩ := DataW.trod_int Tryz.underlying3 g1
    obtain ⟨k2, e2, _, _⟩ := DataW.trod_int Tryz.underlying3 g2
    obtain ⟨k3, e3, _, _⟩ := DataW.trod_string Tryz.underlying9 g3
    obtain ⟨l, hl⟩ := open_terms g4
    simp at e0 e1 e2 e3
    subst e0 e1 e2 e3
    exact ⟨⟨k0, k1, k2, k3.data.toList, l⟩, hc 0 (by decide), hc 1 (by decide), hc 2 (by decide), hc 3 (by decide), v4, hc 4 (by decide), hl⟩) h
  exact ⟨l, ao, cap, hv, hl⟩

theorem open_rules {fuel : Nat} {v : Value} {x : DataW H × List MemPlace} (h : DataW.trod enc Tryz.prog w base spare held fuel 22 [v] = some x) : ∃ l, RulesV w v l := by
  obtain ⟨ao, l, cap, hv, hl⟩ := open_row Tryz.underlying22 A_cells43 (by decide) (⟨0, [], [], 0, []⟩ : Tr.Rule) (RuleIn w) (fun n cs' y b off hlen hc h2 => by
    obtain ⟨y0, y1, y2, y3, y4, k, _, g0, g1, g2, g3, g4⟩ := trod_struct5 Tryz.underlying43 h2
    obtain ⟨v0, v1, v2, v3, v4, rfl⟩ := list5 hlen
    simp [A_cells3, A_cells9, A_cells40, A_cells41] at g0 g1 g2 g3 g4
    obtain ⟨k0, e0, _, _⟩ := DataW.trod_int Tryz.underlying3 g0
    obtain ⟨k1, e1, _, _⟩ := DataW.trod_string Tryz.underlying9 g1
    obtain ⟨l2, hl2⟩ := open_terms g2
    obtain ⟨k3, e3, _, _⟩ := DataW.trod_int Tryz.underlying3 g3
    obtain ⟨l4, hl4⟩ := open_lits g4
    simp at e0 e1 e3
    subst e0 e1 e3
    exact ⟨⟨k0, k1.data.toList, l2, k3, l4⟩, hc 0 (by decide), hc 1 (by decide), ⟨v2, hc 2 (by decide), hl2⟩, hc 3 (by decide), v4, hc 4 (by decide), hl4⟩) h
  exact ⟨l, ao, cap, hv, hl⟩

theorem open_tree {fuel : Nat} {v : Value} {x : DataW H × List MemPlace} (h : DataW.trod enc Tryz.prog w base spare held fuel 24 [v] = some x) : ∃ l, RulesV w v l := by
  obtain ⟨y0, n, _, g0⟩ := trod_struct1 Tryz.underlying24 h
  exact open_rules (v := v) (by simpa [A_cells22] using g0)
end

end Go.Proofs.YtjbfbbhaagkagaaGreatDoor

/- A world in which the listed variables of the library read as the row says: the witness of the row's condition. -/
namespace Go.Proofs.YtjbfbbhaagkagaaGreatDoor
open Go

/-- It is the settled world, with the listed variables laid. -/
def IsLaid (os : Os) (W : World) : Prop :=
  W = { World.holding Tryz.prog os ⟨#[.cells #[.string ⟨#[118, 97, 108, 117, 101, 32, 111, 117, 116, 32, 111, 102, 32, 114, 97, 110, 103, 101]⟩] 124, .cells #[.string ⟨#[105, 110, 118, 97, 108, 105, 100, 32, 115, 121, 110, 116, 97, 120]⟩] 124], #[], []⟩ with heap := ((((((World.holding Tryz.prog os ⟨#[.cells #[.string ⟨#[118, 97, 108, 117, 101, 32, 111, 117, 116, 32, 111, 102, 32, 114, 97, 110, 103, 101]⟩] 124, .cells #[.string ⟨#[105, 110, 118, 97, 108, 105, 100, 32, 115, 121, 110, 116, 97, 120]⟩] 124], #[], []⟩).heap.modify 4 fun
      | .cells _ t frozen => .cells #[.int .u8 0, .int .u8 1, .int .u8 28, .int .u8 2, .int .u8 29, .int .u8 14, .int .u8 24, .int .u8 3, .int .u8 30, .int .u8 22, .int .u8 20, .int .u8 15, .int .u8 25, .int .u8 17, .int .u8 4, .int .u8 8, .int .u8 31, .int .u8 27, .int .u8 13, .int .u8 23, .int .u8 21, .int .u8 19, .int .u8 16, .int .u8 7, .int .u8 26, .int .u8 12, .int .u8 18, .int .u8 6, .int .u8 11, .int .u8 5, .int .u8 10, .int .u8 9] t frozen
      | o => o).modify 5 fun
      | .cells _ t frozen => .cells #[.int .u8 0, .int .u8 1, .int .u8 56, .int .u8 2, .int .u8 57, .int .u8 49, .int .u8 28, .int .u8 3, .int .u8 61, .int .u8 58, .int .u8 42, .int .u8 50, .int .u8 38, .int .u8 29, .int .u8 17, .int .u8 4, .int .u8 62, .int .u8 47, .int .u8 59, .int .u8 36, .int .u8 45, .int .u8 43, .int .u8 51, .int .u8 22, .int .u8 53, .int .u8 39, .int .u8 33, .int .u8 30, .int .u8 24, .int .u8 18, .int .u8 12, .int .u8 5, .int .u8 63, .int .u8 55, .int .u8 48, .int .u8 27, .int .u8 60, .int .u8 41, .int .u8 37, .int .u8 16, .int .u8 46, .int .u8 35, .int .u8 44, .int .u8 21, .int .u8 52, .int .u8 32, .int .u8 23, .int .u8 11, .int .u8 54, .int .u8 26, .int .u8 40, .int .u8 15, .int .u8 34, .int .u8 20, .int .u8 31, .int .u8 10, .int .u8 25, .int .u8 14, .int .u8 19, .int .u8 9, .int .u8 13, .int .u8 8, .int .u8 7, .int .u8 6] t frozen
      | o => o).modify 3 fun
      | .cells _ t frozen => .cells #[.int .u64 1, .int .u64 10, .int .u64 100, .int .u64 1000, .int .u64 10000, .int .u64 100000, .int .u64 1000000, .int .u64 10000000, .int .u64 100000000, .int .u64 1000000000, .int .u64 10000000000, .int .u64 100000000000, .int .u64 1000000000000, .int .u64 10000000000000, .int .u64 100000000000000, .int .u64 1000000000000000, .int .u64 10000000000000000, .int .u64 100000000000000000, .int .u64 1000000000000000000, .int .u64 10000000000000000000] t frozen
      | o => o).modify 2 fun
      | .cells _ t frozen => .cells #[.iface 122 (.pointer (some ⟨(World.holding Tryz.prog default ⟨#[], #[], []⟩).heap.size + 0, 0, none⟩))] t frozen
      | o => o).modify 1 fun
      | .cells _ t frozen => .cells #[.iface 122 (.pointer (some ⟨(World.holding Tryz.prog default ⟨#[], #[], []⟩).heap.size + 1, 0, none⟩))] t frozen
      | o => o) }
theorem isLaid (os : Os) : ∃ W, IsLaid os W := ⟨_, rfl⟩
set_option maxRecDepth 100000 in
theorem laid_met (os : Os) (W : World) (hW : IsLaid os W) (args : Array Value) : laidMet Tryz.prog Rows.treeChecksRow.laid (W.forCall (fun _ _ => 0) ⟨#[], args, []⟩).memory := by
  cases hW
  exact laidMet_of_run' 8 (by kernel_rfl) (by kernel_rfl)

end Go.Proofs.YtjbfbbhaagkagaaGreatDoor

