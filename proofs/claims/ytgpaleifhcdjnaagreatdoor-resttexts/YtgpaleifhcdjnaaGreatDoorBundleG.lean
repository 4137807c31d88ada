/- Own texts, one behind the other (part 7). -/
import Derived.Test.YtgpaleifhcdjnaaGreatDoorBundleF
import Derived.Test.YtgpaleifhcdjnaaGreatDoorRows
import Derived.Test.YtgpaleifhcdjnaaGreatDoorCards
import Derived.Test.YtgpaleifhcdjnaaGreatDoorTie
/- The document's answer: CheckTree. -/
namespace Go.Proofs.YtgpaleifhcdjnaaGreatDoor
open Go.RowKit

theorem lit_kinds (x : Tr.Lit) : x.kind = 1 ∨ x.kind = 2 ∨ x.kind = 3 ∨ x.kind = 4 ∨ (¬ x.kind = 1 ∧ ¬ x.kind = 2 ∧ ¬ x.kind = 3 ∧ ¬ x.kind = 4) := by omega
theorem litOk_1 (x : Tr.Lit) (h : x.kind = 1 ∨ x.kind = 2) : Tr.litOk x = (Tr.termsOk x.terms && ((x.op == 0) && Tr.isName x.name)) := by
  unfold Tr.litOk; rw [if_pos h]
theorem litOk_3 (x : Tr.Lit) (h : x.kind = 3) : Tr.litOk x = (Tr.termsOk x.terms && (Tr.between x.op 1 4 && x.name.isEmpty && ((x.terms.length : Int) == 2))) := by
  unfold Tr.litOk; rw [if_neg (by omega), if_pos h]
theorem litOk_4 (x : Tr.Lit) (h : x.kind = 4) : Tr.litOk x = (Tr.termsOk x.terms && (Tr.between x.op 5 7 && x.name.isEmpty && ((x.terms.length : Int) == 3))) := by
  unfold Tr.litOk; rw [if_neg (by omega), if_neg (by omega), if_pos h]
theorem litOk_5 (x : Tr.Lit) (h : ¬ x.kind = 1 ∧ ¬ x.kind = 2 ∧ ¬ x.kind = 3 ∧ ¬ x.kind = 4) : Tr.litOk x = (Tr.termsOk x.terms && false) := by
  unfold Tr.litOk; rw [if_neg (by omega), if_neg (by omega), if_neg (by omega)]

theorem foldOk_no {f : Int} {a b : Nat} (h : Tr.foldOk f a b = false) :
    (decide (0 ≤ f) && decide (f ≤ 4)) = false ∨ ((decide (0 ≤ f) && decide (f ≤ 4)) = true ∧ decide ((0 : Int) < f) = true ∧ ((a : Int) == 0) = true) ∨
    ((decide (0 ≤ f) && decide (f ≤ 4)) = true ∧ decide ((0 : Int) < f) = true ∧ ((a : Int) == 0) = false ∧ ((b : Int) == 0) = true) := by
  unfold Tr.foldOk Tr.between at h
  simp only [Bool.or_eq_false_iff, beq_eq_false_iff_ne, Bool.and_eq_false_iff, decide_eq_false_iff_not] at h
  obtain ⟨h0, h1⟩ := h
  by_cases hb : 0 ≤ f ∧ f ≤ 4
  · have e1 : (decide (0 ≤ f) && decide (f ≤ 4)) = true := by simp [hb.1, hb.2]
    have e2 : decide ((0 : Int) < f) = true := decide_eq_true (by omega)
    by_cases ha : a = 0
    · exact .inr (.inl ⟨e1, e2, beq_iff_eq.2 (by omega)⟩)
    · exact .inr (.inr ⟨e1, e2, beq_eq_false_iff_ne.2 (by omega), beq_iff_eq.2 (by omega)⟩)
  · left
    simp only [Bool.and_eq_false_iff, decide_eq_false_iff_not]
    omega
theorem foldOk_yes {f : Int} {a b : Nat} (h : Tr.foldOk f a b = true) :
    ((decide (0 ≤ f) && decide (f ≤ 4)) = true ∧ decide ((0 : Int) < f) = false) ∨
    ((decide (0 ≤ f) && decide (f ≤ 4)) = true ∧ decide ((0 : Int) < f) = true ∧ ((a : Int) == 0) = false ∧ ((b : Int) == 0) = false) := by
  unfold Tr.foldOk Tr.between at h
  simp only [Bool.or_eq_true, beq_iff_eq, Bool.and_eq_true, decide_eq_true_eq] at h
  rcases h with h | ⟨⟨⟨h1, h2⟩, h3⟩, h4⟩
  · exact .inl ⟨by subst h; rfl, decide_eq_false (by omega)⟩
  · exact .inr ⟨by simp; omega, decide_eq_true (by omega), beq_eq_false_iff_ne.2 (by omega), beq_eq_false_iff_ne.2 (by omega)⟩

theorem many_no {l : List Tr.Rule} (h : Tr.many l = false) : ∀ k, k < l.length → Tr.ruleMany (Tr.ruleD l k) = false := fun k hk => by
  unfold Tr.many at h
  simp only [Bool.or_eq_false_iff] at h
  have e : Tr.ruleD l k = l[k] := by rw [Tr.ruleD, List.getD_eq_getElem?_getD, List.getElem?_eq_getElem hk]; rfl
  rw [e]
  have := List.any_eq_false.1 h.2 _ (List.getElem_mem hk)
  simpa using this

set_option maxRecDepth 100000 in
set_option maxHeartbeats 8000000 in
theorem CheckTree_any (l : List Tr.Rule) (v : Value) (w : World) (hA : RulesV w v l) :
    Calls Tryz.prog 43 #[treeVal v] w fun e w' => e = .returned (.int .i64 (Tr.check l)) ∧ Below w.heap.size w w' := by
  have hA0 := rulesV_below hA (below_alloc w (.cells #[v] 36))
  have hbel0 := below_alloc w (.cells #[v] 36)
  obtain ⟨ao, ca, rfl, _⟩ := hA
  by_cases h12 : 12 < l.length
  · have HF : Hid (Tr.check l = 2) := by show _ = _; unfold Tr.check Tr.many; rw [decide_eq_true h12]; rfl
    go_enter Tryz.func43, Tryz.ntmps43
    go_wp2_with fail
    go_ret
    exact ⟨ret_int HF.out.symm, hbel0⟩
  · have HMa : Hid (Tr.many l = l.any Tr.ruleMany) := by show _ = _; unfold Tr.many; rw [decide_eq_false h12]; rfl
    have c0 : (w.alloc (.cells #[.slice ao l.length ca] 36)).cell? ⟨w.heap.size, 0, none⟩ = some (.slice ao l.length ca) := by simp [go_sem]
    go_enter Tryz.func43, Tryz.ntmps43
    go_wp2_with fail
    generalize (w.alloc (.cells #[.slice ao l.length ca] 36)) = w0 at *
    go_loopw [3] (fun i wr => ∃ k : Nat, k ≤ l.length ∧ i = .int .i64 k ∧ Tr.many l = (l.drop k).any Tr.ruleMany ∧ Below w0.heap.size w0 wr) (fun i _ => l.length - (intOf i).toNat)
    case atStart => exact ⟨0, Nat.zero_le _, rfl, HMa.out, Below.refl _ _⟩
    case round =>
      obtain ⟨k, hk, rfl, hany, hbelr⟩ := hrel
      have HA : Hid (Tr.many l = (l.drop k).any Tr.ruleMany) := hany
      have c1 := cell_below hbelr c0
      clear hany HMa
      by_cases hlt : k < l.length
      · obtain ⟨ao', ca', hv, hR⟩ := rulesV_below hA0 hbelr
        rcases hR with h | ⟨b, off, rfl, hc⟩
        · rw [h] at hlt; exact absurd hlt (by simp)
        injection hv with e1 _ e3
        subst e1 e3
        obtain ⟨a0, a1, ⟨v2, a2, hT⟩, a3, v4, a4, hL⟩ := hc k hlt
        have HD : Hid (Tr.many l = (Tr.ruleMany (Tr.ruleD l k) || (l.drop (k + 1)).any Tr.ruleMany)) := HA.out.trans (any_drop _ _ _ k hlt)
        clear hc HA
        generalize Tr.ruleD l k = r at *
        have hL0 := litsV_below hL (below_alloc wr (ruleObj r v2 v4))
        have hbel1 : Below w.heap.size w (wr.alloc (ruleObj r v2 v4)) := (hbel0.trans (hbelr.mono hbel0.size)).trans ((below_alloc wr _).mono (hbel0.trans (hbelr.mono hbel0.size)).size)
        have hbelr1 : Below w0.heap.size w0 (wr.alloc (ruleObj r v2 v4)) := hbelr.trans ((below_alloc wr _).mono hbelr.size)
        obtain ⟨ao2, ca2, rfl, _⟩ := hT
        obtain ⟨ao4, ca4, rfl, _⟩ := hL
        have d4 : (wr.alloc (ruleObj r (.slice ao2 r.terms.length ca2) (.slice ao4 r.body.length ca4))).cell? ⟨wr.heap.size, 4, none⟩ = some (.slice ao4 r.body.length ca4) := by simp [go_sem]
        by_cases h3 : 3 < r.terms.length
        rotate_left
        · have g2 : decide ((3 : Int) < (r.terms.length : Int)) = false := decide_eq_false (by omega)
          by_cases h4 : 4 < r.body.length
          rotate_left
          · have g1 : decide ((4 : Int) < (r.body.length : Int)) = false := decide_eq_false (by omega)
            have HM : Hid (Tr.ruleMany r = Tr.litsMany r.body) := by show _ = _; unfold Tr.ruleMany; rw [decide_eq_false h4, decide_eq_false h3]; rfl
            go_wp2_with fail
            generalize (wr.alloc (ruleObj r (.slice ao2 r.terms.length ca2) (.slice ao4 r.body.length ca4))) = w1 at *
            go_loopw [5] (fun i wq => ∃ j : Nat, j ≤ r.body.length ∧ i = .int .i64 j ∧ Tr.litsMany r.body = (r.body.drop j).any (fun x => decide (3 < x.terms.length)) ∧ wq = w1) (fun i _ => r.body.length - (intOf i).toNat)
            case atStart => exact ⟨0, Nat.zero_le _, rfl, rfl, rfl⟩
            case round =>
              obtain ⟨j, hj, rfl, hany, rfl⟩ := hrel
              have HB : Hid (Tr.litsMany r.body = (r.body.drop j).any (fun x => decide (3 < x.terms.length))) := hany
              clear hany
              by_cases hltj : j < r.body.length
              · obtain ⟨bo', cb', hv, hL⟩ := hL0
                rcases hL with h | ⟨b2, off2, rfl, hc⟩
                · rw [h] at hltj; exact absurd hltj (by simp)
                injection hv with e1 _ e3
                subst e1 e3
                obtain ⟨q0, q1, q2, q3, u4, q4, hT⟩ := hc j hltj
                have HE : Hid (Tr.litsMany r.body = (decide (3 < (Tr.litD r.body j).terms.length) || (r.body.drop (j + 1)).any (fun x => decide (3 < x.terms.length)))) := HB.out.trans (any_drop _ _ _ j hltj)
                clear hc HB hA0
                generalize Tr.litD r.body j = x at *
                obtain ⟨ao5, ca5, rfl, _⟩ := hT
                by_cases hx : 3 < x.terms.length
                rotate_left
                · have g : decide ((3 : Int) < (x.terms.length : Int)) = false := decide_eq_false (by omega)
                  have HN : Hid (Tr.litsMany r.body = (r.body.drop (j + 1)).any (fun x => decide (3 < x.terms.length))) := by show _ = _; rw [HE.out, decide_eq_false hx]; rfl
                  clear HE
                  go_wp2_with fail
                  go_roundw
                  case rel => exact ⟨j + 1, by omega, by go_num, HN.out, trivial⟩
                  case measure => simp [intOf]; omega
                · have g : decide ((3 : Int) < (x.terms.length : Int)) = true := decide_eq_true (by omega)
                  have HF : Hid (Tr.check l = 2) := by show _ = _; unfold Tr.check; rw [HD.out, HM.out, HE.out, decide_eq_true hx]; rfl
                  clear HE HD HM
                  go_wp2_with fail
                  go_ret
                  exact ⟨ret_int HF.out.symm, hbel1⟩
              · have HN : Hid (Tr.many l = (l.drop (k + 1)).any Tr.ruleMany) := by
                  show _ = _
                  rw [HD.out, HM.out, HB.out, List.drop_of_length_le (by omega)]
                  rfl
                clear HB HD HM hL0 hA0
                go_wp2_with fail
                go_roundw
                case rel => exact ⟨k + 1, by omega, by go_num, HN.out, hbelr1⟩
                case measure => simp [intOf]; omega
          · have g1 : decide ((4 : Int) < (r.body.length : Int)) = true := decide_eq_true (by omega)
            have HF : Hid (Tr.check l = 2) := by show _ = _; unfold Tr.check; rw [HD.out]; unfold Tr.ruleMany; rw [decide_eq_true h4]; simp
            clear HD hA0 hL0
            go_wp2_with fail
            go_ret
            exact ⟨ret_int HF.out.symm, hbel1⟩
        · have g2 : decide ((3 : Int) < (r.terms.length : Int)) = true := decide_eq_true (by omega)
          have HF : Hid (Tr.check l = 2) := by show _ = _; unfold Tr.check; rw [HD.out]; unfold Tr.ruleMany; rw [decide_eq_true h3]; simp
          clear HD hA0 hL0
          go_wp2_with fail
          go_ret
          exact ⟨ret_int HF.out.symm, hbel1⟩
      · have gm : Tr.many l = false := by rw [HA.out, List.drop_of_length_le (by omega)]; rfl
        have HM : Hid (∀ k, k < l.length → Tr.ruleMany (Tr.ruleD l k) = false) := many_no gm
        have HV : Hid (Tr.check l = if l.all Tr.ruleOk then 0 else 1) := by show _ = _; unfold Tr.check; rw [gm]; rfl
        have hbel1 := hbel0.trans (hbelr.mono hbel0.size)
        have hA1 := rulesV_below hA0 hbelr
        clear HA gm hA0 hbel0 c0 hbelr
        go_wp2_with fail
        generalize hw1 : wr = w1 at *
        clear hw1
        go_loopw [6] (fun i wr => ∃ k : Nat, k ≤ l.length ∧ i = .int .i64 k ∧ l.all Tr.ruleOk = (l.drop k).all Tr.ruleOk ∧ Below w1.heap.size w1 wr) (fun i _ => l.length - (intOf i).toNat)
        case atStart => exact ⟨0, Nat.zero_le _, rfl, rfl, Below.refl _ _⟩
        case round =>
          obtain ⟨k, hk, rfl, hall, hbelr⟩ := hrel
          have HA3 : Hid (l.all Tr.ruleOk = (l.drop k).all Tr.ruleOk) := hall
          have c2 := cell_below hbelr c1
          clear hall
          by_cases hlt : k < l.length
          · obtain ⟨ao', ca', hv, hR⟩ := rulesV_below hA1 hbelr
            rcases hR with h | ⟨b, off, rfl, hc⟩
            · rw [h] at hlt; exact absurd hlt (by simp)
            injection hv with e1 _ e3
            subst e1 e3
            obtain ⟨a0, a1, ⟨v2, a2, hT⟩, a3, v4, a4, hL⟩ := hc k hlt
            have HD : Hid (l.all Tr.ruleOk = (Tr.ruleOk (Tr.ruleD l k) && (l.drop (k + 1)).all Tr.ruleOk)) := HA3.out.trans (all_drop _ _ _ k hlt)
            obtain ⟨f1, f2, f3⟩ := ruleMany_no (HM.out k hlt)
            clear hc
            generalize Tr.ruleD l k = r at *
            have HRo : Hid (Tr.ruleOk r = (Tr.isName r.name && Tr.termsOk r.terms && Tr.foldOk r.fold r.terms.length r.body.length && Tr.litsOk r.body)) := rfl
            have hbel2 : Below w.heap.size w (wr.alloc (ruleObj r v2 v4)) := (hbel1.trans (hbelr.mono hbel1.size)).trans ((below_alloc wr _).mono (hbel1.trans (hbelr.mono hbel1.size)).size)
            have hbelr2 : Below w1.heap.size w1 (wr.alloc (ruleObj r v2 v4)) := hbelr.trans ((below_alloc wr _).mono hbelr.size)
            have hL0 := litsV_below hL (below_alloc wr (ruleObj r v2 v4))
            have HC : Hid (_) := areTerms_any r.terms v2 (wr.alloc (ruleObj r v2 v4)) (by omega) (termsV_below hT (below_alloc _ _))
            obtain ⟨ao2, ca2, rfl, _⟩ := hT
            obtain ⟨ao4, ca4, rfl, _⟩ := hL
            have HLn : Hid (True) := trivial
            cases gn : Tr.isName r.name
            · have HF : Hid (Tr.check l = 1) := by show _ = _; rw [HV.out, HD.out, HRo.out, gn]; rfl
              clear HD HV HRo HC
              go_wp2_with (go_at_call 27; refine (refName_any _ _).mono ?_; rintro e w' ⟨rfl, rfl⟩)
              go_ret
              exact ⟨ret_int HF.out.symm, hbel2⟩
            · go_wp2_with (go_at_call 27; refine (refName_any _ _).mono ?_; rintro e w' ⟨rfl, rfl⟩)
              refine Calls.mono HC.out ?_
              rintro e w3 ⟨he, hb3⟩
              obtain ⟨z0, z1, z2, z3, z4⟩ := ruleBox hb3
              have hbel3 := hbel2.trans (hb3.mono hbel2.size)
              have hbelr3 := hbelr2.trans (hb3.mono hbelr2.size)
              have hL3 := litsV_below hL0 hb3
              clear HC hb3 hL0 a0 a1 a2 a3 a4
              cases gt : Tr.termsOk r.terms
              · have HF : Hid (Tr.check l = 1) := by show _ = _; rw [HV.out, HD.out, HRo.out, gt]; simp
                rw [gt] at he
                subst he
                clear HD HV HRo
                go_wp2_with fail
                go_ret
                exact ⟨ret_int HF.out.symm, hbel3⟩
              · rw [gt] at he
                subst he
                cases gf : Tr.foldOk r.fold r.terms.length r.body.length
                · have HF : Hid (Tr.check l = 1) := by show _ = _; rw [HV.out, HD.out, HRo.out, gf]; simp
                  clear HD HV HRo
                  rcases foldOk_no gf with hb | ⟨hb, hp, ht⟩ | ⟨hb, hp, ht, hq⟩
                  · go_wp2_with (go_at_call 26; refine (between_any _ _ _ _).mono ?_; rintro e w' ⟨rfl, rfl⟩)
                    go_ret
                    exact ⟨ret_int HF.out.symm, hbel3⟩
                  · go_wp2_with (go_at_call 26; refine (between_any _ _ _ _).mono ?_; rintro e w' ⟨rfl, rfl⟩)
                    go_ret
                    exact ⟨ret_int HF.out.symm, hbel3⟩
                  · go_wp2_with (go_at_call 26; refine (between_any _ _ _ _).mono ?_; rintro e w' ⟨rfl, rfl⟩)
                    go_ret
                    exact ⟨ret_int HF.out.symm, hbel3⟩
                · have HW : Hid (Tr.ruleOk r = Tr.litsOk r.body) := by show _ = _; rw [HRo.out, gn, gt, gf]; rfl
                  rcases foldOk_yes gf with ⟨hb, hp⟩ | ⟨hb, hp, ht, hq⟩
                  · go_wp2_with (go_at_call 26; refine (between_any _ _ _ _).mono ?_; rintro e w3 ⟨rfl, rfl⟩)
                    clear hb hp gf gt gn
                    go_loopw [8] (fun i wq => ∃ j : Nat, j ≤ r.body.length ∧ i = .int .i64 j ∧ Tr.litsOk r.body = (r.body.drop j).all Tr.litOk ∧ Below w3.heap.size w3 wq) (fun i _ => r.body.length - (intOf i).toNat)
                    case atStart => exact ⟨0, Nat.zero_le _, rfl, rfl, Below.refl _ _⟩
                    case round =>
                      obtain ⟨j, hj, rfl, hall, hbelq⟩ := hrel
                      have HB : Hid (Tr.litsOk r.body = (r.body.drop j).all Tr.litOk) := hall
                      have z4' := cell_below hbelq z4
                      clear hall
                      by_cases hltj : j < r.body.length
                      · obtain ⟨bo', cb', hv, hL⟩ := litsV_below hL3 hbelq
                        rcases hL with h | ⟨b2, off2, rfl, hc⟩
                        · rw [h] at hltj; exact absurd hltj (by simp)
                        injection hv with e1 _ e3
                        subst e1 e3
                        obtain ⟨q0, q1, q2, q3, u4, q4, hT⟩ := hc j hltj
                        have HE : Hid (Tr.litsOk r.body = (Tr.litOk (Tr.litD r.body j) && (r.body.drop (j + 1)).all Tr.litOk)) := HB.out.trans (all_drop _ _ _ j hltj)
                        have hfit := f3 j hltj
                        clear hc HB hL3 hA1
                        generalize Tr.litD r.body j = x at *
                        have HC : Hid (_) := areTerms_any x.terms u4 (wr.alloc (litObj x u4)) hfit (termsV_below hT (below_alloc _ _))
                        obtain ⟨ao5, ca5, rfl, _⟩ := hT
                        go_wp2_with fail
                        refine Calls.mono HC.out ?_
                        rintro e w5 ⟨he, hb5⟩
                        obtain ⟨y0, y1, y2, y3, y4⟩ := litBox hb5
                        have hbel5q := hbelq.trans ((below_box hb5).mono hbelq.size)
                        have hbel5 := hbel3.trans (hbel5q.mono hbel3.size)
                        clear HC hb5 q0 q1 q2 q3 q4
                        cases gT : Tr.termsOk x.terms
                        · rw [gT] at he
                          subst he
                          rcases lit_kinds x with hk | hk | hk | hk | hk
                          · have t1 : (x.kind == 1) = true := beq_iff_eq.2 hk
                            have HLo : Hid (Tr.litOk x = (Tr.termsOk x.terms && ((x.op == 0) && Tr.isName x.name))) := litOk_1 x (.inl hk)
                            clear hk
                            have HF : Hid (Tr.check l = 1) := by show _ = _; rw [HV.out, HD.out, HW.out, HE.out, HLo.out, gT]; simp
                            clear HE HD HV HW HLo HRo HA3 HLn
                            go_wp2_with fail
                            go_ret
                            exact ⟨ret_int HF.out.symm, hbel5⟩
                          · have t1 : (x.kind == 1) = false := beq_eq_false_iff_ne.2 (by omega)
                            have t2 : (x.kind == 2) = true := beq_iff_eq.2 hk
                            have HLo : Hid (Tr.litOk x = (Tr.termsOk x.terms && ((x.op == 0) && Tr.isName x.name))) := litOk_1 x (.inr hk)
                            clear hk
                            have HF : Hid (Tr.check l = 1) := by show _ = _; rw [HV.out, HD.out, HW.out, HE.out, HLo.out, gT]; simp
                            clear HE HD HV HW HLo HRo HA3 HLn
                            go_wp2_with fail
                            go_ret
                            exact ⟨ret_int HF.out.symm, hbel5⟩
                          · have t1 : (x.kind == 1) = false := beq_eq_false_iff_ne.2 (by omega)
                            have t2 : (x.kind == 2) = false := beq_eq_false_iff_ne.2 (by omega)
                            have t3 : (x.kind == 3) = true := beq_iff_eq.2 hk
                            have HLo : Hid (Tr.litOk x = (Tr.termsOk x.terms && (Tr.between x.op 1 4 && x.name.isEmpty && ((x.terms.length : Int) == 2)))) := litOk_3 x hk
                            clear hk
                            have HF : Hid (Tr.check l = 1) := by show _ = _; rw [HV.out, HD.out, HW.out, HE.out, HLo.out, gT]; simp
                            clear HE HD HV HW HLo HRo HA3 HLn
                            go_wp2_with fail
                            go_ret
                            exact ⟨ret_int HF.out.symm, hbel5⟩
                          · have t1 : (x.kind == 1) = false := beq_eq_false_iff_ne.2 (by omega)
                            have t2 : (x.kind == 2) = false := beq_eq_false_iff_ne.2 (by omega)
                            have t3 : (x.kind == 3) = false := beq_eq_false_iff_ne.2 (by omega)
                            have t4 : (x.kind == 4) = true := beq_iff_eq.2 hk
                            have HLo : Hid (Tr.litOk x = (Tr.termsOk x.terms && (Tr.between x.op 5 7 && x.name.isEmpty && ((x.terms.length : Int) == 3)))) := litOk_4 x hk
                            clear hk
                            have HF : Hid (Tr.check l = 1) := by show _ = _; rw [HV.out, HD.out, HW.out, HE.out, HLo.out, gT]; simp
                            clear HE HD HV HW HLo HRo HA3 HLn
                            go_wp2_with fail
                            go_ret
                            exact ⟨ret_int HF.out.symm, hbel5⟩
                          · have t1 : (x.kind == 1) = false := beq_eq_false_iff_ne.2 hk.1
                            have t2 : (x.kind == 2) = false := beq_eq_false_iff_ne.2 hk.2.1
                            have t3 : (x.kind == 3) = false := beq_eq_false_iff_ne.2 hk.2.2.1
                            have t4 : (x.kind == 4) = false := beq_eq_false_iff_ne.2 hk.2.2.2
                            have HLo : Hid (Tr.litOk x = (Tr.termsOk x.terms && false)) := litOk_5 x hk
                            clear hk
                            have HF : Hid (Tr.check l = 1) := by show _ = _; rw [HV.out, HD.out, HW.out, HE.out, HLo.out]; simp
                            clear HE HD HV HW HLo HRo HA3 HLn
                            go_wp2_with fail
                            go_ret
                            exact ⟨ret_int HF.out.symm, hbel5⟩
                        · rw [gT] at he
                          subst he
                          rcases lit_kinds x with hk | hk | hk | hk | hk
                          · have t1 : (x.kind == 1) = true := beq_iff_eq.2 hk
                            have HLo : Hid (Tr.litOk x = (Tr.termsOk x.terms && ((x.op == 0) && Tr.isName x.name))) := litOk_1 x (.inl hk)
                            clear hk
                            cases g1 : (x.op == 0)
                            · have HF : Hid (Tr.check l = 1) := by show _ = _; rw [HV.out, HD.out, HW.out, HE.out, HLo.out, g1]; simp
                              clear HE HD HV HW HLo HRo HA3 HLn
                              go_wp2_with fail
                              go_ret
                              exact ⟨ret_int HF.out.symm, hbel5⟩
                            · cases g2 : Tr.isName x.name
                              · have HF : Hid (Tr.check l = 1) := by show _ = _; rw [HV.out, HD.out, HW.out, HE.out, HLo.out, g2]; simp
                                clear HE HD HV HW HLo HRo HA3 HLn
                                go_wp2_with (go_at_call 27; refine (refName_any _ _).mono ?_; rintro e w' ⟨rfl, rfl⟩)
                                go_ret
                                exact ⟨ret_int HF.out.symm, hbel5⟩
                              · have HN : Hid (Tr.litsOk r.body = (r.body.drop (j + 1)).all Tr.litOk) := by show _ = _; rw [HE.out, HLo.out, gT, g1, g2]; simp
                                clear HE HLo
                                go_wp2_with (go_at_call 27; refine (refName_any _ _).mono ?_; rintro e w' ⟨rfl, rfl⟩)
                                go_roundw
                                case rel => exact ⟨j + 1, by omega, by go_num, HN.out, hbel5q⟩
                                case measure => simp [intOf]; omega
                          · have t1 : (x.kind == 1) = false := beq_eq_false_iff_ne.2 (by omega)
                            have t2 : (x.kind == 2) = true := beq_iff_eq.2 hk
                            have HLo : Hid (Tr.litOk x = (Tr.termsOk x.terms && ((x.op == 0) && Tr.isName x.name))) := litOk_1 x (.inr hk)
                            clear hk
                            cases g1 : (x.op == 0)
                            · have HF : Hid (Tr.check l = 1) := by show _ = _; rw [HV.out, HD.out, HW.out, HE.out, HLo.out, g1]; simp
                              clear HE HD HV HW HLo HRo HA3 HLn
                              go_wp2_with fail
                              go_ret
                              exact ⟨ret_int HF.out.symm, hbel5⟩
                            · cases g2 : Tr.isName x.name
                              · have HF : Hid (Tr.check l = 1) := by show _ = _; rw [HV.out, HD.out, HW.out, HE.out, HLo.out, g2]; simp
                                clear HE HD HV HW HLo HRo HA3 HLn
                                go_wp2_with (go_at_call 27; refine (refName_any _ _).mono ?_; rintro e w' ⟨rfl, rfl⟩)
                                go_ret
                                exact ⟨ret_int HF.out.symm, hbel5⟩
                              · have HN : Hid (Tr.litsOk r.body = (r.body.drop (j + 1)).all Tr.litOk) := by show _ = _; rw [HE.out, HLo.out, gT, g1, g2]; simp
                                clear HE HLo
                                go_wp2_with (go_at_call 27; refine (refName_any _ _).mono ?_; rintro e w' ⟨rfl, rfl⟩)
                                go_roundw
                                case rel => exact ⟨j + 1, by omega, by go_num, HN.out, hbel5q⟩
                                case measure => simp [intOf]; omega
                          · have t1 : (x.kind == 1) = false := beq_eq_false_iff_ne.2 (by omega)
                            have t2 : (x.kind == 2) = false := beq_eq_false_iff_ne.2 (by omega)
                            have t3 : (x.kind == 3) = true := beq_iff_eq.2 hk
                            have HLo : Hid (Tr.litOk x = (Tr.termsOk x.terms && (Tr.between x.op 1 4 && x.name.isEmpty && ((x.terms.length : Int) == 2)))) := litOk_3 x hk
                            clear hk
                            cases g1 : Tr.between x.op 1 4
                            · have HF : Hid (Tr.check l = 1) := by show _ = _; rw [HV.out, HD.out, HW.out, HE.out, HLo.out, g1]; simp
                              unfold Tr.between at g1
                              clear HE HD HV HW HLo HRo HA3 HLn
                              go_wp2_with (go_at_call 26; refine (between_any _ _ _ _).mono ?_; rintro e w' ⟨rfl, rfl⟩)
                              go_ret
                              exact ⟨ret_int HF.out.symm, hbel5⟩
                            · cases g2 : x.name.isEmpty
                              · have HF : Hid (Tr.check l = 1) := by show _ = _; rw [HV.out, HD.out, HW.out, HE.out, HLo.out, g2]; simp
                                unfold Tr.between at g1
                                clear HE HD HV HW HLo HRo HA3 HLn
                                go_wp2_with (go_at_call 26; refine (between_any _ _ _ _).mono ?_; rintro e w' ⟨rfl, rfl⟩)
                                go_ret
                                exact ⟨ret_int HF.out.symm, hbel5⟩
                              · cases g3 : ((x.terms.length : Int) == 2)
                                · have HF : Hid (Tr.check l = 1) := by show _ = _; rw [HV.out, HD.out, HW.out, HE.out, HLo.out, g3]; simp
                                  unfold Tr.between at g1
                                  clear HE HD HV HW HLo HRo HA3 HLn
                                  go_wp2_with (go_at_call 26; refine (between_any _ _ _ _).mono ?_; rintro e w' ⟨rfl, rfl⟩)
                                  go_ret
                                  exact ⟨ret_int HF.out.symm, hbel5⟩
                                · have HN : Hid (Tr.litsOk r.body = (r.body.drop (j + 1)).all Tr.litOk) := by show _ = _; rw [HE.out, HLo.out, gT, g1, g2, g3]; simp
                                  unfold Tr.between at g1
                                  clear HE HLo
                                  go_wp2_with (go_at_call 26; refine (between_any _ _ _ _).mono ?_; rintro e w' ⟨rfl, rfl⟩)
                                  go_roundw
                                  case rel => exact ⟨j + 1, by omega, by go_num, HN.out, hbel5q⟩
                                  case measure => simp [intOf]; omega
                          · have t1 : (x.kind == 1) = false := beq_eq_false_iff_ne.2 (by omega)
                            have t2 : (x.kind == 2) = false := beq_eq_false_iff_ne.2 (by omega)
                            have t3 : (x.kind == 3) = false := beq_eq_false_iff_ne.2 (by omega)
                            have t4 : (x.kind == 4) = true := beq_iff_eq.2 hk
                            have HLo : Hid (Tr.litOk x = (Tr.termsOk x.terms && (Tr.between x.op 5 7 && x.name.isEmpty && ((x.terms.length : Int) == 3)))) := litOk_4 x hk
                            clear hk
                            cases g1 : Tr.between x.op 5 7
                            · have HF : Hid (Tr.check l = 1) := by show _ = _; rw [HV.out, HD.out, HW.out, HE.out, HLo.out, g1]; simp
                              unfold Tr.between at g1
                              clear HE HD HV HW HLo HRo HA3 HLn
                              go_wp2_with (go_at_call 26; refine (between_any _ _ _ _).mono ?_; rintro e w' ⟨rfl, rfl⟩)
                              go_ret
                              exact ⟨ret_int HF.out.symm, hbel5⟩
                            · cases g2 : x.name.isEmpty
                              · have HF : Hid (Tr.check l = 1) := by show _ = _; rw [HV.out, HD.out, HW.out, HE.out, HLo.out, g2]; simp
                                unfold Tr.between at g1
                                clear HE HD HV HW HLo HRo HA3 HLn
                                go_wp2_with (go_at_call 26; refine (between_any _ _ _ _).mono ?_; rintro e w' ⟨rfl, rfl⟩)
                                go_ret
                                exact ⟨ret_int HF.out.symm, hbel5⟩
                              · cases g3 : ((x.terms.length : Int) == 3)
                                · have HF : Hid (Tr.check l = 1) := by show _ = _; rw [HV.out, HD.out, HW.out, HE.out, HLo.out, g3]; simp
                                  unfold Tr.between at g1
                                  clear HE HD HV HW HLo HRo HA3 HLn
                                  go_wp2_with (go_at_call 26; refine (between_any _ _ _ _).mono ?_; rintro e w' ⟨rfl, rfl⟩)
                                  go_ret
                                  exact ⟨ret_int HF.out.symm, hbel5⟩
                                · have HN : Hid (Tr.litsOk r.body = (r.body.drop (j + 1)).all Tr.litOk) := by show _ = _; rw [HE.out, HLo.out, gT, g1, g2, g3]; simp
                                  unfold Tr.between at g1
                                  clear HE HLo
                                  go_wp2_with (go_at_call 26; refine (between_any _ _ _ _).mono ?_; rintro e w' ⟨rfl, rfl⟩)
                                  go_roundw
                                  case rel => exact ⟨j + 1, by omega, by go_num, HN.out, hbel5q⟩
                                  case measure => simp [intOf]; omega
                          · have t1 : (x.kind == 1) = false := beq_eq_false_iff_ne.2 hk.1
                            have t2 : (x.kind == 2) = false := beq_eq_false_iff_ne.2 hk.2.1
                            have t3 : (x.kind == 3) = false := beq_eq_false_iff_ne.2 hk.2.2.1
                            have t4 : (x.kind == 4) = false := beq_eq_false_iff_ne.2 hk.2.2.2
                            have HLo : Hid (Tr.litOk x = (Tr.termsOk x.terms && false)) := litOk_5 x hk
                            clear hk
                            have HF : Hid (Tr.check l = 1) := by show _ = _; rw [HV.out, HD.out, HW.out, HE.out, HLo.out]; simp
                            clear HE HD HV HW HLo HRo HA3 HLn
                            go_wp2_with fail
                            go_ret
                            exact ⟨ret_int HF.out.symm, hbel5⟩
                      · have HN : Hid (l.all Tr.ruleOk = (l.drop (k + 1)).all Tr.ruleOk) := by
                          show _ = _
                          rw [HD.out, HW.out, HB.out, List.drop_of_length_le (by omega)]
                          rfl
                        have hbelr4 := hbelr3.trans (hbelq.mono hbelr3.size)
                        clear HB HD HW hL3 hA1 HA3 HRo
                        go_wp2_with fail
                        go_roundw
                        case rel => exact ⟨k + 1, by omega, by go_num, HN.out, hbelr4⟩
                        case measure => simp [intOf]; omega
                  · go_wp2_with (go_at_call 26; refine (between_any _ _ _ _).mono ?_; rintro e w3 ⟨rfl, rfl⟩)
                    clear hb hp gf gt gn
                    go_loopw [8] (fun i wq => ∃ j : Nat, j ≤ r.body.length ∧ i = .int .i64 j ∧ Tr.litsOk r.body = (r.body.drop j).all Tr.litOk ∧ Below w3.heap.size w3 wq) (fun i _ => r.body.length - (intOf i).toNat)
                    case atStart => exact ⟨0, Nat.zero_le _, rfl, rfl, Below.refl _ _⟩
                    case round =>
                      obtain ⟨j, hj, rfl, hall, hbelq⟩ := hrel
                      have HB : Hid (Tr.litsOk r.body = (r.body.drop j).all Tr.litOk) := hall
                      have z4' := cell_below hbelq z4
                      clear hall
                      by_cases hltj : j < r.body.length
                      · obtain ⟨bo', cb', hv, hL⟩ := litsV_below hL3 hbelq
                        rcases hL with h | ⟨b2, off2, rfl, hc⟩
                        · rw [h] at hltj; exact absurd hltj (by simp)
                        injection hv with e1 _ e3
                        subst e1 e3
                        obtain ⟨q0, q1, q2, q3, u4, q4, hT⟩ := hc j hltj
                        have HE : Hid (Tr.litsOk r.body = (Tr.litOk (Tr.litD r.body j) && (r.body.drop (j + 1)).all Tr.litOk)) := HB.out.trans (all_drop _ _ _ j hltj)
                        have hfit := f3 j hltj
                        clear hc HB hL3 hA1
                        generalize Tr.litD r.body j = x at *
                        have HC : Hid (_) := areTerms_any x.terms u4 (wr.alloc (litObj x u4)) hfit (termsV_below hT (below_alloc _ _))
                        obtain ⟨ao5, ca5, rfl, _⟩ := hT
                        go_wp2_with fail
                        refine Calls.mono HC.out ?_
                        rintro e w5 ⟨he, hb5⟩
                        obtain ⟨y0, y1, y2, y3, y4⟩ := litBox hb5
                        have hbel5q := hbelq.trans ((below_box hb5).mono hbelq.size)
                        have hbel5 := hbel3.trans (hbel5q.mono hbel3.size)
                        clear HC hb5 q0 q1 q2 q3 q4
                        cases gT : Tr.termsOk x.terms
                        · rw [gT] at he
                          subst he
                          rcases lit_kinds x with hk | hk | hk | hk | hk
                          · have t1 : (x.kind == 1) = true := beq_iff_eq.2 hk
                            have HLo : Hid (Tr.litOk x = (Tr.termsOk x.terms && ((x.op == 0) && Tr.isName x.name))) := litOk_1 x (.inl hk)
                            clear hk
                            have HF : Hid (Tr.check l = 1) := by show _ = _; rw [HV.out, HD.out, HW.out, HE.out, HLo.out, gT]; simp
                            clear HE HD HV HW HLo HRo HA3 HLn
                            go_wp2_with fail
                            go_ret
                            exact ⟨ret_int HF.out.symm, hbel5⟩
                          · have t1 : (x.kind == 1) = false := beq_eq_false_iff_ne.2 (by omega)
                            have t2 : (x.kind == 2) = true := beq_iff_eq.2 hk
                            have HLo : Hid (Tr.litOk x = (Tr.termsOk x.terms && ((x.op == 0) && Tr.isName x.name))) := litOk_1 x (.inr hk)
                            clear hk
                            have HF : Hid (Tr.check l = 1) := by show _ = _; rw [HV.out, HD.out, HW.out, HE.out, HLo.out, gT]; simp
                            clear HE HD HV HW HLo HRo HA3 HLn
                            go_wp2_with fail
                            go_ret
                            exact ⟨ret_int HF.out.symm, hbel5⟩
                          · have t1 : (x.kind == 1) = false := beq_eq_false_iff_ne.2 (by omega)
                            have t2 : (x.kind == 2) = false := beq_eq_false_iff_ne.2 (by omega)
                            have t3 : (x.kind == 3) = true := beq_iff_eq.2 hk
                            have HLo : Hid (Tr.litOk x = (Tr.termsOk x.terms && (Tr.between x.op 1 4 && x.name.isEmpty && ((x.terms.length : Int) == 2)))) := litOk_3 x hk
                            clear hk
                            have HF : Hid (Tr.check l = 1) := by show _ = _; rw [HV.out, HD.out, HW.out, HE.out, HLo.out, gT]; simp
                            clear HE HD HV HW HLo HRo HA3 HLn
                            go_wp2_with fail
                            go_ret
                            exact ⟨ret_int HF.out.symm, hbel5⟩
                          · have t1 : (x.kind == 1) = false := beq_eq_false_iff_ne.2 (by omega)
                            have t2 : (x.kind == 2) = false := beq_eq_false_iff_ne.2 (by omega)
                            have t3 : (x.kind == 3) = false := beq_eq_false_iff_ne.2 (by omega)
                            have t4 : (x.kind == 4) = true := beq_iff_eq.2 hk
                            have HLo : Hid (Tr.litOk x = (Tr.termsOk x.terms && (Tr.between x.op 5 7 && x.name.isEmpty && ((x.terms.length : Int) == 3)))) := litOk_4 x hk
                            clear hk
                            have HF : Hid (Tr.check l = 1) := by show _ = _; rw [HV.out, HD.out, HW.out, HE.out, HLo.out, gT]; simp
                            clear HE HD HV HW HLo HRo HA3 HLn
                            go_wp2_with fail
                            go_ret
                            exact ⟨ret_int HF.out.symm, hbel5⟩
                          · have t1 : (x.kind == 1) = false := beq_eq_false_iff_ne.2 hk.1
                            have t2 : (x.kind == 2) = false := beq_eq_false_iff_ne.2 hk.2.1
                            have t3 : (x.kind == 3) = false := beq_eq_false_iff_ne.2 hk.2.2.1
                            have t4 : (x.kind == 4) = false := beq_eq_false_iff_ne.2 hk.2.2.2
                            have HLo : Hid (Tr.litOk x = (Tr.termsOk x.terms && false)) := litOk_5 x hk
                            clear hk
                            have HF : Hid (Tr.check l = 1) := by show _ = _; rw [HV.out, HD.out, HW.out, HE.out, HLo.out]; simp
                            clear HE HD HV HW HLo HRo HA3 HLn
                            go_wp2_with fail
                            go_ret
                            exact ⟨ret_int HF.out.symm, hbel5⟩
                        · rw [gT] at he
                          subst he
                          rcases lit_kinds x with hk | hk | hk | hk | hk
                          · have t1 : (x.kind == 1) = true := beq_iff_eq.2 hk
                            have HLo : Hid (Tr.litOk x = (Tr.termsOk x.terms && ((x.op == 0) && Tr.isName x.name))) := litOk_1 x (.inl hk)
                            clear hk
                            cases g1 : (x.op == 0)
                            · have HF : Hid (Tr.check l = 1) := by show _ = _; rw [HV.out, HD.out, HW.out, HE.out, HLo.out, g1]; simp
                              clear HE HD HV HW HLo HRo HA3 HLn
                              go_wp2_with fail
                              go_ret
                              exact ⟨ret_int HF.out.symm, hbel5⟩
                            · cases g2 : Tr.isName x.name
                              · have HF : Hid (Tr.check l = 1) := by show _ = _; rw [HV.out, HD.out, HW.out, HE.out, HLo.out, g2]; simp
                                clear HE HD HV HW HLo HRo HA3 HLn
                                go_wp2_with (go_at_call 27; refine (refName_any _ _).mono ?_; rintro e w' ⟨rfl, rfl⟩)
                                go_ret
                                exact ⟨ret_int HF.out.symm, hbel5⟩
                              · have HN : Hid (Tr.litsOk r.body = (r.body.drop (j + 1)).all Tr.litOk) := by show _ = _; rw [HE.out, HLo.out, gT, g1, g2]; simp
                                clear HE HLo
                                go_wp2_with (go_at_call 27; refine (refName_any _ _).mono ?_; rintro e w' ⟨rfl, rfl⟩)
                                go_roundw
                                case rel => exact ⟨j + 1, by omega, by go_num, HN.out, hbel5q⟩
                                case measure => simp [intOf]; omega
                          · have t1 : (x.kind == 1) = false := beq_eq_false_iff_ne.2 (by omega)
                            have t2 : (x.kind == 2) = true := beq_iff_eq.2 hk
                            have HLo : Hid (Tr.litOk x = (Tr.termsOk x.terms && ((x.op == 0) && Tr.isName x.name))) := litOk_1 x (.inr hk)
                            clear hk
                            cases g1 : (x.op == 0)
                            · have HF : Hid (Tr.check l = 1) := by show _ = _; rw [HV.out, HD.out, HW.out, HE.out, HLo.out, g1]; simp
                              clear HE HD HV HW HLo HRo HA3 HLn
                              go_wp2_with fail
                              go_ret
                              exact ⟨ret_int HF.out.symm, hbel5⟩
                            · cases g2 : Tr.isName x.name
                              · have HF : Hid (Tr.check l = 1) := by show _ = _; rw [HV.out, HD.out, HW.out, HE.out, HLo.out, g2]; simp
                                clear HE HD HV HW HLo HRo HA3 HLn
                                go_wp2_with (go_at_call 27; refine (refName_any _ _).mono ?_; rintro e w' ⟨rfl, rfl⟩)
                                go_ret
                                exact ⟨ret_int HF.out.symm, hbel5⟩
                              · have HN : Hid (Tr.litsOk r.body = (r.body.drop (j + 1)).all Tr.litOk) := by show _ = _; rw [HE.out, HLo.out, gT, g1, g2]; simp
                                clear HE HLo
                                go_wp2_with (go_at_call 27; refine (refName_any _ _).mono ?_; rintro e w' ⟨rfl, rfl⟩)
                                go_roundw
                                case rel => exact ⟨j + 1, by omega, by go_num, HN.out, hbel5q⟩
                                case measure => simp [intOf]; omega
                          · have t1 : (x.kind == 1) = false := beq_eq_false_iff_ne.2 (by omega)
                            have t2 : (x.kind == 2) = false := beq_eq_false_iff_ne.2 (by omega)
                            have t3 : (x.kind == 3) = true := beq_iff_eq.2 hk
                            have HLo : Hid (Tr.litOk x = (Tr.termsOk x.terms && (Tr.between x.op 1 4 && x.name.isEmpty && ((x.terms.length : Int) == 2)))) := litOk_3 x hk
                            clear hk
                            cases g1 : Tr.between x.op 1 4
                            · have HF : Hid (Tr.check l = 1) := by show _ = _; rw [HV.out, HD.out, HW.out, HE.out, HLo.out, g1]; simp
                              unfold Tr.between at g1
                              clear HE HD HV HW HLo HRo HA3 HLn
                              go_wp2_with (go_at_call 26; refine (between_any _ _ _ _).mono ?_; rintro e w' ⟨rfl, rfl⟩)
                              go_ret
                              exact ⟨ret_int HF.out.symm, hbel5⟩
                            · cases g2 : x.name.isEmpty
                              · have HF : Hid (Tr.check l = 1) := by show _ = _; rw [HV.out, HD.out, HW.out, HE.out, HLo.out, g2]; simp
                                unfold Tr.between at g1
                                clear HE HD HV HW HLo HRo HA3 HLn
                                go_wp2_with (go_at_call 26; refine (between_any _ _ _ _).mono ?_; rintro e w' ⟨rfl, rfl⟩)
                                go_ret
                                exact ⟨ret_int HF.out.symm, hbel5⟩
                              · cases g3 : ((x.terms.length : Int) == 2)
                                · have HF : Hid (Tr.check l = 1) := by show _ = _; rw [HV.out, HD.out, HW.out, HE.out, HLo.out, g3]; simp
                                  unfold Tr.between at g1
                                  clear HE HD HV HW HLo HRo HA3 HLn
                                  go_wp2_with (go_at_call 26; refine (between_any _ _ _ _).mono ?_; rintro e w' ⟨rfl, rfl⟩)
                                  go_ret
                                  exact ⟨ret_int HF.out.symm, hbel5⟩
                                · have HN : Hid (Tr.litsOk r.body = (r.body.drop (j + 1)).all Tr.litOk) := by show _ = _; rw [HE.out, HLo.out, gT, g1, g2, g3]; simp
                                  unfold Tr.between at g1
                                  clear HE HLo
                                  go_wp2_with (go_at_call 26; refine (between_any _ _ _ _).mono ?_; rintro e w' ⟨rfl, rfl⟩)
                                  go_roundw
                                  case rel => exact ⟨j + 1, by omega, by go_num, HN.out, hbel5q⟩
                                  case measure => simp [intOf]; omega
                          · have t1 : (x.kind == 1) = false := beq_eq_false_iff_ne.2 (by omega)
                            have t2 : (x.kind == 2) = false := beq_eq_false_iff_ne.2 (by omega)
                            have t3 : (x.kind == 3) = false := beq_eq_false_iff_ne.2 (by omega)
                            have t4 : (x.kind == 4) = true := beq_iff_eq.2 hk
                            have HLo : Hid (Tr.litOk x = (Tr.termsOk x.terms && (Tr.between x.op 5 7 && x.name.isEmpty && ((x.terms.length : Int) == 3)))) := litOk_4 x hk
                            clear hk
                            cases g1 : Tr.between x.op 5 7
                            · have HF : Hid (Tr.check l = 1) := by show _ = _; rw [HV.out, HD.out, HW.out, HE.out, HLo.out, g1]; simp
                              unfold Tr.between at g1
                              clear HE HD HV HW HLo HRo HA3 HLn
                              go_wp2_with (go_at_call 26; refine (between_any _ _ _ _).mono ?_; rintro e w' ⟨rfl, rfl⟩)
                              go_ret
                              exact ⟨ret_int HF.out.symm, hbel5⟩
                            · cases g2 : x.name.isEmpty
                              · have HF : Hid (Tr.check l = 1) := by show _ = _; rw [HV.out, HD.out, HW.out, HE.out, HLo.out, g2]; simp
                                unfold Tr.between at g1
                                clear HE HD HV HW HLo HRo HA3 HLn
                                go_wp2_with (go_at_call 26; refine (between_any _ _ _ _).mono ?_; rintro e w' ⟨rfl, rfl⟩)
                                go_ret
                                exact ⟨ret_int HF.out.symm, hbel5⟩
                              · cases g3 : ((x.terms.length : Int) == 3)
                                · have HF : Hid (Tr.check l = 1) := by show _ = _; rw [HV.out, HD.out, HW.out, HE.out, HLo.out, g3]; simp
                                  unfold Tr.between at g1
                                  clear HE HD HV HW HLo HRo HA3 HLn
                                  go_wp2_with (go_at_call 26; refine (between_any _ _ _ _).mono ?_; rintro e w' ⟨rfl, rfl⟩)
                                  go_ret
                                  exact ⟨ret_int HF.out.symm, hbel5⟩
                                · have HN : Hid (Tr.litsOk r.body = (r.body.drop (j + 1)).all Tr.litOk) := by show _ = _; rw [HE.out, HLo.out, gT, g1, g2, g3]; simp
                                  unfold Tr.between at g1
                                  clear HE HLo
                                  go_wp2_with (go_at_call 26; refine (between_any _ _ _ _).mono ?_; rintro e w' ⟨rfl, rfl⟩)
                                  go_roundw
                                  case rel => exact ⟨j + 1, by omega, by go_num, HN.out, hbel5q⟩
                                  case measure => simp [intOf]; omega
                          · have t1 : (x.kind == 1) = false := beq_eq_false_iff_ne.2 hk.1
                            have t2 : (x.kind == 2) = false := beq_eq_false_iff_ne.2 hk.2.1
                            have t3 : (x.kind == 3) = false := beq_eq_false_iff_ne.2 hk.2.2.1
                            have t4 : (x.kind == 4) = false := beq_eq_false_iff_ne.2 hk.2.2.2
                            have HLo : Hid (Tr.litOk x = (Tr.termsOk x.terms && false)) := litOk_5 x hk
                            clear hk
                            have HF : Hid (Tr.check l = 1) := by show _ = _; rw [HV.out, HD.out, HW.out, HE.out, HLo.out]; simp
                            clear HE HD HV HW HLo HRo HA3 HLn
                            go_wp2_with fail
                            go_ret
                            exact ⟨ret_int HF.out.symm, hbel5⟩
                      · have HN : Hid (l.all Tr.ruleOk = (l.drop (k + 1)).all Tr.ruleOk) := by
                          show _ = _
                          rw [HD.out, HW.out, HB.out, List.drop_of_length_le (by omega)]
                          rfl
                        have hbelr4 := hbelr3.trans (hbelq.mono hbelr3.size)
                        clear HB HD HW hL3 hA1 HA3 HRo
                        go_wp2_with fail
                        go_roundw
                        case rel => exact ⟨k + 1, by omega, by go_num, HN.out, hbelr4⟩
                        case measure => simp [intOf]; omega
          · have HF : Hid (Tr.check l = 0) := by show _ = _; rw [HV.out, HA3.out, List.drop_of_length_le (by omega)]; rfl
            have hbel4 := hbel1.trans (hbelr.mono hbel1.size)
            clear hA1 HA3 HV
            go_wp2_with fail
            go_ret
            exact ⟨ret_int HF.out.symm, hbel4⟩

end Go.Proofs.YtgpaleifhcdjnaaGreatDoor

/- The document's reader, whole: ParseOf answers the tree of a text, or where it is wrong and why. -/
namespace Go.Proofs.YtgpaleifhcdjnaaGreatDoor
open Go.RowKit

theorem TInv.start {w w1 : World} {L : List Tk.Tok} {ao : Option Addr} {cap : Nat} {en : Int} (hT : ToksAt w1 ao L) (hL : L.length ≤ 5000) (hG : ∀ t ∈ L, Tk.Good t) (hbw : Below w.heap.size w w1) (hres : w1.heap[w.heap.size]? = some (.cells #[.slice none 0 0] 36)) :
    TInv w ((w1.alloc (.cells #[.slice ao L.length cap, .int .i64 0, .int .i64 en, .bool false] 89)).alloc (.cells #[.slice none 0 0] 36)) w1.heap.size (w1.heap.size + 1) L en (.inr L) (.slice none 0 0) [] := by
  have old : ∀ (u : World) (o x : Obj) (k : Nat), u.heap[k]? = some x → (u.alloc o).heap[k]? = some x := fun u o x k hk => (((Below.refl u.heap.size u).alloc (Nat.le_refl _) o).block k (heap_lt hk)).trans hk
  have hlt := heap_lt hres
  have hrd : RAt (w1.alloc (.cells #[.slice ao L.length cap, .int .i64 0, .int .i64 en, .bool false] 89)) w1.heap.size L en (.inr L) := by
    refine ⟨0, ao, cap, Nat.zero_le _, hL, hG, heap_alloc_new w1 _, rfl, ?_⟩
    rcases hT with h | ⟨b, off, rfl, hc⟩
    · exact .inl h
    · cases L with
      | nil => exact .inl rfl
      | cons t l =>
        have b4 := (Below.refl w1.heap.size w1).alloc (Nat.le_refl _) (.cells #[.slice (some ⟨b, off, none⟩) (t :: l).length cap, .int .i64 0, .int .i64 en, .bool false] 89)
        exact .inr ⟨b, off, rfl, World.block_lt_of_cell? w1 _ (hc 0 (by simp)).1, fun i hi => ⟨cell_below b4 (hc i hi).1, cell_below b4 (hc i hi).2.1, cell_below b4 (hc i hi).2.2⟩⟩
  exact { bel := (hbw.alloc hbw.size _).alloc (by simp; have := hbw.size; omega) _
          res := old _ _ _ _ (old _ _ _ _ hres)
          tre := by have := heap_alloc_new (w1.alloc (.cells #[.slice ao L.length cap, .int .i64 0, .int .i64 en, .bool false] 89)) (.cells #[.slice none 0 0] 36); simpa using this
          rd := hrd.below ((Below.refl _ _).alloc (Nat.le_refl _) _)
          own := World.ownsRow_nil _ _ _ _
          rls := fun p hp => absurd hp (by simp)
          ltR := hlt
          ltT := Nat.lt_succ_self _ }
namespace Rd
/-- How much is left to be read. -/
def leftR (c : Option Value) (n : Nat) : Nat := match c with | some (.bool true) => 0 | _ => n + 1
def leftS (s : Int ⊕ List Tk.Tok) : Nat := match s with | .inl _ => 0 | .inr r => r.length + 1
end Rd
theorem RAt.left {w : World} {R : Nat} {L : List Tk.Tok} {en : Int} {s : Int ⊕ List Tk.Tok} (h : RAt w R L en s) : Rd.leftR (w.cell? ⟨R, 3, none⟩) (L.length - nxOf w R) = Rd.leftS s := by
  obtain ⟨_, _, _, _, _, _, _, q3, _⟩ := h.cells
  rw [q3]
  cases s with
  | inl a => rfl
  | inr r => rw [h.meas]; rfl
theorem rel_rule {en : Int} {r : List Tk.Tok} {f n N : Nat} {u : Tr.Rule} {s : Int ⊕ List Tk.Tok} {acc : List Tr.Rule} {X : Int ⊕ List Tr.Rule} (hE : Rd.Ends (Pr.rule en r) u s) (hX : (match Pr.rule en r with
    | .inl a => Sum.inl a
    | .inr x => Pr.rules en f (acc ++ [x.1]) x.2) = X) (hlen : n + r.length ≤ N) (hrf : r.length ≤ f + 1) :
    ((∃ a, s = .inl a ∧ X = .inl a) ∨ (∃ r' f', s = .inr r' ∧ n + 1 + r'.length ≤ N ∧ r'.length ≤ f' ∧ Pr.rules en f' (acc ++ [u]) r' = X)) ∧ Rd.leftS s < r.length + 1 := by
  cases hR : Pr.rule en r with
  | inl a =>
    rw [hR] at hE hX
    obtain rfl : s = .inl a := hE
    exact ⟨.inl ⟨a, rfl, hX.symm⟩, Nat.succ_pos _⟩
  | inr x =>
    have hl : x.2.length < r.length := rule_len hR
    rw [hR] at hE hX
    obtain ⟨h1, h2⟩ := (hE : u = x.1 ∧ s = .inr x.2)
    subst h1 h2
    exact ⟨.inr ⟨x.2, f, rfl, by omega, by omega, hX⟩, by show x.2.length + 1 < _; omega⟩

set_option maxRecDepth 100000 in
set_option maxHeartbeats 2000000 in
theorem ParseOf_any (s : ByteArray) (w : World) : Calls Tryz.prog 20 #[.string s] w (ParseTop (Pr.parse s.data.toList) w) := by
  obtain ⟨i0, hi, hz0, hz1, hz2⟩ := info_parts A_info49
  obtain ⟨j0, hj, hy0, hy1, hy2⟩ := info_parts A_info43
  rw [parse_eq]
  have HS : Hid (∀ w, Calls Tryz.prog 49 #[.string s] w (ScanTop s.data.toList w)) := fun w => ScanOf_any s w
  have hL : (Tk.scan s.data.toList).1.length ≤ 5000 := Tk.scan_length _
  have hG : ∀ t ∈ (Tk.scan s.data.toList).1, Tk.Good t := Tk.scan_good _
  unfold ScanTop at HS
  rcases hX : Tk.scan s.data.toList with ⟨T, p, E⟩
  rw [hX] at HS hL hG
  simp only at HS hL hG
  clear hX
  have HQ : Hid (∀ X, Pr.parseOf s.size (T, p, E) = X → ∀ e w', ParseTop X w e w' → ParseTop (Pr.parseOf s.size (T, p, E)) w e w') := by rintro X rfl e w' h; exact h
  generalize ParseTop (Pr.parseOf s.size (T, p, E)) w = Q at HQ ⊢
  go_enter Tryz.func20, Tryz.ntmps20
  go_wp2_with fail
  refine Calls.mono (HS.out _) ?_
  rintro e w1 ⟨ao, cap, rfl, hown, hb⟩
  have hT := toksAt_own hown
  clear hown HS
  have hres : w1.heap[w.heap.size]? = some (.cells #[.slice none 0 0] 36) := (hb.block _ (by simp)).trans (heap_alloc_new w _)
  have hbw : Below w.heap.size w w1 := ((Below.refl w.heap.size w).alloc (Nat.le_refl _) _).trans (hb.mono (by simp))
  obtain ⟨c0, f0⟩ := tree_cell hres
  cases hE : (E == 0)
  · have HP2 : Hid (Pr.parseOf s.size (T, p, E) = ([], (p : Int), E)) := by
      unfold Pr.parseOf
      rw [if_neg (by intro e; simp only at e; rw [e] at hE; exact absurd hE (by decide))]
      exact rfl
    go_wp2_with fail
    exact bodyPost_ret (v := .tuple #[.agg #[.slice none 0 0], .int .i64 p, .int .i64 E]) (by simp [results, Tryz.results20, go_sem, c0]) rfl (HQ.out _ HP2.out _ _ ⟨none, 0, rfl, rulesP_nil _ _, hbw.setCell (p := ⟨w.heap.size, 0, none⟩) (Nat.le_refl _) _⟩)
  · obtain rfl : E = 0 := eq_of_beq hE
    have HP2 : Hid (∀ X, Pr.rules s.size T.length [] T = X → Pr.parseOf s.size (T, p, 0) = match X with
      | .inl a => ([], a, 1)
      | .inr t => if Tr.check t = 0 then (t, 0, 0) else ([], 0, Tr.check t)) := by
      rintro X rfl
      unfold Pr.parseOf
      rw [if_pos rfl]
      exact rfl
    have hst := TInv.start (en := s.size) (cap := cap) hT hL hG hbw hres
    clear hE c0 f0 hT hb hres hbw hG
    generalize hRR : (s.size : Int) = en at *
    go_wp2_with fail
    clear hRR
    generalize (w1.alloc (.cells #[.slice ao T.length cap, .int .i64 0, .int .i64 en, .bool false] 89)).alloc (.cells #[.slice none 0 0] 36) = w2 at *
    generalize w1.heap.size + 1 = TB at *
    generalize w1.heap.size = R at *
    go_loopw [] (fun wr => ∃ (v : Value) (q : List (Tr.Rule × Value × Value)) (sx : Int ⊕ List Tk.Tok), TInv w wr R TB T en sx v q ∧ q.length ≤ 5001 ∧ ((∃ a, sx = .inl a ∧ Pr.rules en T.length [] T = .inl a) ∨ (∃ r f, sx = .inr r ∧ q.length + r.length ≤ T.length ∧ r.length ≤ f ∧ Pr.rules en f (q.map (·.1)) r = Pr.rules en T.length [] T)))
      (fun wr => Rd.leftR (wr.cell? ⟨R, 3, none⟩) (T.length - nxOf wr R))
    case atStart => exact ⟨_, [], .inr T, hst, by simp, .inr ⟨T, T.length, rfl, by simp, Nat.le_refl _, rfl⟩⟩
    case round =>
      rename World => wo
      obtain ⟨v, q, sx, hI, hq5, hcase⟩ := hrel
      clear hst
      obtain ⟨aov, capv, rfl⟩ := own_slice hI.own
      rcases hcase with ⟨a, rfl, hXa⟩ | ⟨r, f, rfl, hlen, hrf, hXr⟩
      · have HP3 : Hid (Pr.parseOf en (T, p, 0) = ([], a, 1)) := HP2.out _ hXa
        obtain ⟨nx, ao', cap', hnx, q0, q1, q2, q3, f1, f3⟩ := hI.rd.cells
        replace q3 : wo.cell? ⟨R, 3, none⟩ = some (.bool true) := q3
        have HH := Here_any R T en (.inl a) wo hI.rd
        have HH : Calls Tryz.prog 50 #[.pointer (some ⟨R, 0, none⟩)] wo fun e w' => e = .returned (.int .i64 a) ∧ ∃ k, w' = wo.drewN k := HH
        obtain ⟨t0, t1, x0, x1⟩ := hI.cells
        clear HP2 hXa
        go_wp2_with fail
        refine HH.mono ?_
        rintro e w3 ⟨rfl, k3, rfl⟩
        go_wp2_with fail
        exact bodyPost_ret (v := .tuple #[.agg #[.slice none 0 0], .int .i64 a, .int .i64 1]) (by simp [results, Tryz.results20, go_sem, x0]) rfl (HQ.out _ HP3.out _ _ ⟨none, 0, rfl, rulesP_nil _ _, (below_drewN hI.bel k3).setCell (p := ⟨w.heap.size, 0, none⟩) (Nat.le_refl _) _⟩)
      · obtain ⟨nx, ao', cap', h1, _, _, h4, h5, _⟩ := hI.rd
        have h5 : T.drop nx = r := h5
        have q0 : wo.cell? ⟨R, 0, none⟩ = some (.slice ao' T.length cap') := by rw [Lib.cell_of_heap h4]; rfl
        have q1 : wo.cell? ⟨R, 1, none⟩ = some (.int .i64 nx) := by rw [Lib.cell_of_heap h4]; rfl
        have q3 : wo.cell? ⟨R, 3, none⟩ = some (.bool false) := by rw [Lib.cell_of_heap h4]; rfl
        clear h4
        by_cases hr : r = []
        · subst hr
          have hnx : nx = T.length := by
            have := congrArg List.length h5
            simp at this
            omega
          subst hnx
          have hXe : Pr.rules en T.length [] T = .inr (q.map (·.1)) := by
            cases f <;> simpa [Pr.rules] using hXr.symm
          have HP3 : Hid (Pr.parseOf en (T, p, 0) = if Tr.check (q.map (·.1)) = 0 then ((q.map (·.1)), 0, 0) else ([], 0, Tr.check (q.map (·.1)))) := HP2.out _ hXe
          have hP := hI.rules
          have hqm : (q.map (·.1)).length = q.length := by simp
          have hbel := hI.bel
          have hszT := hI.sz
          have hltT := hI.ltT
          have hltR := hI.ltR
          obtain ⟨t0, t1, x0, x1⟩ := hI.cells
          have hres := hI.res
          have htre := hI.tre
          clear hXe hXr HP2 h5 hI
          generalize q.map (·.1) = t at hP hqm HP3
          have HK : Hid (∀ w, RulesV w (.slice aov q.length capv) t → Calls Tryz.prog 43 #[.agg #[.slice aov q.length capv]] w fun e w' => e = .returned (.int .i64 (Tr.check t)) ∧ Below w.heap.size w w') := fun w h => CheckTree_any t _ w h
          have hdl : decide (T.length < T.length) = false := by simp
          go_wp2_with fail
          refine Calls.mono (HK.out _ hP.toV) ?_
          rintro e w3 ⟨rfl, hb3⟩
          have hres4 := (hb3.block _ (heap_lt hres)).trans hres
          have htr4 := (hb3.block _ (heap_lt htre)).trans htre
          have hbw4 := hbel.trans (hb3.mono hbel.size)
          have hP4 := hP.below hb3
          clear HK hres htre hb3 hP t0 t1 x0 x1 q0 q1 q3
          obtain ⟨c0, f0⟩ := tree_cell hres4
          obtain ⟨c1, f1⟩ := tree_cell htr4
          cases hC : (Tr.check t == 0)
          · have HP4 : Hid (Pr.parseOf en (T, p, 0) = ([], 0, Tr.check t)) := by
              have := HP3.out
              rw [if_neg (by intro e; rw [e] at hC; exact absurd hC (by decide))] at this
              exact this
            go_wp2_with fail
            exact bodyPost_ret (v := .tuple #[.agg #[.slice none 0 0], .int .i64 0, .int .i64 (Tr.check t)]) (by simp [results, Tryz.results20, go_sem, c0]) rfl (HQ.out _ HP4.out _ _ ⟨none, 0, rfl, rulesP_nil _ _, hbw4.setCell (p := ⟨w.heap.size, 0, none⟩) (Nat.le_refl _) _⟩)
          · have HP4 : Hid (Pr.parseOf en (T, p, 0) = (t, 0, 0)) := by
              have := HP3.out
              rw [if_pos (eq_of_beq hC)] at this
              exact this
            have hC0 : Tr.check t = 0 := eq_of_beq hC
            generalize Tr.check t = ct at *
            subst hC0
            clear hC
            go_wp2_with fail
            exact bodyPost_ret (v := .tuple #[.agg #[.slice aov q.length capv], .int .i64 0, .int .i64 0]) (by simp [results, Tryz.results20, go_sem, c0]) rfl (HQ.out _ HP4.out _ _ ⟨aov, capv, by rw [hqm], by rw [hqm]; exact (hP4.set (by omega) _ _).mono (by omega), hbw4.setCell (p := ⟨w.heap.size, 0, none⟩) (Nat.le_refl _) _⟩)
        · obtain ⟨f, rfl⟩ : ∃ f', f = f' + 1 := by
            cases r with
            | nil => exact absurd rfl hr
            | cons t l => exact ⟨f - 1, by simp at hrf; omega⟩
          have hlt : nx < T.length := by
            rcases Nat.lt_or_ge nx T.length with h | h
            · exact h
            · exact absurd (h5.symm.trans (List.drop_of_length_le h)) hr
          have hdl : decide (nx < T.length) = true := decide_eq_true hlt
          have HXR : Hid _ := (rules_step (en := en) (f := f) (acc := q.map (·.1)) hr).symm.trans hXr
          have hmeas := hI.rd.meas
          have HH := Here_any R T en (.inr r) wo hI.rd
          have HNM : Hid (∀ w1, RAt w1 R T en (.inr r) → _) := fun w1 h => Name_any R T en (.inr r) w1 h
          have HER : Hid (∀ nm s1 p s2 b s3, Rd.Ends (Rd.on (Pr.name en) (.inr r)) nm s1 → Rd.Ends (Rd.on (Pr.terms true en) s1) p s2 → Rd.Ends (Rd.body p.2 en s2) b s3 → Rd.Ends (Pr.rule en r) ⟨Rd.here en (.inr r), nm, p.1, p.2, b⟩ (Rd.need [46] en s3)) := fun nm s1 p s2 b s3 a b c => Rd.ends_rule a b c
          generalize Rd.here en (.inr r) = at_ at *
          clear hXr h5 HP2 HQ
          go_wp2_with fail
          refine HH.mono ?_
          rintro e w3 ⟨rfl, k3, hw3⟩
          have hU := RU.start hI.rd (show Below wo.heap.size wo w3 by rw [hw3]; exact below_drewN (Below.refl _ _) k3) at_
          have hsz3 : wo.heap.size = w3.heap.size := by rw [hw3]; rfl
          clear HH hw3
          go_upto_region 8 with fail
          generalize w3.alloc (.cells #[.int .i64 at_, .string ⟨#[]⟩, .slice none 0 0, .int .i64 0, .slice none 0 0] 57) = w4 at *
          generalize hB : w3.heap.size = B at *
          clear hB q0 q1 q3
          obtain ⟨c0, c1, c2, c3, c4, f1⟩ := hU.cells
          go_wp2_with fail
          refine Calls.mono (HNM.out _ hU.went.2) ?_
          rintro e w5 ⟨nm, s1, rfl, hE1, hA5, hg5⟩
          have HE1 : Hid _ := hE1
          have hU2 := hU.on ⟨hg5, hA5⟩
          clear hU hE1 hA5 hg5 HNM c0 c1 c2 c3 c4 f1
          obtain ⟨c0, c1, c2, c3, c4, f1⟩ := hU2.cells
          have hU3 := hU2.setName nm
          go_wp2_with fail
          refine (Terms_any true R T en s1 _ hU3.went.2).mono ?_
          rintro e w7 ⟨tv, pp, s2, rfl, hE2, hT7, hW7⟩
          have HE2 : Hid _ := hE2
          have hU4 := hU3.on hW7
          have hT7' := hT7.mono (B' := B + 1) hU3.sz
          clear hE2 hU2 hU3 hW7 c0 c1 c2 c3 c4 f1
          obtain ⟨c0, c1, c2, c3, c4, f1⟩ := hU4.cells
          obtain ⟨aot, capt, htv, _⟩ := hT7
          rw [List.length_map] at htv
          subst htv
          have hU5 := hU4.setTerms hT7' pp.2
          go_upto_region 10 with fail
          generalize (w7.setCell ⟨B, 2, none⟩ (.slice aot pp.1.length capt)).setCell ⟨B, 3, none⟩ (.int .i64 pp.2) = w8 at *
          clear c0 c1 c2 c3 c4 f1 hU4 hT7'
          obtain ⟨c0, c1, c2, c3, c4, f1⟩ := hU5.cells
          have HTX := Text_any R T en s2 w8 hU5.went.2
          go_cut [53] (fun v wx => v = .bool (Rd.goesOn pp.2 s2) ∧ ∃ k, wx = w8.drewN k)
          case first =>
            have HG : Hid (Rd.goesOn pp.2 s2 = (decide (0 < pp.2) || !(Rd.text s2 == [46]))) := rfl
            generalize Rd.goesOn pp.2 s2 = G at *
            generalize Rd.text s2 = ty at *
            by_cases hf : 0 < pp.2
            · have hd : decide ((0 : Int) < pp.2) = true := decide_eq_true hf
              have hG := HG.out
              rw [hd] at hG
              subst hG
              clear HG hf
              go_wp2_with fail
              go_meet
              exact ⟨rfl, 0, rfl⟩
            · have hd : decide ((0 : Int) < pp.2) = false := decide_eq_false hf
              have hG := HG.out
              rw [hd] at hG
              clear HG hf
              go_wp2_with fail
              refine HTX.mono ?_
              rintro e w9 ⟨rfl, k9, rfl⟩
              go_wp2_with fail
              go_meet
              refine ⟨?_, k9, rfl⟩
              rw [hG]
              simp
          case rest =>
            obtain ⟨rfl, k9, rfl⟩ := hcut
            have hU6 := hU5.drew k9
            clear c0 c1 c2 c3 c4 f1 hU5 HTX
            generalize w8.drewN k9 = w9 at *
            go_upto_if 53 with fail
            go_cut [] (fun wx => ∃ bv bq s3, Rd.Ends (Rd.body pp.2 en s2) (bq.map (·.1)) s3 ∧ RU wo wx B R T en s3 at_ nm (.slice aot pp.1.length capt) pp.1 pp.2 bv bq)
            case first =>
              cases hG : Rd.goesOn pp.2 s2
              · have HE3 : Hid (Rd.Ends (Rd.body pp.2 en s2) (([] : List (Tr.Lit × Value)).map (·.1)) s2) := by
                  show Rd.Ends _ _ _
                  unfold Rd.body
                  rw [hG]
                  simp only [Bool.false_eq_true, if_false]
                  cases s2 with
                  | inl a => exact rfl
                  | inr r => exact ⟨rfl, rfl⟩
                go_wp2_with fail
                go_meet
                exact ⟨_, [], s2, HE3.out, hU6⟩
              · have HEB : Hid (∀ X, Rd.on (Pr.lits en (Rd.lenS (Rd.need [58, 45] en s2) + 1) []) (Rd.need [58, 45] en s2) = X → Rd.body pp.2 en s2 = X) := by
                  intro X hX
                  unfold Rd.body
                  rw [hG, ← hX]
                  simp only [if_true]
                  cases Rd.need [58, 45] en s2 <;> rfl
                have HN := Need_any [58, 45] (by simp) R T en s2 w9 hU6.went.2
                clear hG
                go_wp2_with fail
                refine HN.mono ?_
                rintro e w10 ⟨rfl, hA10, hg10⟩
                have hU7 := hU6.on ⟨hg10, hA10⟩
                clear hU6 HN hg10
                generalize Rd.need [58, 45] en s2 = s3 at *
                have hlen3 : Rd.lenS s3 ≤ T.length := by
                  cases s3 with
                  | inl a => exact Nat.zero_le _
                  | inr r => exact hA10.len.1
                clear hA10
                generalize hLX : Rd.on (Pr.lits en (Rd.lenS s3 + 1) []) s3 = LX at *
                have HEB2 : Hid (Rd.body pp.2 en s2 = LX) := HEB.out LX rfl
                clear HEB
                go_wp2_with fail
                go_loopw [11] (fun c wx => ∃ (bv : Value) (bq : List (Tr.Lit × Value)) (s4 : Int ⊕ List Tk.Tok), RU wo wx B R T en s4 at_ nm (.slice aot pp.1.length capt) pp.1 pp.2 bv bq ∧ bq.length ≤ 5001 ∧
                    ((c = .bool true ∧ bq.length + Rd.lenS s4 ≤ T.length ∧ ∃ f, Rd.lenS s4 < f ∧ Rd.on (Pr.lits en f (bq.map (·.1))) s4 = LX) ∨ (c = .bool false ∧ Rd.Ends LX (bq.map (·.1)) s4)))
                  (fun c wx => Rd.left c (T.length - nxOf wx R))
                case atStart => exact ⟨_, [], s3, hU7, by simp, .inl ⟨rfl, by simpa using hlen3, _, Nat.lt_succ_self _, hLX⟩⟩
                case round =>
                  obtain ⟨bv, bq, s4, hUr, hbq, hc⟩ := hrel
                  clear hU7 hlen3 hLX
                  obtain ⟨aob, capb, rfl⟩ := own_slice hUr.own
                  obtain ⟨nx4, ao4, cap4, hnx4, q0, q1, q2, q3, g1, g3⟩ := hUr.went.2.cells
                  rcases hc with ⟨rfl, hlen4, f4, hf4, hX4⟩ | ⟨rfl, hE4⟩
                  · cases s4 with
                    | inl a =>
                      have HE4 : Hid (Rd.Ends (Rd.body pp.2 en s2) (bq.map (·.1)) (.inl a)) := by show Rd.Ends _ _ _; rw [HEB2.out, ← hX4]; exact rfl
                      replace q3 : wr.cell? ⟨R, 3, none⟩ = some (.bool true) := q3
                      clear hX4
                      go_wp2_with fail
                      go_meet
                      exact ⟨_, bq, _, HE4.out, hUr⟩
                    | inr r4 =>
                      replace q3 : wr.cell? ⟨R, 3, none⟩ = some (.bool false) := q3
                      obtain ⟨f4, rfl⟩ : ∃ f', f4 = f' + 1 := ⟨f4 - 1, by omega⟩
                      have HX4 : Hid (Pr.lits en (f4 + 1) (bq.map (·.1)) r4 = LX) := hX4
                      have hms := hUr.went.2.meas
                      have HLT : Hid (∀ w1, RAt w1 R T en (.inr r4) → _) := fun w1 h => Lit_any R T en (.inr r4) w1 h
                      unfold RLitEnd at HLT
                      obtain ⟨c0, c1, c2, c3, c4, f1⟩ := hUr.cells
                      have hRB : R < B + 1 := by have := hUr.lt; have := hUr.ltB; omega
                      clear hX4
                      go_upto_region 14 with fail
                      go_cut [] (fun wx => ∃ bv l1 lv s5, Rd.Ends (Pr.lit en r4) l1 s5 ∧ RU wo wx B R T en s5 at_ nm (.slice aot pp.1.length capt) pp.1 pp.2 bv (bq ++ [(l1, lv)]))
                      case first =>
                        go_region_law (first
                          | (go_simp; go_at_call 55; refine Calls.mono (HLT.out _ (RAt.keep hUr.went.2 (fun _ _ => rfl))) ?_; rintro e y2 ⟨l1, lv, s5, rfl, hE5, hTl, hW5⟩; have HE5 : Hid _ := hE5; have hU8 := RU.on2 hUr hW5 ⟨rfl, rfl, rfl, Nat.le_refl _, fun _ _ => rfl⟩; have hTl2 := TermsP.mono (B' := B + 1) hTl hUr.sz; obtain ⟨aol, capl, hlv, hTl'⟩ := hTl; simp only [List.length_map] at hlv; subst hlv; obtain ⟨d0, d1, d2, d3, d4, g1⟩ := hU8.cells; have hsz := hU8.sz; clear hE5; dsimp only)
                          | (refine step_append_lies _ rfl (.tmp 62) (.tmp 64) 55 rfl (B + 1) 61 i0 _ 5 64 Tryz.underlying55 hi hz0 hz1 hz2 rfl (by decide) (.slice aob bq.length capb) bq.length _ ?hs (RU.below hU8 ((Below.refl _ _).alloc (Nat.le_refl _) _)).own ⟨y2.heap.size, 0, none⟩ 1 1 (litCells (l1, .slice aol l1.terms.length capl)) ?hx rfl ?hn ?ho ?hm ?h6 ?hb ?hB _ rfl ?_
                             case hs => simp [Act.eval]
                             case hx => simp [Act.eval]
                             case hn => exact news_lit _ _ _
                             case ho => exact one_lit _ _ _ _
                             case hm => decide
                             case h6 => (unfold maxLen; omega)
                             case hb => omega
                             case hB => (simp; omega)
                             intro g cap y3 hown hgrow hat hlt
                             have hU9 := RU.put (RU.below hU8 ((Below.refl _ _).alloc (Nat.le_refl _) _)) hgrow (hTl2.keep (keeps_below _ ((Below.refl _ _).alloc (Nat.le_refl _) _))) hown
                             obtain ⟨_, e4, ef⟩ := RU.app (RU.below hU8 ((Below.refl _ _).alloc (Nat.le_refl _) _)) hgrow))
                        all_goals (go_wp2_with fail; go_meet)
                        all_goals exact ⟨_, l1, _, s5, HE5.out, hU9⟩
                      case rest =>
                        obtain ⟨bv, l1, lv, s5, hE5, hU9⟩ := hcut
                        have HE5 : Hid (Rd.Ends (Pr.lit en r4) l1 s5) := hE5
                        generalize wc = w14 at *
                        clear hE5 hUr HLT c0 c1 c2 c3 c4 f1 q0 q1 q2 q3 g1 g3
                        have HT9 := Text_any R T en s5 w14 hU9.went.2
                        have hlen4' : bq.length + r4.length ≤ T.length := hlen4
                        have hf4' : r4.length < f4 + 1 := hf4
                        have hbl : ∀ lv' : Value, (bq ++ [(l1, lv')]).length = bq.length + 1 := fun lv' => by simp
                        have hbm : ∀ lv' : Value, (bq ++ [(l1, lv')]).map (fun (x : Tr.Lit × Value) => x.1) = bq.map (fun (x : Tr.Lit × Value) => x.1) ++ [l1] := fun lv' => by simp
                        cases hq : (Rd.text s5 == [44])
                        · have HE7 : Hid (Rd.Ends LX ((bq ++ [(l1, lv)]).map (·.1)) s5) := by
                            show Rd.Ends _ _ _
                            rw [hbm]
                            have h := HE5.out
                            have hx := HX4.out
                            cases hT : Pr.lit en r4 with
                            | inl a => rw [lits_no hT] at hx; rw [hT] at h; rw [← hx]; exact h
                            | inr y =>
                              rw [lits_yes hT] at hx
                              rw [hT] at h
                              obtain ⟨h1, h2⟩ := (h : l1 = y.1 ∧ s5 = .inr y.2)
                              subst h1 h2
                              unfold Pr.after at hx
                              rw [Rd.text_no hq] at hx
                              rw [← hx]
                              exact ⟨rfl, rfl⟩
                          clear HX4 HE5
                          generalize Rd.text s5 = tq at *
                          go_wp2_with fail
                          refine HT9.mono ?_
                          rintro e w15 ⟨rfl, k15, rfl⟩
                          go_wp2_with fail
                          go_roundw
                          case rel => exact ⟨_, bq ++ [(l1, lv)], s5, hU9.drew k15, by rw [hbl]; omega, .inr ⟨rfl, HE7.out⟩⟩
                          case measure => exact Nat.succ_pos _
                        · obtain ⟨r6, rfl, hy⟩ := Rd.text_yes (en := en) (by simp) hq
                          have hT : Pr.lit en r4 = .inr (l1, r6) := by
                            have h := HE5.out
                            cases hT : Pr.lit en r4 with
                            | inl a => rw [hT] at h; exact absurd h (by simp [Rd.Ends])
                            | inr y =>
                              rw [hT] at h
                              obtain ⟨h1, h2⟩ := (h : l1 = y.1 ∧ Sum.inr r6 = Sum.inr y.2)
                              injection h2 with h2
                              rw [h1, h2]
                          have hl6 : r6.length < r4.length := lit_len hT
                          have HX8 : Hid (Rd.on (Pr.lits en f4 ((bq ++ [(l1, lv)]).map (·.1))) (.inr r6.tail) = LX) := by
                            show Pr.lits en f4 _ r6.tail = LX
                            have hx := HX4.out
                            rw [lits_yes hT] at hx
                            unfold Pr.after at hx
                            rw [hbm, ← hx]
                            simp only [hy, if_true]
                          have hlt6 : r6.tail.length ≤ r6.length := by simp
                          clear HX4 HE5 hT
                          generalize Rd.text (.inr r6) = tq at *
                          go_wp2_with fail
                          refine HT9.mono ?_
                          rintro e w15 ⟨rfl, k15, rfl⟩
                          have hU10 := hU9.drew k15
                          have HN := Need_any [44] (by simp) R T en (.inr r6) _ hU10.went.2
                          rw [Rd.need_yes hy] at HN
                          go_wp2_with fail
                          refine HN.mono ?_
                          rintro e w16 ⟨rfl, hA16, hg16⟩
                          go_wp2_with fail
                          go_roundw
                          case rel => exact ⟨_, bq ++ [(l1, lv)], .inr r6.tail, hU10.on ⟨hg16, hA16⟩, by rw [hbl]; omega, .inl ⟨rfl, by rw [hbl]; show bq.length + 1 + r6.tail.length ≤ T.length; omega, f4, by show r6.tail.length < f4; omega, HX8.out⟩⟩
                          case measure =>
                            show (T.length - nxOf w16 R) + 1 < (T.length - nxOf wr R) + 1
                            rw [hA16.meas, hms]
                            omega
                  · have HE4 : Hid (Rd.Ends (Rd.body pp.2 en s2) (bq.map (·.1)) s4) := by show Rd.Ends _ _ _; rw [HEB2.out]; exact hE4
                    clear hE4
                    go_wp2_with fail
                    go_meet
                    exact ⟨_, bq, _, HE4.out, hUr⟩
            case rest =>
              obtain ⟨bv, bq, s3, hE3, hU7⟩ := hcut
              have HE3 : Hid _ := HER.out _ _ _ _ _ _ HE1.out HE2.out hE3
              generalize wc = w12 at *
              clear hE3 hU6 HE1 HE2 HER
              obtain ⟨aob, capb, rfl⟩ := own_slice hU7.own
              have HN := Need_any [46] (by simp) R T en s3 w12 hU7.went.2
              go_wp2_with fail
              refine HN.mono ?_
              rintro e w13 ⟨rfl, hA13, hg13⟩
              have hU8 := hU7.on ⟨hg13, hA13⟩
              have hI8 := hI.on hU8.went
              have hTrm := hU8.trm.mono (B' := TB + 1) (by have := hU8.ltB; have := hI.sz; omega)
              have hLts := hU8.lits.mono (B' := TB + 1) (by have := hU8.ltB; have := hI.sz; omega)
              obtain ⟨c0, c1, c2, c3, c4, f1⟩ := hU8.cells
              obtain ⟨t0, t1, x0, x1⟩ := hI8.cells
              have hszT := hI8.sz
              clear HN hU7 hA13 hg13
              generalize Rd.need [46] en s3 = s5 at *
              go_wp2_with (at_builtin; refine wpList_append_own _ rfl (.tmp 73) (.tmp 75) 34 rfl (TB + 1) 57 j0 _ 5 80 Tryz.underlying34 hj hy0 hy1 hy2 rfl (by decide) _ _ _ rfl (ownsRow_below hI8.own ((Below.refl _ _).alloc (Nat.le_refl _) _)) ⟨w13.heap.size, 0, none⟩ 1 1 (ruleCells (⟨at_, nm, pp.1, pp.2, bq.map (·.1)⟩, .slice aot pp.1.length capt, .slice aob bq.length capb)) rfl rfl ?c1 ?c2 ?c3 ?c4 ?c5 ?_)
              case c1 => exact news_rule _ ⟨at_, nm, pp.1, pp.2, bq.map (·.1)⟩ _ _
              case c2 => exact one_rule _ _ _ _ _ _ _
              case c3 => unfold maxLen; omega
              case c4 => omega
              case c5 => simp; omega
              intro v' w14 hown14 hgrow _
              have hI9 := TInv.put (v' := v') (p := (⟨at_, nm, pp.1, pp.2, bq.map (·.1)⟩, .slice aot pp.1.length capt, .slice aob bq.length capb)) (hI8.below ((Below.refl _ _).alloc (Nat.le_refl _) _)) hgrow (hTrm.keep (keeps_below _ ((Below.refl _ _).alloc (Nat.le_refl _) _))) (hLts.keep (keeps_below _ ((Below.refl _ _).alloc (Nat.le_refl _) _))) hown14
              obtain ⟨_, e4, ef⟩ := TInv.app (hI8.below ((Below.refl _ _).alloc (Nat.le_refl _) _)) hgrow
              obtain ⟨ao9, cap9, rfl⟩ := own_slice hown14
              clear c0 c1 c2 c3 c4 f1 t0 t1 x0 x1 hTrm hLts hU8 hI8
              go_wp2_with fail
              go_roundw
              case rel =>
                refine ⟨_, _, s5, hI9, by rw [List.length_append]; show q.length + 1 ≤ 5001; omega, ?_⟩
                have hr := (rel_rule HE3.out HXR.out hlen hrf).1
                rcases hr with ⟨a, h1, h2⟩ | ⟨r', f', h1, h2, h3, h4⟩
                · exact .inl ⟨a, h1, h2⟩
                · exact .inr ⟨r', f', h1, by rw [List.length_append]; exact h2, h3, by rw [List.map_append]; exact h4⟩
              case measure =>
                rw [hI9.rd.left, hI.rd.left]
                exact (rel_rule HE3.out HXR.out hlen hrf).2

end Go.Proofs.YtgpaleifhcdjnaaGreatDoor

/- What must be in any case: the statements' own small text. -/
namespace Go.Proofs.YtgpaleifhcdjnaaGreatDoor
open Go.RowKit

def smallL : List UInt8 := [113, 40, 49, 44, 32, 50, 41, 46, 10, 112, 40, 88, 44, 32, 99, 111, 117, 110, 116, 32, 89, 41, 32, 58, 45, 32, 113, 40, 88, 44, 32, 89, 41, 44, 32, 110, 111, 116, 32, 114, 40, 89, 41, 44, 32, 88, 32, 60, 32, 89, 46, 10]
def smallB : ByteArray := ⟨#[113, 40, 49, 44, 32, 50, 41, 46, 10, 112, 40, 88, 44, 32, 99, 111, 117, 110, 116, 32, 89, 41, 32, 58, 45, 32, 113, 40, 88, 44, 32, 89, 41, 44, 32, 110, 111, 116, 32, 114, 40, 89, 41, 44, 32, 88, 32, 60, 32, 89, 46, 10]⟩
def smallT : List Tr.Rule := (Pr.parse smallL).1
set_option maxRecDepth 100000 in
theorem small_ok : (Pr.parse smallL).2 = (0, 0) := by kernel_rfl
theorem small_parse : Pr.parse smallL = (smallT, 0, 0) := by unfold smallT; rw [← small_ok]
theorem small_len : smallT.length = 2 := by kernel_rfl
theorem small_fold : (Tr.ruleD smallT 1).fold = 1 := by kernel_rfl
theorem small_body : (Tr.ruleD smallT 1).body.length = 3 := by kernel_rfl
theorem small_kind : (Tr.litD (Tr.ruleD smallT 1).body 1).kind = 2 := by kernel_rfl
theorem small_check : Tr.check smallT = 0 := by kernel_rfl

set_option maxRecDepth 100000 in
set_option maxHeartbeats 1000000 in
theorem treeBegun_any (w : World) : Calls Tryz.prog 18 #[] w fun e w' => e = .returned (.bool true) ∧ Below w.heap.size w w' := by
  have HP : Hid (∀ w, Calls Tryz.prog 22 #[.string smallB] w fun e w' => ∃ ao cap, e = .returned (.tuple #[.agg #[.slice ao 2 cap], .int .i64 0, .int .i64 0]) ∧ RulesV w' (.slice ao 2 cap) smallT ∧ Below w.heap.size w w') := by
    intro w
    have h := Parse_any smallB w
    rw [show smallB.data.toList = smallL from rfl, small_parse] at h
    refine h.mono ?_
    rintro e w' ⟨ao, cap, he, hR, hb⟩
    simp only [small_len] at he hR
    exact ⟨ao, cap, he, hR.toV, hb⟩
  have HC : Hid (∀ w ao cap, RulesV w (.slice ao 2 cap) smallT → Calls Tryz.prog 41 #[.agg #[.slice ao 2 cap]] w fun e w' => e = .returned (.int .i64 0) ∧ Below w.heap.size w w') := by
    intro w ao cap h
    have := Check_any smallT _ w h
    rw [small_check] at this
    exact this
  unfold smallB at HP
  go_enter Tryz.func18, Tryz.ntmps18
  go_wp2_with fail
  refine Calls.mono (HP.out _) ?_
  rintro e w1 ⟨ao, cap, rfl, hR, hb⟩
  have hR1 := rulesV_below hR ((Below.refl _ _).alloc (Nat.le_refl _) (.cells #[.slice ao 2 cap] 36))
  obtain ⟨aor, capr, hv, hRA⟩ := hR
  rcases hRA with h | ⟨b, off, hao, hc⟩
  · exact absurd (congrArg List.length h) (by rw [small_len]; decide)
  obtain ⟨r0, r1, r2, r3, lv, r4, hL⟩ := hc 1 (by rw [small_len]; decide)
  rw [small_fold] at r3
  obtain ⟨aol, capl, rfl, hLA⟩ := hL
  rw [small_body] at r4
  rcases hLA with h | ⟨b2, off2, rfl, hc2⟩
  · exact absurd (congrArg List.length h) (by rw [small_body]; decide)
  have l0 := (hc2 1 (by rw [small_body]; decide)).1
  rw [small_kind] at l0
  rw [small_len] at hv
  injection hv with e1 e2 e3
  subst e1
  subst e3
  subst hao
  clear hc hc2 r0 r1 r2 HP
  have hb1 : b < w1.heap.size := World.block_lt_of_cell? w1 _ r3
  have hb2 : b2 < w1.heap.size := World.block_lt_of_cell? w1 _ l0
  go_wp2_with fail
  refine Calls.mono (HC.out _ _ _ hR1) ?_
  rintro e w2 ⟨rfl, hb3⟩
  have hbel := (hb.alloc hb.size (.cells #[.slice (some ⟨b, off, none⟩) 2 cap] 36)).trans (hb3.mono (by simp; exact Nat.le_succ_of_le hb.size))
  clear HC hR1 r3 r4 l0 hb hb3
  go_wp2_with fail
  go_ret
  exact ⟨rfl, hbel⟩

end Go.Proofs.YtgpaleifhcdjnaaGreatDoor

/- What must be in any case, of package show. -/
namespace Go.Proofs.YtgpaleifhcdjnaaGreatDoor
open Go.RowKit

namespace Tr
theorem listEq_refl {α : Type} {p : α → α → Bool} (h : ∀ x, p x x = true) : ∀ l : List α, listEq p l l = true
  | [] => rfl
  | x :: r => by unfold listEq; rw [h x, listEq_refl h r]; rfl
theorem termsEq_refl (l : List Term) : termsEq l l = true := listEq_refl (fun x => by simp [termEq]) l
theorem treeEq_refl (q : Bool) (l : List Rule) : treeEq q l l = true :=
  listEq_refl (fun x => by simp [ruleEq, headEq, termsEq_refl, listEq_refl (p := litEq q) (fun y => by simp [litEq, termsEq_refl]) x.body]) l
end Tr

def smallX : List Tr.Rule := [⟨0, [113], [⟨[], 1⟩, ⟨[], 2⟩], 0, []⟩, ⟨9, [112], [⟨[88], 0⟩, ⟨[89], 0⟩], 1, [⟨1, 26, 0, [113], [⟨[88], 0⟩, ⟨[89], 0⟩]⟩, ⟨2, 35, 0, [114], [⟨[89], 0⟩]⟩, ⟨3, 45, 1, [], [⟨[88], 0⟩, ⟨[89], 0⟩]⟩]⟩]
theorem small_eq : smallT = smallX := by kernel_rfl
theorem itoa_one : Lib.itoa 1 = [49] := by unfold Lib.itoa; rw [if_neg (by decide), Lib.decDigits, dif_pos (by decide)]; rfl
theorem itoa_two : Lib.itoa 2 = [50] := by unfold Lib.itoa; rw [if_neg (by decide), Lib.decDigits, dif_pos (by decide)]; rfl
theorem small_shown : Sh.shown smallT = smallL := by
  unfold Sh.shown
  rw [small_check, if_pos rfl, small_len, small_eq]
  simp [Sh.rules, Sh.rule, Sh.atom, Sh.terms, Sh.ahead, Sh.sep, Sh.fold, Sh.term, Sh.tail, Sh.lits, Sh.lit, Sh.reck, Sh.third, Sh.sign, Tr.ruleD, Tr.termD, Tr.litD, smallX, smallL, itoa_one, itoa_two]
theorem small_fine : Fine smallT := fine_parse smallB
theorem small_not : Tr.treeEq false smallT [] = false := by kernel_rfl

set_option maxRecDepth 100000 in
set_option maxHeartbeats 1000000 in
theorem showBegun_any (w : World) (hp : Pow w) : Calls Tryz.prog 19 #[] w fun e w' => e = .returned (.bool true) ∧ Below w.heap.size w w' := by
  have HP : Hid (∀ w, Calls Tryz.prog 20 #[.string smallB] w fun e w' => ∃ ao cap, e = .returned (.tuple #[.agg #[.slice ao 2 cap], .int .i64 0, .int .i64 0]) ∧ RulesV w' (.slice ao 2 cap) smallT ∧ Below w.heap.size w w') := by
    intro w
    have h := ParseOf_any smallB w
    rw [show smallB.data.toList = smallL from rfl, small_parse] at h
    refine h.mono ?_
    rintro e w' ⟨ao, cap, he, hR, hb⟩
    simp only [small_len] at he hR
    exact ⟨ao, cap, he, hR.toV, hb⟩
  have HS : Hid (∀ w ao cap, RulesV w (.slice ao 2 cap) smallT → Pow w → Calls Tryz.prog 24 #[.agg #[.slice ao 2 cap]] w fun e w' => e = .returned (.tuple #[strV smallL, .int .i64 0]) ∧ Below w.heap.size w w') := by
    intro w ao cap h hp
    have := Show_any smallT _ w h hp
    rw [small_check, small_shown] at this
    exact this
  have HM : Hid (∀ w ao cap, RulesV w (.slice ao 2 cap) smallT → Calls Tryz.prog 48 #[.agg #[.slice ao 2 cap], .agg #[.slice ao 2 cap]] w fun e w' => e = .returned (.bool true) ∧ Below w.heap.size w w') := by
    intro w ao cap h
    have := Same_any smallT smallT w _ _ h h small_fine
    rw [Tr.treeEq_refl] at this
    exact this
  have HN : Hid (∀ w ao cap, RulesV w (.slice ao 2 cap) smallT → Calls Tryz.prog 48 #[.agg #[.slice ao 2 cap], .agg #[.slice none 0 0]] w fun e w' => e = .returned (.bool false) ∧ Below w.heap.size w w') := by
    intro w ao cap h
    have := Same_any smallT [] w _ (.slice none 0 0) h ⟨none, 0, rfl, .inl rfl⟩ small_fine
    rw [small_not] at this
    exact this
  unfold smallB at HP
  unfold smallL at HS
  go_enter Tryz.func19, Tryz.ntmps19
  go_wp2_with fail
  refine Calls.mono (HP.out _) ?_
  rintro e w1 ⟨ao, cap, rfl, hR, hb⟩
  have hb1 : Below w1.heap.size w1 (w1.alloc (.cells #[.slice ao 2 cap] 36)) := (Below.refl _ _).alloc (Nat.le_refl _) _
  have hR1 := rulesV_below hR hb1
  have htr1 := heap_alloc_new w1 (.cells #[.slice ao 2 cap] 36)
  have hbel1 := hb.trans (hb1.mono hb.size)
  go_upto_region 2 with fail
  generalize w1.alloc (.cells #[.slice ao 2 cap] 36) = w2 at *
  generalize w1.heap.size = X at *
  obtain ⟨c0, _⟩ := tree_cell htr1
  clear HP hb hb1 hR
  go_wp2_with fail
  refine Calls.mono (HS.out _ _ _ hR1 (hp.below hbel1)) ?_
  rintro e w3 ⟨rfl, hb3⟩
  have htr3 := (hb3.block _ (heap_lt htr1)).trans htr1
  have hR3 := rulesV_below hR1 hb3
  have hbel3 := hbel1.trans (hb3.mono hbel1.size)
  clear c0 hR1 htr1 hbel1 hb3 HS
  obtain ⟨c0, _⟩ := tree_cell htr3
  go_wp2_with fail
  refine Calls.mono (HM.out _ _ _ hR3) ?_
  rintro e w4 ⟨rfl, hb4⟩
  have htr4 := (hb4.block _ (heap_lt htr3)).trans htr3
  have hR4 := rulesV_below hR3 hb4
  have hbel4 := hbel3.trans (hb4.mono hbel3.size)
  clear c0 hR3 htr3 hbel3 hb4 HM
  obtain ⟨c0, _⟩ := tree_cell htr4
  go_wp2_with fail
  refine Calls.mono (HN.out _ _ _ hR4) ?_
  rintro e w5 ⟨rfl, hb5⟩
  have hbel5 := hbel4.trans (hb5.mono hbel4.size)
  go_wp2_with fail
  go_ret
  exact ⟨rfl, hbel5⟩

end Go.Proofs.YtgpaleifhcdjnaaGreatDoor

/- The document's texts: digits, terms. -/
namespace Go.Proofs.YtgpaleifhcdjnaaGreatDoor
open Go.RowKit

theorem app_list (a b : List UInt8) : ({ data := a.toArray } : ByteArray) ++ { data := b.toArray } = { data := (a ++ b).toArray } := by
  apply ByteArray.ext
  simp
theorem dec_tiny {u : Nat} (h : u < 10) : Lib.decDigits u = [UInt8.ofNat (48 + u)] := by rw [Lib.decDigits, dif_pos h]
theorem dec_big {u : Nat} (h : ¬ u < 10) : Lib.decDigits u = Lib.decDigits (u / 10) ++ Lib.decDigits (u % 10) := by
  rw [Lib.decDigits, dif_neg h, dec_tiny (Nat.mod_lt u (by decide))]
theorem dec_len7 {u : Nat} (h : u < 10000000) : (Lib.decDigits u).length ≤ 7 := by
  rw [Sh.dec_len]
  exact Sh.nDigits_le 6 u h

set_option maxRecDepth 100000 in
set_option maxHeartbeats 1000000 in
theorem digits_nat : ∀ (u : Nat), u < 10000000 → ∀ w : World, Calls Tryz.prog 99 #[.int .i64 u] w fun e w' => e = .returned (strV (Lib.decDigits u)) ∧ Below w.heap.size w w' := by
  intro u
  induction u using Nat.strongRecOn with
  | _ u ih =>
    intro hu w
    have h0 : decide ((u : Int) < 0) = false := decide_eq_false (by omega)
    by_cases h : u < 10
    · have h1 : decide (u < 10) = true := decide_eq_true h
      have h1' : decide ((u : Int) < 10) = true := decide_eq_true (by omega)
      rw [dec_tiny h]
      have hcell : (w.alloc (.cells #[.int .u8 (48 + (u : Int))] 5)).cell? ⟨w.heap.size, 0, none⟩ = some (.int .u8 (48 + (u : Int))) := by rw [Lib.cell_of_heap (heap_alloc_new w _)]; rfl
      have HC : Hid ((convert 103 9 (.slice (some ⟨w.heap.size, 0, none⟩) 1 1)).run Tryz.prog (w.alloc (.cells #[.int .u8 (48 + (u : Int))] 5)) = .ok (strV [UInt8.ofNat (48 + u)]) (w.alloc (.cells #[.int .u8 (48 + (u : Int))] 5))) := by
        show _ = _
        rw [run_convert_bytes_arg _ 103 5 Tryz.underlying103 Tryz.underlying5 w.heap.size 0 1 1 [48 + (u : Int)] rfl ?_ 9 Tryz.underlying9]
        · congr 2
        · intro i hi
          obtain rfl : i = 0 := by omega
          exact hcell
      generalize UInt8.ofNat (48 + u) = c at *
      go_enter Tryz.func99, Tryz.ntmps99
      go_wp2_with fail
      rw [HC.out]
      simp only [Result.andThen]
      rw [Oper.upon_value]
      go_wp2_with fail
      go_ret
      exact ⟨rfl, (Below.refl _ _).alloc (Nat.le_refl _) _⟩
    · have h1 : decide (u < 10) = false := decide_eq_false h
      have h1' : decide ((u : Int) < 10) = false := decide_eq_false (by omega)
      have HA : Hid (∀ w, _) := ih (u / 10) (by omega) (by omega)
      have HB : Hid (∀ w, _) := ih (u % 10) (by omega) (by omega)
      have HE : Hid (Lib.decDigits u = Lib.decDigits (u / 10) ++ Lib.decDigits (u % 10)) := dec_big h
      have hl1 := dec_len7 (u := u / 10) (by omega)
      have hl2 := dec_len7 (u := u % 10) (by omega)
      clear ih
      have hq : ((u : Int) / 10) = ((u / 10 : Nat) : Int) := by omega
      have hr : ((u : Int) % 10) = ((u % 10 : Nat) : Int) := by omega
      have HQ : Hid _ := hq
      have HR : Hid _ := hr
      clear hq hr
      have hs : ¬ 9223372036854775807 < (Lib.decDigits (u / 10)).length + (Lib.decDigits (u % 10)).length := by omega
      generalize Lib.decDigits (u / 10) = D1 at *
      generalize Lib.decDigits (u % 10) = D2 at *
      generalize Lib.decDigits u = D at *
      go_enter Tryz.func99, Tryz.ntmps99
      go_wp2_with fail
      rw [HQ.out]
      refine Calls.mono (HA.out _) ?_
      rintro e w1 ⟨rfl, hb1⟩
      go_wp2_with fail
      rw [HR.out]
      refine Calls.mono (HB.out _) ?_
      rintro e w2 ⟨rfl, hb2⟩
      go_wp2_with fail
      go_ret
      exact ⟨by rw [HE.out]; rfl, hb1.trans (hb2.mono hb1.size)⟩

set_option maxRecDepth 100000 in
set_option maxHeartbeats 1000000 in
theorem digits_any (n : Int) (h0 : -9999999 ≤ n) (h1 : n ≤ 9999999) (w : World) : Calls Tryz.prog 99 #[.int .i64 n] w fun e w' => e = .returned (strV (Lib.itoa n)) ∧ Below w.heap.size w w' := by
  by_cases h : n < 0
  · have hi : Lib.itoa n = 45 :: Lib.decDigits n.natAbs := by unfold Lib.itoa; rw [if_pos h]
    rw [hi]
    obtain ⟨u, hu⟩ : ∃ u : Nat, n = -(u : Int) := ⟨n.natAbs, by omega⟩
    subst hu
    have hna : (-(u : Int)).natAbs = u := by omega
    rw [hna]
    have hu1 : 1 ≤ u := by omega
    have hu7 : u < 10000000 := by omega
    have hn0 : decide (-(u : Int) < 0) = true := decide_eq_true h
    clear hi hna
    by_cases h10 : u < 10
    · have hg : decide ((-10 : Int) < -(u : Int)) = true := decide_eq_true (by omega)
      have HA : Hid (∀ w, _) := digits_nat u hu7
      have hl := dec_len7 hu7
      have hs : ¬ 9223372036854775807 < 1 + (Lib.decDigits u).length := by omega
      generalize Lib.decDigits u = D at *
      go_enter Tryz.func99, Tryz.ntmps99
      go_wp2_with fail
      refine Calls.mono (HA.out _) ?_
      rintro e w1 ⟨rfl, hb1⟩
      go_wp2_with fail
      go_ret
      exact ⟨rfl, hb1⟩
    · have hg : decide ((-10 : Int) < -(u : Int)) = false := decide_eq_false (by omega)
      have hg' : decide ((u : Int) < 10) = false := decide_eq_false (by omega)
      have hg'' : decide (u < 10) = false := decide_eq_false h10
      have HA : Hid (∀ w, _) := digits_nat (u / 10) (by omega)
      have HB : Hid (∀ w, _) := digits_nat (u % 10) (by omega)
      have HE : Hid (Lib.decDigits u = Lib.decDigits (u / 10) ++ Lib.decDigits (u % 10)) := dec_big h10
      have hl1 := dec_len7 (u := u / 10) (by omega)
      have hl2 := dec_len7 (u := u % 10) (by omega)
      have hs1 : ¬ 9223372036854775807 < 1 + (Lib.decDigits (u / 10)).length := by omega
      have hs2 : ¬ 9223372036854775807 < (Lib.decDigits (u / 10)).length + 1 + (Lib.decDigits (u % 10)).length := by omega
      generalize Lib.decDigits (u / 10) = D1 at *
      generalize Lib.decDigits (u % 10) = D2 at *
      generalize Lib.decDigits u = D at *
      go_enter Tryz.func99, Tryz.ntmps99
      go_wp2_with fail
      rw [show ((u : Int) / 10) = ((u / 10 : Nat) : Int) by omega]
      refine Calls.mono (HA.out _) ?_
      rintro e w1 ⟨rfl, hb1⟩
      go_wp2_with fail
      rw [show ((u : Int) % 10) = ((u % 10 : Nat) : Int) by omega]
      refine Calls.mono (HB.out _) ?_
      rintro e w2 ⟨rfl, hb2⟩
      go_wp2_with fail
      go_ret
      exact ⟨by rw [HE.out]; rfl, hb1.trans (hb2.mono hb1.size)⟩
  · have hi : Lib.itoa n = Lib.decDigits n.toNat := by unfold Lib.itoa; rw [if_neg h]
    rw [hi]
    obtain ⟨u, hu⟩ : ∃ u : Nat, n = (u : Int) := ⟨n.toNat, by omega⟩
    subst hu
    exact digits_nat u (by omega) w

set_option maxRecDepth 100000 in
set_option maxHeartbeats 1000000 in
theorem termText_any (t : Tr.Term) (h : Tr.termOk t = true) (w : World) : Calls Tryz.prog 62 #[termVal t] w fun e w' => e = .returned (strV (Sh.term t)) ∧ Below w.heap.size w w' := by
  have hb1 : Below w.heap.size w (w.alloc (.cells #[.string ⟨t.var.toArray⟩, .int .i64 t.n] 59)) := (Below.refl _ _).alloc (Nat.le_refl _) _
  have hX := heap_alloc_new w (.cells #[.string ⟨t.var.toArray⟩, .int .i64 t.n] 59)
  have x0 : (w.alloc (.cells #[.string ⟨t.var.toArray⟩, .int .i64 t.n] 59)).cell? ⟨w.heap.size, 0, none⟩ = some (.string ⟨t.var.toArray⟩) := by rw [Lib.cell_of_heap hX]; rfl
  have x1 : (w.alloc (.cells #[.string ⟨t.var.toArray⟩, .int .i64 t.n] 59)).cell? ⟨w.heap.size, 1, none⟩ = some (.int .i64 t.n) := by rw [Lib.cell_of_heap hX]; rfl
  by_cases hv : t.var = []
  · have ht : Sh.term t = Lib.itoa t.n := by unfold Sh.term; rw [hv]; rfl
    rw [ht]
    have hn : -9999999 ≤ t.n ∧ t.n ≤ 9999999 := by
      unfold Tr.termOk at h
      rw [hv] at h
      simpa [Tr.between] using h
    obtain ⟨tv, tn⟩ := t
    obtain rfl : tv = [] := hv
    have HD : Hid (∀ w, _) := fun w => digits_any tn hn.1 hn.2 w
    generalize Lib.itoa tn = D at *
    clear ht h hn
    go_enter Tryz.func62, Tryz.ntmps62
    go_wp2_with fail
    refine Calls.mono (HD.out _) ?_
    rintro e w2 ⟨rfl, hb2⟩
    go_wp2_with fail
    go_ret
    exact ⟨rfl, hb1.trans (hb2.mono hb1.size)⟩
  · have ht : Sh.term t = t.var := by unfold Sh.term; rw [if_neg (by simpa using hv)]
    rw [ht]
    have hve : t.var.isEmpty = false := by simpa using hv
    clear ht h hv
    go_enter Tryz.func62, Tryz.ntmps62
    go_wp2_with fail
    go_ret
    exact ⟨rfl, hb1⟩

end Go.Proofs.YtgpaleifhcdjnaaGreatDoor

/- The document's texts: atoms. -/
namespace Go.Proofs.YtgpaleifhcdjnaaGreatDoor
open Go.RowKit

theorem str_app (a b : List UInt8) : Value.string ({ data := a.toArray } ++ { data := b.toArray }) = strV (a ++ b) := by rw [app_list]
theorem ret_app (a b : List UInt8) : Ending.returned (Value.string ({ data := a.toArray } ++ { data := b.toArray })) = .returned (strV (a ++ b)) := by rw [app_list]

set_option maxRecDepth 100000 in
set_option maxHeartbeats 2000000 in
theorem atomText_any (nm : List UInt8) (l : List Tr.Term) (v : Value) (f : Int) (w : World) (hV : TermsV w v l) (h3 : l.length ≤ 3) (ht : Tr.termsOk l = true) (hf0 : 0 ≤ f) (hf4 : f ≤ 4) (hn : nm.length ≤ 5000) :
    Calls Tryz.prog 61 #[strV nm, v, .int .i64 f] w fun e w' => e = .returned (strV (Sh.atom nm l f)) ∧ Below w.heap.size w w' := by
  obtain ⟨ao, ca, rfl, hV'⟩ := hV
  have hbd := Sh.terms_bound (Sh.fold_len f) ht
  have HT : Hid (∀ i, i < l.length → ∀ w, Calls Tryz.prog 62 #[termVal (Tr.termD l i)] w fun e w' => e = .returned (strV (Sh.term (Tr.termD l i))) ∧ Below w.heap.size w w') := by
    intro i hi w
    have hm : Tr.termD l i ∈ l := by unfold Tr.termD; rw [List.getD_eq_getElem?_getD, List.getElem?_eq_getElem hi]; exact List.getElem_mem hi
    exact termText_any _ (List.all_eq_true.1 ht _ hm) w
  have HST : Hid (∀ k, Sh.terms (Sh.fold f) l (k + 1) = Sh.terms (Sh.fold f) l k ++ Sh.sep k ++ Sh.ahead (Sh.fold f) k l.length ++ Sh.term (Tr.termD l k)) := fun k => by rw [Sh.terms]
  have hs0 : ¬ 9223372036854775807 < nm.length + 1 := by omega
  have htl := fun i (hi : i < l.length) => (Sh.termsD_ok ht hi).2
  generalize hN : l.length = N at *
  go_enter Tryz.func61, Tryz.ntmps61
  go_wp2_with fail
  go_loopw [7, 8] (fun s i wr => ∃ k : Nat, k ≤ N ∧ i = .int .i64 k ∧ s = strV (nm ++ [40] ++ Sh.terms (Sh.fold f) l k) ∧ Below w.heap.size w wr) (fun _ i _ => N - (intOf i).toNat)
  case atStart => exact ⟨0, Nat.zero_le _, rfl, by rw [show Sh.terms (Sh.fold f) l 0 = [] from rfl, List.append_nil]; exact str_app nm [40], Below.refl _ _⟩
  case round =>
    obtain ⟨k, hk, rfl, rfl, hbr⟩ := hrel
    have hbk := hbd k hk
    have hAl : (nm ++ [40] ++ Sh.terms (Sh.fold f) l k).length = nm.length + 1 + (Sh.terms (Sh.fold f) l k).length := by simp; omega
    by_cases hlt : k < N
    · have hdk : decide (k < N) = true := decide_eq_true hlt
      have hSk := HST.out k
      rcases hV' with h0 | ⟨b, off, rfl, hc⟩
      · rw [h0] at hN; simp at hN; omega
      obtain ⟨a0, a1⟩ := hc k (by omega)
      replace a0 := cell_below hbr a0
      replace a1 := cell_below hbr a1
      have HTk := HT.out k (by omega)
      have htk := htl k (by omega)
      clear hc hbd HT HST htl
      generalize Tr.termD l k = t at *
      have HSk : Hid (nm ++ [40] ++ Sh.terms (Sh.fold f) l (k + 1) = nm ++ [40] ++ Sh.terms (Sh.fold f) l k ++ Sh.sep k ++ Sh.ahead (Sh.fold f) k N ++ Sh.term t) := by
        show _ = _
        rw [hSk]
        simp only [List.append_assoc]
      clear hSk
      generalize nm ++ [40] ++ Sh.terms (Sh.fold f) l k = A at *
      have HN : Hid (l.length = N) := hN
      clear hN
      go_upto_if 18 with fail
      go_cut [7] (fun s wx => s = strV (A ++ Sh.sep k) ∧ Below wr.heap.size wr wx)
      case first =>
        by_cases h0 : 0 < k
        · have hd0 : decide (0 < k) = true := decide_eq_true h0
          have hs : Sh.sep k = [44, 32] := by unfold Sh.sep; rw [if_pos h0]
          have HS : Hid _ := hs
          have hs1 : ¬ 9223372036854775807 < A.length + 2 := by omega
          clear hs
          go_wp2_with fail
          go_meet
          exact ⟨by rw [HS.out]; exact str_app A [44, 32], Below.refl _ _⟩
        · have hd0 : decide (0 < k) = false := decide_eq_false h0
          have hs : Sh.sep k = [] := by unfold Sh.sep; rw [if_neg h0]
          have HS : Hid _ := hs
          clear hs
          go_wp2_with fail
          go_meet
          exact ⟨by rw [HS.out, List.append_nil], Below.refl _ _⟩
      case rest =>
        obtain ⟨rfl, hbc⟩ := hcut
        replace hbr := hbr.trans (hbc.mono hbr.size)
        replace a0 := cell_below hbc a0
        replace a1 := cell_below hbc a1
        generalize wc = wy at *
        have hsl : (Sh.sep k).length ≤ 2 := by unfold Sh.sep; split <;> simp
        have hBl : (A ++ Sh.sep k).length ≤ 20100 := by rw [List.length_append]; omega
        generalize A ++ Sh.sep k = A1 at *
        have hal : (Sh.ahead (Sh.fold f) k N).length ≤ 6 := by
          have := Sh.fold_len f
          unfold Sh.ahead
          split
          · exact this
          · simp
        go_upto_region 7 with fail
        go_cut [29] (fun s wx => s = .bool (decide (0 < f) && decide (k + 1 = N)) ∧ Below wy.heap.size wy wx)
        case first =>
          by_cases hf : 0 < f
          · have hd : decide (0 < f) = true := decide_eq_true hf
            by_cases hl : k + 1 = N
            · have hkn : ((k : Int) == (N : Int) - 1) = true := by simp; omega
              have hl' : decide (k + 1 = N) = true := decide_eq_true hl
              clear HSk
              go_wp2_with fail
              go_meet
              exact ⟨by rw [hl', hd]; rfl, Below.refl _ _⟩
            · have hkn : ((k : Int) == (N : Int) - 1) = false := by simp; omega
              have hl' : decide (k + 1 = N) = false := decide_eq_false hl
              clear HSk
              go_wp2_with fail
              go_meet
              exact ⟨by rw [hl', hd]; rfl, Below.refl _ _⟩
          · have hd : decide (0 < f) = false := decide_eq_false hf
            clear HSk
            go_wp2_with fail
            go_meet
            exact ⟨by rw [hd]; rfl, Below.refl _ _⟩
        case rest =>
        obtain ⟨rfl, hbc2⟩ := hcut
        replace hbr := hbr.trans (hbc2.mono hbr.size)
        replace a0 := cell_below hbc2 a0
        replace a1 := cell_below hbc2 a1
        generalize wc = wz at *
        go_upto_if 29 with fail
        go_cut [7] (fun s wx => s = strV (A1 ++ Sh.ahead (Sh.fold f) k N) ∧ Below wz.heap.size wz wx)
        case first =>
          by_cases hl : k + 1 = N
          · have hl' : decide (k + 1 = N) = true := decide_eq_true hl
            rw [hl', Bool.and_true]
            by_cases hf : f = 0
            · subst hf
              have ha : Sh.ahead (Sh.fold 0) k N = [] := by unfold Sh.ahead; split <;> rfl
              have HAh : Hid _ := ha
              clear ha hal HSk
              go_wp2_with fail
              go_meet
              exact ⟨by rw [HAh.out, List.append_nil], Below.refl _ _⟩
            · have ha : Sh.ahead (Sh.fold f) k N = Sh.fold f := by unfold Sh.ahead; rw [if_pos hl]
              have HAh : Hid _ := ha
              have hb2 : ∀ o, Below wz.heap.size wz (wz.alloc o) := fun o => (Below.refl _ _).alloc (Nat.le_refl _) o
              have hs6 : ¬ 9223372036854775807 < A1.length + 6 := by omega
              have hs5 : ¬ 9223372036854775807 < A1.length + 5 := by omega
              have hs4 : ¬ 9223372036854775807 < A1.length + 4 := by omega
              clear ha hal HSk
              have h14 : f = 1 ∨ f = 2 ∨ f = 3 ∨ f = 4 := by omega
              rcases h14 with rfl | rfl | rfl | rfl
              · go_wp2_with fail
                go_meet
                exact ⟨by rw [HAh.out]; exact str_app A1 [99, 111, 117, 110, 116, 32], hb2 _⟩
              · go_wp2_with fail
                go_meet
                exact ⟨by rw [HAh.out]; exact str_app A1 [115, 117, 109, 32], hb2 _⟩
              · go_wp2_with fail
                go_meet
                exact ⟨by rw [HAh.out]; exact str_app A1 [108, 101, 97, 115, 116, 32], hb2 _⟩
              · go_wp2_with fail
                go_meet
                exact ⟨by rw [HAh.out]; exact str_app A1 [109, 111, 115, 116, 32], hb2 _⟩
          · have hl' : decide (k + 1 = N) = false := decide_eq_false hl
            have ha : Sh.ahead (Sh.fold f) k N = [] := by unfold Sh.ahead; rw [if_neg hl]
            have HAh : Hid _ := ha
            clear ha hal HSk
            rw [hl', Bool.and_false]
            go_wp2_with fail
            go_meet
            exact ⟨by rw [HAh.out, List.append_nil], Below.refl _ _⟩
        case rest =>
          obtain ⟨rfl, hbx⟩ := hcut
          generalize wc = wx at *
          have hbw := hbr.trans (hbx.mono hbr.size)
          replace a0 := cell_below hbx a0
          replace a1 := cell_below hbx a1
          have HTk2 : Hid _ := HTk wx
          have hs7 : ¬ 9223372036854775807 < (A1 ++ Sh.ahead (Sh.fold f) k N).length + (Sh.term t).length := by rw [List.length_append]; omega
          clear HTk
          generalize A1 ++ Sh.ahead (Sh.fold f) k N = A3 at *
          generalize Sh.term t = TT at *
          go_wp2_with fail
          refine Calls.mono HTk2.out ?_
          rintro e w5 ⟨rfl, hb5⟩
          go_wp2_with fail
          go_roundw
          case rel => exact ⟨k + 1, by omega, by go_num, by rw [HSk.out]; first | rfl | exact str_app A3 TT, hbw.trans (hb5.mono hbw.size)⟩
          case measure => simp [intOf]; omega
    · have hdk : decide (k < N) = false := decide_eq_false hlt
      obtain rfl : k = N := by omega
      have hs1 : ¬ 9223372036854775807 < (nm ++ [40] ++ Sh.terms (Sh.fold f) l k).length + 1 := by omega
      have HA : Hid (Sh.atom nm l f = nm ++ [40] ++ Sh.terms (Sh.fold f) l k ++ [41]) := by show _ = _; unfold Sh.atom; rw [hN]
      clear hN hV' hbd HT HST htl hAl
      generalize nm ++ [40] ++ Sh.terms (Sh.fold f) l k = A at *
      go_wp2_with fail
      go_ret
      exact ⟨by rw [HA.out]; exact ret_app A [41], hbr⟩

end Go.Proofs.YtgpaleifhcdjnaaGreatDoor

