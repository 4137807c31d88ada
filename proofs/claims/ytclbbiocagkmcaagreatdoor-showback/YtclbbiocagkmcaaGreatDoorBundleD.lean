/- Own texts, one behind the other (part 4). -/
import Derived.Test.YtclbbiocagkmcaaGreatDoorBundleC
import Derived.Test.YtclbbiocagkmcaaGreatDoorRows
import Derived.Test.YtclbbiocagkmcaaGreatDoorCards
import Derived.Test.YtclbbiocagkmcaaGreatDoorTie
import Derived.Deep.AppendLies
import Derived.Deep.RegionLaw
import Derived.Deep.DeepCutAuto
import Derived.RegionDies
/- Package show: what Check has passed can be shown; Show. -/
namespace Go.Proofs.YtclbbiocagkmcaaGreatDoor
open Go.RowKit

namespace Sh
theorem nDigits_le : ∀ (k u : Nat), u < 10 ^ (k + 1) → Lib.nDigits u ≤ k + 1
  | 0, u, h => by rw [Lib.nDigits_small (by simpa using h)]; exact Nat.le_refl _
  | k + 1, u, h => by
    by_cases hu : u < 10
    · rw [Lib.nDigits_small hu]; omega
    · rw [Lib.nDigits_big hu]
      have := nDigits_le k (u / 10) (by rw [Nat.pow_succ] at h; omega)
      omega
theorem dec_len (u : Nat) : (Lib.decDigits u).length = Lib.nDigits u := by rw [Lib.decDigits_eq]; simp
theorem itoa_len (n : Int) (h0 : -9999999 ≤ n) (h1 : n ≤ 9999999) : (Lib.itoa n).length ≤ 8 := by
  unfold Lib.itoa
  split
  · rw [List.length_cons, dec_len]
    have := nDigits_le 6 n.natAbs (by omega)
    omega
  · rw [dec_len]
    have := nDigits_le 6 n.toNat (by omega)
    omega
theorem tok_len {k : Int} {t : List UInt8} (h : Tk.isTok k t = true) : t.length ≤ 5000 := (of_decide_eq_true (show decide _ = true from h)).2.1
theorem term_ok {t : Tr.Term} (h : Tr.termOk t = true) : NumOk t ∧ (term t).length ≤ 5000 := by
  unfold Tr.termOk at h
  unfold term NumOk
  cases hv : t.var.isEmpty
  · rw [hv] at h
    simp only [Bool.false_eq_true, if_false, Bool.and_eq_true, beq_iff_eq] at h
    simp only [Bool.false_eq_true, if_false]
    exact ⟨⟨by omega, by omega⟩, tok_len h.2⟩
  · rw [hv] at h
    simp only [if_true, Tr.between, Bool.and_eq_true, decide_eq_true_eq] at h
    simp only [if_true]
    have := itoa_len t.n h.1 h.2
    exact ⟨⟨by omega, by omega⟩, by omega⟩
theorem termsD_ok {l : List Tr.Term} (h : Tr.termsOk l = true) {i : Nat} (hi : i < l.length) : NumOk (Tr.termD l i) ∧ (term (Tr.termD l i)).length ≤ 5000 := by
  have hm : Tr.termD l i ∈ l := by unfold Tr.termD; rw [List.getD_eq_getElem?_getD, List.getElem?_eq_getElem hi]; exact List.getElem_mem hi
  exact term_ok (List.all_eq_true.1 h _ hm)
theorem terms_bound {fa : List UInt8} {l : List Tr.Term} (hf : fa.length ≤ 6) (h : Tr.termsOk l = true) : ∀ n, n ≤ l.length → (terms fa l n).length ≤ n * 5008
  | 0, _ => Nat.zero_le _
  | n + 1, hn => by
    have := terms_bound hf h n (by omega)
    have ht := (termsD_ok h (i := n) (by omega)).2
    have hs : (sep n).length ≤ 2 := by unfold sep; split <;> simp
    have ha : (ahead fa n l.length).length ≤ 6 := by
      unfold ahead
      split
      · exact hf
      · simp
    rw [terms, List.length_append, List.length_append, List.length_append]
    omega
theorem fold_len (f : Int) : (fold f).length ≤ 6 := by
  unfold fold
  (repeat' split) <;> simp
theorem atom_bound {nm : List UInt8} {l : List Tr.Term} {f : Int} (hn : nm.length ≤ 5000) (h : Tr.termsOk l = true) (hl : l.length ≤ 3) : (atom nm l f).length ≤ 20100 := by
  have := terms_bound (fold_len f) h l.length (Nat.le_refl _)
  unfold atom
  rw [List.length_append, List.length_append, List.length_append]
  simp only [List.length_cons, List.length_nil]
  omega
theorem lit_ok {x : Tr.Lit} (h : Tr.litOk x = true) (hl : x.terms.length ≤ 3) : LitOk x ∧ (lit x).length ≤ 20200 := by
  unfold Tr.litOk at h
  rw [Bool.and_eq_true] at h
  obtain ⟨ht, hk⟩ := h
  by_cases h12 : x.kind = 1 ∨ x.kind = 2
  · rw [if_pos h12, Bool.and_eq_true] at hk
    have hnm : x.name.length ≤ 5000 := by
      have := hk.2
      unfold Tr.isName at this
      rw [Bool.and_eq_true] at this
      exact tok_len this.1
    have ha := atom_bound (f := 0) hnm ht hl
    refine ⟨⟨fun i hi => (termsD_ok ht hi).1, by omega, fun h1 h2 => absurd h12 (by simp [h1, h2]), fun h4 => by rcases h12 with h | h <;> omega⟩, ?_⟩
    unfold lit
    rcases h12 with h1 | h2
    · rw [if_pos h1]; omega
    · rw [if_neg (by omega), if_pos h2, List.length_append]
      simp only [List.length_cons, List.length_nil]
      omega
  · rw [if_neg h12] at hk
    have h1 : ¬ x.kind = 1 := fun h => h12 (.inl h)
    have h2 : ¬ x.kind = 2 := fun h => h12 (.inr h)
    have hs := sign_len x.op
    have key : (x.kind = 3 ∧ x.terms.length = 2) ∨ (x.kind = 4 ∧ x.terms.length = 3) := by
      by_cases h3 : x.kind = 3
      · rw [if_pos h3] at hk
        simp only [Bool.and_eq_true, beq_iff_eq] at hk
        exact .inl ⟨h3, by omega⟩
      · rw [if_neg h3] at hk
        by_cases h4 : x.kind = 4
        · rw [if_pos h4] at hk
          simp only [Bool.and_eq_true, beq_iff_eq] at hk
          exact .inr ⟨h4, by omega⟩
        · rw [if_neg h4] at hk
          cases hk
    refine ⟨⟨fun i hi => (termsD_ok ht hi).1, by omega, fun _ _ => by omega, fun h4 => by omega⟩, ?_⟩
    have t0 := (termsD_ok ht (i := 0) (by omega)).2
    have t1 := (termsD_ok ht (i := 1) (by omega)).2
    have t3 : (third x).length ≤ 5003 := by
      unfold third
      split
      · have t2 := (termsD_ok ht (i := 2) (by omega)).2
        rw [List.length_append]
        simp only [List.length_cons, List.length_nil]
        omega
      · simp
    unfold lit reck
    rw [if_neg h1, if_neg h2]
    simp only [List.length_append, List.length_cons, List.length_nil]
    omega
theorem litsD_ok {l : List Tr.Lit} (h : Tr.litsOk l = true) (hm : Tr.litsMany l = false) {i : Nat} (hi : i < l.length) : LitOk (Tr.litD l i) ∧ (lit (Tr.litD l i)).length ≤ 20200 := by
  have hmem : Tr.litD l i ∈ l := by unfold Tr.litD; rw [List.getD_eq_getElem?_getD, List.getElem?_eq_getElem hi]; exact List.getElem_mem hi
  refine lit_ok (List.all_eq_true.1 h _ hmem) ?_
  have := List.any_eq_false.1 hm _ hmem
  simp only [decide_eq_true_eq] at this
  omega
theorem lits_bound {l : List Tr.Lit} (h : Tr.litsOk l = true) (hm : Tr.litsMany l = false) : ∀ n, n ≤ l.length → (lits l n).length ≤ n * 20202
  | 0, _ => Nat.zero_le _
  | n + 1, hn => by
    have := lits_bound h hm n (by omega)
    have ht := (litsD_ok h hm (i := n) (by omega)).2
    have hs : (sep n).length ≤ 2 := by unfold sep; split <;> simp
    rw [lits, List.length_append, List.length_append]
    omega
theorem rule_ok {r : Tr.Rule} (h : Tr.ruleOk r = true) (hm : Tr.ruleMany r = false) : RuleOk r ∧ (rule r).length ≤ 102000 := by
  unfold Tr.ruleMany at hm
  simp only [Bool.or_eq_false_iff, decide_eq_false_iff_not] at hm
  unfold Tr.ruleOk at h
  simp only [Bool.and_eq_true] at h
  obtain ⟨⟨⟨hn, ht⟩, hf⟩, hb⟩ := h
  have hnm : r.name.length ≤ 5000 := by
    unfold Tr.isName at hn
    rw [Bool.and_eq_true] at hn
    exact tok_len hn.1
  refine ⟨⟨fun i hi => (termsD_ok ht hi).1, by omega, fun i hi => (litsD_ok hb hm.2 hi).1, by omega⟩, ?_⟩
  have ha := atom_bound (f := r.fold) hnm ht (by omega)
  have hl := lits_bound hb hm.2 r.body.length (Nat.le_refl _)
  have htl : (tail r.body).length ≤ 4 + 4 * 20202 := by
    unfold tail
    split
    · rw [List.length_append]
      simp only [List.length_cons, List.length_nil]
      omega
    · simp
  unfold rule
  simp only [List.length_append, List.length_cons, List.length_nil]
  omega
theorem check_ok {l : List Tr.Rule} (h : Tr.check l = 0) : l.length ≤ 12 ∧ (∀ i, i < l.length → RuleOk (Tr.ruleD l i) ∧ (rule (Tr.ruleD l i)).length ≤ 102000) := by
  unfold Tr.check at h
  cases hm : Tr.many l
  · rw [hm] at h
    simp only [Bool.false_eq_true, if_false] at h
    have ha : l.all Tr.ruleOk = true := by
      cases hb : l.all Tr.ruleOk
      · rw [hb] at h; simp at h
      · rfl
    unfold Tr.many at hm
    simp only [Bool.or_eq_false_iff, decide_eq_false_iff_not] at hm
    refine ⟨by omega, fun i hi => ?_⟩
    have hmem : Tr.ruleD l i ∈ l := by unfold Tr.ruleD; rw [List.getD_eq_getElem?_getD, List.getElem?_eq_getElem hi]; exact List.getElem_mem hi
    refine rule_ok (List.all_eq_true.1 ha _ hmem) ?_
    have := List.any_eq_false.1 hm.2 _ hmem
    simpa using this
  · rw [hm] at h; simp at h
theorem rules_bound {l : List Tr.Rule} (h : ∀ i, i < l.length → (rule (Tr.ruleD l i)).length ≤ 102000) : ∀ n, n ≤ l.length → (rules l n).length ≤ n * 102000
  | 0, _ => Nat.zero_le _
  | n + 1, hn => by
    have := rules_bound h n (by omega)
    have ht := h n (by omega)
    rw [rules, List.length_append]
    omega
/-- What Show answers: a text, and an error. -/
def shown (l : List Tr.Rule) : List UInt8 := if Tr.check l = 0 then rules l l.length else []
end Sh

set_option maxRecDepth 100000 in
set_option maxHeartbeats 2000000 in
theorem Show_any (l : List Tr.Rule) (v : Value) (w : World) (hV : RulesV w v l) (hp : Pow w) :
    Calls Tryz.prog 6 #[.agg #[v]] w fun e w' => e = .returned (.tuple #[strV (Sh.shown l), .int .i64 (Tr.check l)]) ∧ Below w.heap.size w w' := by
  have hV0 := hV
  obtain ⟨ao, ca, rfl, hV'⟩ := hV
  have hb1 : Below w.heap.size w (w.alloc (.cells #[.slice ao l.length ca] 24)) := (Below.refl _ _).alloc (Nat.le_refl _) _
  have hX1 := heap_alloc_new w (.cells #[.slice ao l.length ca] 24)
  have hV1 := rulesV_below hV0 hb1
  have c1 : (w.alloc (.cells #[.slice ao l.length ca] 24)).cell? ⟨w.heap.size, 0, none⟩ = some (.slice ao l.length ca) := by rw [Lib.cell_of_heap hX1]; rfl
  cases hC : (Tr.check l == 0)
  · have hs : Sh.shown l = [] := by unfold Sh.shown; rw [if_neg (by intro e; rw [e] at hC; exact absurd hC (by decide))]
    rw [hs]
    have HC := Check_any l (.slice ao l.length ca) _ hV1
    clear hV' hs
    generalize Tr.check l = E at *
    go_enter Tryz.func6, Tryz.ntmps6
    go_wp2_with fail
    refine HC.mono ?_
    rintro e w2 ⟨rfl, hb2⟩
    go_wp2_with fail
    go_ret2
    exact ⟨rfl, hb1.trans (hb2.mono hb1.size)⟩
  · have hC0 : Tr.check l = 0 := eq_of_beq hC
    have hs : Sh.shown l = Sh.rules l l.length := by unfold Sh.shown; rw [if_pos hC0]
    obtain ⟨h12, hok⟩ := Sh.check_ok hC0
    have hbd := Sh.rules_bound (fun i hi => (hok i hi).2) l.length (Nat.le_refl _)
    rw [hs, hC0]
    have HC := Check_any l (.slice ao l.length ca) _ hV1
    rw [hC0] at HC
    clear hs hC hC0
    go_enter Tryz.func6, Tryz.ntmps6
    go_wp2_with fail
    refine HC.mono ?_
    rintro e w2 ⟨rfl, hb2⟩
    have hX2 := (hb2.block _ (heap_lt hX1)).trans hX1
    have hbw2 := hb1.trans (hb2.mono hb1.size)
    go_upto_region 5 with fail
    have hI0 : PI w (w2.alloc (.cells #[.slice none 0 0] 42)) w2.heap.size [] :=
      ⟨hbw2.alloc hbw2.size _, ⟨.slice none 0 0, heap_alloc_new w2 _, World.ownsRow_nil _ _ _ _⟩, hbw2.size, by simp; have := hbw2.size; omega⟩
    have hX3 : (w2.alloc (.cells #[.slice none 0 0] 42)).heap[w.heap.size]? = some (.cells #[.slice ao l.length ca] 24) := (((Below.refl w2.heap.size w2).alloc (Nat.le_refl _) _).block _ (heap_lt hX2)).trans hX2
    generalize w2.alloc (.cells #[.slice none 0 0] 42) = w3 at *
    generalize w2.heap.size = P at *
    have c3 : w3.cell? ⟨w.heap.size, 0, none⟩ = some (.slice ao l.length ca) := by rw [Lib.cell_of_heap hX3]; rfl
    clear hX1 hX2 hX3 hb1 hb2 hbw2 c1 HC hV1
    go_wp2_with fail
    go_loopw [18] (fun i wr => ∃ k : Nat, k ≤ l.length ∧ i = .int .i64 k ∧ PI w wr P (Sh.rules l k)) (fun i _ => l.length - (intOf i).toNat)
    case atStart => exact ⟨0, Nat.zero_le _, rfl, hI0⟩
    case round =>
      obtain ⟨k, hk, rfl, hI⟩ := hrel
      clear hI0 c3
      by_cases hlt : k < l.length
      · have hdk : decide (k < l.length) = true := decide_eq_true hlt
        rcases hV' with h0 | ⟨b, off, rfl, hc⟩
        · rw [h0] at hlt; simp at hlt
        obtain ⟨a0, a1, ⟨va, a2, hTa⟩, a3, ua, a4, hLa⟩ := hc k hlt
        replace a0 := cell_below hI.bel a0
        replace a1 := cell_below hI.bel a1
        replace a2 := cell_below hI.bel a2
        replace a3 := cell_below hI.bel a3
        replace a4 := cell_below hI.bel a4
        obtain ⟨hrk, hrl⟩ := hok k hlt
        have hle := Sh.rules_bound (fun i hi => (hok i hi).2) k hk
        have hST : Sh.rules l (k + 1) = Sh.rules l k ++ Sh.rule (Tr.ruleD l k) := by rw [Sh.rules]
        have HST : Hid _ := hST
        clear hc hok hST
        generalize Tr.ruleD l k = t at *
        obtain ⟨aot, cat, rfl, hTa'⟩ := hTa
        have hTa : TermsV w (.slice aot t.terms.length cat) t.terms := ⟨aot, cat, rfl, hTa'⟩
        obtain ⟨aol, cal, rfl, hLa'⟩ := hLa
        have hLa : LitsV w (.slice aol t.body.length cal) t.body := ⟨aol, cal, rfl, hLa'⟩
        clear hTa' hLa'
        have hb1 : Below wr.heap.size wr (wr.alloc (rulObj t (.slice aot t.terms.length cat) (.slice aol t.body.length cal))) := (Below.refl _ _).alloc (Nat.le_refl _) _
        have hI1 := hI.below hb1
        have hX1 := heap_alloc_new wr (rulObj t (.slice aot t.terms.length cat) (.slice aol t.body.length cal))
        go_upto_region 8 with fail
        generalize wr.alloc (rulObj t (.slice aot t.terms.length cat) (.slice aol t.body.length cal)) = w4 at *
        generalize wr.heap.size = X at *
        obtain ⟨x0, x1, x2, x3, x4⟩ := rul_cells hX1
        have HA := shRule_any w P _ t _ _ w4 hTa hLa hI1 hrk hp (by omega)
        clear a0 a1 a2 a3 a4 hb1
        go_wp2_with fail
        refine HA.mono ?_
        rintro e w5 ⟨rfl, hI5, _⟩
        go_wp2_with fail
        go_roundw
        case rel => exact ⟨k + 1, by omega, by go_num, by rw [HST.out]; exact hI5⟩
        case measure => simp [intOf]; omega
      · have hdk : decide (k < l.length) = false := decide_eq_false hlt
        obtain rfl : k = l.length := by omega
        have HW := whole_any w P _ wr hI
        clear hV'
        go_wp2_with fail
        refine HW.mono ?_
        rintro e w5 ⟨rfl, rfl⟩
        go_wp2_with fail
        go_ret2
        exact ⟨rfl, hI.bel⟩

end Go.Proofs.YtclbbiocagkmcaaGreatDoor

/- Package show: Same. -/
namespace Go.Proofs.YtclbbiocagkmcaaGreatDoor
open Go.RowKit

set_option maxRecDepth 100000 in
set_option maxHeartbeats 1000000 in
theorem equalTerms_loop (la lb : List Tr.Term) (w : World) (n ca cb ba oa bb ob : Nat) (hna : la.length = n) (hnb : lb.length = n) (hmax : n ≤ 9223372036854775807)
    (hA : ∀ i, i < n → TermIn w ba (oa + i * 2) (Tr.termD la i)) (hB : ∀ i, i < n → TermIn w bb (ob + i * 2) (Tr.termD lb i)) :
    Calls Tryz.prog 45 #[.slice (some ⟨ba, oa, none⟩) n ca, .slice (some ⟨bb, ob, none⟩) n cb] w fun e w' => e = .returned (.bool (Tr.termsEq la lb)) ∧ ∃ k, w' = w.drewN k := by
  have HA : Hid (la.length = n) := hna
  have HB : Hid (lb.length = n) := hnb
  clear hna hnb
  have hne : ((n : Int) != (n : Int)) = false := by simp
  go_enter Tryz.func45, Tryz.ntmps45
  go_wp2
  go_loopw [13] (fun i wr => ∃ k nq : Nat, k ≤ n ∧ i = .int .i64 k ∧ Tr.termsEq la lb = Tr.termsEq (la.drop k) (lb.drop k) ∧ wr = w.drewN nq) (fun i _ => n - (intOf i).toNat)
  case atStart => exact ⟨0, 0, Nat.zero_le _, rfl, rfl, rfl⟩
  case round =>
    obtain ⟨k, nq, hk, rfl, hsame, rfl⟩ := hrel
    have HS : Hid (Tr.termsEq la lb = Tr.termsEq (la.drop k) (lb.drop k)) := hsame
    clear hsame
    by_cases hlt : k < n
    · obtain ⟨a0, a1⟩ := hA k hlt
      obtain ⟨b0, b1⟩ := hB k hlt
      have HD : Hid (Tr.termsEq la lb = (Tr.termEq (Tr.termD la k) (Tr.termD lb k) && Tr.termsEq (la.drop (k + 1)) (lb.drop (k + 1)))) := by
        show _ = _
        rw [HS.out]
        exact Tr.listEq_drop _ _ _ _ _ (by rw [HA.out]; exact hlt) (by rw [HB.out]; exact hlt)
      clear hA hB HS
      generalize Tr.termD la k = x at *
      generalize Tr.termD lb k = y at *
      cases h1 : (x.var == y.var)
      · have HV : Hid (Tr.termsEq la lb = false) := by show _ = _; rw [HD.out, Tr.termEq, h1]; rfl
        clear HD
        go_wp2_with fail
        go_quiet (fail)
        go_wp2
        go_ret
        exact ⟨ret_bool HV.out.symm, _, drewN_two _ _ _⟩
      · cases h2 : (x.n == y.n)
        · have HV : Hid (Tr.termsEq la lb = false) := by show _ = _; rw [HD.out, Tr.termEq, h1, h2]; rfl
          clear HD
          go_wp2_with fail
          go_quiet (fail)
          go_wp2
          go_ret
          exact ⟨ret_bool HV.out.symm, _, drewN_two _ _ _⟩
        · have HV : Hid (Tr.termsEq la lb = Tr.termsEq (la.drop (k + 1)) (lb.drop (k + 1))) := by show _ = _; rw [HD.out, Tr.termEq, h1, h2]; rfl
          clear HD
          go_wp2_with fail
          go_quiet (fail)
          go_wp2
          go_roundw
          case rel => exact ⟨k + 1, _, by omega, by go_num, HV.out, rfl⟩
          case measure => simp [intOf]; omega
    · have HV : Hid (Tr.termsEq la lb = true) := by
        show _ = _
        rw [HS.out, List.drop_of_length_le (by rw [HA.out]; omega), List.drop_of_length_le (by rw [HB.out]; omega)]
        rfl
      clear HS hA hB
      go_wp2_with fail
      go_ret
      exact ⟨ret_bool HV.out.symm, _, rfl⟩

set_option maxRecDepth 100000 in
set_option maxHeartbeats 400000 in
theorem equalTerms_diff (w : World) (ao bo : Option Addr) (n m ca cb : Nat) (h : ¬ n = m) :
    Calls Tryz.prog 45 #[.slice ao n ca, .slice bo m cb] w fun e w' => e = .returned (.bool false) ∧ ∃ k, w' = w.drewN k := by
  have hne : ((n : Int) != (m : Int)) = true := bne_iff_ne.2 (by omega)
  go_enter Tryz.func45, Tryz.ntmps45
  go_wp2
  go_ret
  exact ⟨rfl, 0, rfl⟩

set_option maxRecDepth 100000 in
set_option maxHeartbeats 400000 in
theorem equalTerms_none (w : World) (ao bo : Option Addr) (ca cb : Nat) :
    Calls Tryz.prog 45 #[.slice ao 0 ca, .slice bo 0 cb] w fun e w' => e = .returned (.bool true) ∧ ∃ k, w' = w.drewN k := by
  go_enter Tryz.func45, Tryz.ntmps45
  go_wp2
  refine wp_loop_rounds 1 ?_
  rw [rounds_succ]
  go_wp2
  go_ret
  exact ⟨rfl, 0, rfl⟩

/-- slices.Equal, whatever lists it is handed. -/
theorem equalTerms_any (la lb : List Tr.Term) (w : World) (va vb : Value) (hA : TermsV w va la) (hB : TermsV w vb lb) (hmax : la.length ≤ 9223372036854775807) :
    Calls Tryz.prog 45 #[va, vb] w fun e w' => e = .returned (.bool (Tr.termsEq la lb)) ∧ ∃ k, w' = w.drewN k := by
  obtain ⟨ao, ca, rfl, hA⟩ := hA
  obtain ⟨bo, cb, rfl, hB⟩ := hB
  by_cases h : la.length = lb.length
  · rcases hA with rfl | ⟨b, off, rfl, hA⟩
    · have hl : lb = [] := List.eq_nil_of_length_eq_zero h.symm
      subst hl
      exact equalTerms_none w ao bo ca cb
    · rcases hB with rfl | ⟨b', off', rfl, hB⟩
      · have hl : la = [] := List.eq_nil_of_length_eq_zero h
        subst hl
        exact equalTerms_none w _ bo ca cb
      · rw [← h]
        exact equalTerms_loop la lb w la.length ca cb b off b' off' rfl h.symm hmax hA (by rw [h]; exact hB)
  · rw [show Tr.termsEq la lb = false from Tr.listEq_len _ la lb h]
    exact equalTerms_diff w ao bo _ _ ca cb h


set_option maxRecDepth 100000 in
set_option maxHeartbeats 1000000 in
theorem sameLit_any (x y : Tr.Lit) (v u : Value) (w : World) (hA : TermsV w v x.terms) (hB : TermsV w u y.terms) (hmax : x.terms.length ≤ 9223372036854775807) :
    Calls Tryz.prog 47 #[litVal x v, litVal y u] w fun e w' => e = .returned (.bool (Tr.litEq false x y)) ∧ Below w.heap.size w w' := by
  obtain ⟨ao, ca, rfl, hA'⟩ := hA
  obtain ⟨bo, cb, rfl, hB'⟩ := hB
  have hb2 : ∀ o1 o2, Below w.heap.size w ((w.alloc o1).alloc o2) := fun o1 o2 => ((Below.refl _ _).alloc (Nat.le_refl _) _).alloc (by simp) _
  have HC : Hid (∀ w1, Below w.heap.size w w1 → Calls Tryz.prog 45 #[.slice ao x.terms.length ca, .slice bo y.terms.length cb] w1 fun e w' => e = .returned (.bool (Tr.termsEq x.terms y.terms)) ∧ ∃ k, w' = w1.drewN k) :=
    fun w1 hb => equalTerms_any x.terms y.terms w1 _ _ (termsV_below ⟨ao, ca, rfl, hA'⟩ hb) (termsV_below ⟨bo, cb, rfl, hB'⟩ hb) hmax
  have hE : Tr.litEq false x y = ((x.kind == y.kind) && (x.op == y.op) && (x.name == y.name) && Tr.termsEq x.terms y.terms) := by
    unfold Tr.litEq
    cases h1 : (x.kind == y.kind) <;> cases h2 : (x.op == y.op) <;> cases h3 : (x.name == y.name) <;> cases h4 : Tr.termsEq x.terms y.terms <;> simp [bne, h1, h2]
  rw [hE]
  clear hA' hB' hE
  cases h1 : (x.kind == y.kind)
  · go_enter Tryz.func47, Tryz.ntmps47
    go_wp2
    go_ret
    exact ⟨rfl, hb2 _ _⟩
  · cases h2 : (x.op == y.op)
    · go_enter Tryz.func47, Tryz.ntmps47
      go_wp2
      go_ret
      exact ⟨rfl, hb2 _ _⟩
    · cases h3 : (x.name == y.name)
      · go_enter Tryz.func47, Tryz.ntmps47
        go_wp2
        go_ret
        exact ⟨rfl, hb2 _ _⟩
      · go_enter Tryz.func47, Tryz.ntmps47
        go_wp2_with fail
        refine Calls.mono (HC.out _ (hb2 _ _)) ?_
        rintro e w3 ⟨rfl, k3, rfl⟩
        go_wp2_with fail
        go_ret
        exact ⟨by simp, below_drewN (hb2 _ _) k3⟩

end Go.Proofs.YtclbbiocagkmcaaGreatDoor

/- Package show: Same, whole. -/
namespace Go.Proofs.YtclbbiocagkmcaaGreatDoor
open Go.RowKit

set_option maxRecDepth 100000 in
set_option maxHeartbeats 1000000 in
theorem equalLits_loop (la lb : List Tr.Lit) (w : World) (n ca cb ba oa bb ob : Nat) (hna : la.length = n) (hnb : lb.length = n) (hmax : n ≤ 9223372036854775807) (hF : FitsB la)
    (hA : ∀ i, i < n → LitIn w ba (oa + i * 5) (Tr.litD la i)) (hB : ∀ i, i < n → LitIn w bb (ob + i * 5) (Tr.litD lb i)) :
    Calls Tryz.prog 46 #[.slice (some ⟨ba, oa, none⟩) n ca, .slice (some ⟨bb, ob, none⟩) n cb, .func (.func 47) #[] #[]] w fun e w' => e = .returned (.bool (Tr.listEq (Tr.litEq false) la lb)) ∧ Below w.heap.size w w' := by
  have HA : Hid (la.length = n) := hna
  have HB : Hid (lb.length = n) := hnb
  have hF' : ∀ i, i < n → (Tr.litD la i).terms.length ≤ 9223372036854775807 := fun i hi => hF i (by omega)
  clear hna hnb hF
  have hne : ((n : Int) != (n : Int)) = false := by simp
  go_enter Tryz.func46, Tryz.ntmps46
  go_wp2_with fail
  go_loopw [17] (fun i wr => ∃ k : Nat, k ≤ n ∧ i = .int .i64 k ∧ Tr.listEq (Tr.litEq false) la lb = Tr.listEq (Tr.litEq false) (la.drop k) (lb.drop k) ∧ Below w.heap.size w wr) (fun i _ => n - (intOf i).toNat)
  case atStart => exact ⟨0, Nat.zero_le _, rfl, rfl, Below.refl _ _⟩
  case round =>
    obtain ⟨k, hk, rfl, hsame, hbr⟩ := hrel
    have HS : Hid (Tr.listEq (Tr.litEq false) la lb = Tr.listEq (Tr.litEq false) (la.drop k) (lb.drop k)) := hsame
    clear hsame
    by_cases hlt : k < n
    · have hdk : decide (k < n) = true := decide_eq_true hlt
      have hkI : (k : Int) < (n : Int) := by omega
      obtain ⟨a0, a1, a2, a3, va, a4, hTa⟩ := hA k hlt
      obtain ⟨b0, b1, b2, b3, vb, b4, hTb⟩ := hB k hlt
      have HD : Hid (Tr.listEq (Tr.litEq false) la lb = (Tr.litEq false (Tr.litD la k) (Tr.litD lb k) && Tr.listEq (Tr.litEq false) (la.drop (k + 1)) (lb.drop (k + 1)))) := by
        show _ = _
        rw [HS.out]
        exact Tr.listEq_drop _ _ _ _ _ (by rw [HA.out]; exact hlt) (by rw [HB.out]; exact hlt)
      have hmx := hF' k hlt
      replace a0 := cell_below hbr a0
      replace a1 := cell_below hbr a1
      replace a2 := cell_below hbr a2
      replace a3 := cell_below hbr a3
      replace a4 := cell_below hbr a4
      replace b0 := cell_below hbr b0
      replace b1 := cell_below hbr b1
      replace b2 := cell_below hbr b2
      replace b3 := cell_below hbr b3
      replace b4 := cell_below hbr b4
      clear hA hB HS hF'
      generalize Tr.litD la k = x at *
      generalize Tr.litD lb k = y at *
      obtain ⟨aoa, caa, rfl, hTa'⟩ := hTa
      obtain ⟨aob, cab, rfl, hTb'⟩ := hTb
      have hTa : TermsV w (.slice aoa x.terms.length caa) x.terms := ⟨aoa, caa, rfl, hTa'⟩
      have hTb : TermsV w (.slice aob y.terms.length cab) y.terms := ⟨aob, cab, rfl, hTb'⟩
      clear hTa' hTb'
      have hb2 : ∀ o1 o2, Below w.heap.size w ((wr.alloc o1).alloc o2) := fun o1 o2 => (hbr.alloc hbr.size _).alloc (by simp; have := hbr.size; omega) _
      have HC : Hid (∀ w1, Below w.heap.size w w1 → Calls Tryz.prog 47 #[litVal x (.slice aoa x.terms.length caa), litVal y (.slice aob y.terms.length cab)] w1 fun e w' => e = .returned (.bool (Tr.litEq false x y)) ∧ Below w1.heap.size w1 w') := fun w1 hb => sameLit_any x y _ _ w1 (termsV_below hTa hb) (termsV_below hTb hb) hmx
      have hltb : ∀ o1, bb < (wr.alloc o1).heap.size := fun o1 => by have := World.block_lt_of_cell? wr _ b0; simp; exact Nat.lt_succ_of_lt this
      have hltw : bb < wr.heap.size := World.block_lt_of_cell? wr _ b0
      go_wp2_with fail
      refine Calls.mono (HC.out _ (hb2 _ _)) ?_
      rintro e w3 ⟨rfl, hb3⟩
      have hbw3 := (hb2 (litObj x (.slice aoa x.terms.length caa)) (litObj y (.slice aob y.terms.length cab))).trans (hb3.mono (hb2 _ _).size)
      cases hq : Tr.litEq false x y
      · have HV : Hid (Tr.listEq (Tr.litEq false) la lb = false) := by show _ = _; rw [HD.out, hq]; rfl
        clear HD
        go_wp2_with fail
        go_ret
        exact ⟨ret_bool HV.out.symm, hbw3⟩
      · have HV : Hid (Tr.listEq (Tr.litEq false) la lb = Tr.listEq (Tr.litEq false) (la.drop (k + 1)) (lb.drop (k + 1))) := by show _ = _; rw [HD.out, hq]; rfl
        clear HD
        go_wp2_with fail
        go_roundw
        case rel => exact ⟨k + 1, by omega, by go_num, HV.out, hbw3⟩
        case measure => simp [intOf]; omega
    · have hdk : decide (k < n) = false := decide_eq_false hlt
      have HV : Hid (Tr.listEq (Tr.litEq false) la lb = true) := by
        show _ = _
        rw [HS.out, List.drop_of_length_le (by rw [HA.out]; omega), List.drop_of_length_le (by rw [HB.out]; omega)]
        rfl
      clear HS hA hB
      go_wp2_with fail
      go_ret
      exact ⟨ret_bool HV.out.symm, hbr⟩

set_option maxRecDepth 100000 in
set_option maxHeartbeats 400000 in
theorem equalLits_diff (w : World) (ao bo : Option Addr) (n m ca cb : Nat) (h : ¬ n = m) :
    Calls Tryz.prog 46 #[.slice ao n ca, .slice bo m cb, .func (.func 47) #[] #[]] w fun e w' => e = .returned (.bool false) ∧ Below w.heap.size w w' := by
  have hne : ((n : Int) != (m : Int)) = true := bne_iff_ne.2 (by omega)
  go_enter Tryz.func46, Tryz.ntmps46
  go_wp2
  go_ret
  exact ⟨rfl, Below.refl _ _⟩

set_option maxRecDepth 100000 in
set_option maxHeartbeats 400000 in
theorem equalLits_none (w : World) (ao bo : Option Addr) (ca cb : Nat) :
    Calls Tryz.prog 46 #[.slice ao 0 ca, .slice bo 0 cb, .func (.func 47) #[] #[]] w fun e w' => e = .returned (.bool true) ∧ Below w.heap.size w w' := by
  go_enter Tryz.func46, Tryz.ntmps46
  go_wp2
  refine wp_loop_rounds 1 ?_
  rw [rounds_succ]
  go_wp2
  go_ret
  exact ⟨rfl, Below.refl _ _⟩

theorem equalLits_any (la lb : List Tr.Lit) (w : World) (va vb : Value) (hA : LitsV w va la) (hB : LitsV w vb lb) (hmax : la.length ≤ 9223372036854775807) (hF : FitsB la) :
    Calls Tryz.prog 46 #[va, vb, .func (.func 47) #[] #[]] w fun e w' => e = .returned (.bool (Tr.listEq (Tr.litEq false) la lb)) ∧ Below w.heap.size w w' := by
  obtain ⟨ao, ca, rfl, hA⟩ := hA
  obtain ⟨bo, cb, rfl, hB⟩ := hB
  by_cases h : la.length = lb.length
  · rcases hA with rfl | ⟨b, off, rfl, hA⟩
    · have hl : lb = [] := List.eq_nil_of_length_eq_zero h.symm
      subst hl
      exact equalLits_none w ao bo ca cb
    · rcases hB with rfl | ⟨b', off', rfl, hB⟩
      · have hl : la = [] := List.eq_nil_of_length_eq_zero h
        subst hl
        exact equalLits_none w _ bo ca cb
      · rw [← h]
        exact equalLits_loop la lb w la.length ca cb b off b' off' rfl h.symm hmax hF hA (by rw [h]; exact hB)
  · rw [Tr.listEq_len _ la lb h]
    exact equalLits_diff w ao bo _ _ ca cb h

end Go.Proofs.YtclbbiocagkmcaaGreatDoor

/- Package show: Same, whole: rules. -/
namespace Go.Proofs.YtclbbiocagkmcaaGreatDoor
open Go.RowKit

theorem ruleEq_same (a b : Tr.Rule) : Tr.ruleEq false a b = ((a.name == b.name) && (a.fold == b.fold) && Tr.termsEq a.terms b.terms && Tr.listEq (Tr.litEq false) a.body b.body) := by
  unfold Tr.ruleEq Tr.headEq
  by_cases h : a.body.length = b.body.length
  · have hl : ((a.body.length : Int) != (b.body.length : Int)) = false := by rw [h]; simp
    rw [hl]
    cases h1 : (a.name == b.name) <;> cases h2 : (a.fold == b.fold) <;> cases h3 : Tr.termsEq a.terms b.terms <;> simp [bne, h2]
  · rw [Tr.listEq_len _ _ _ h, Bool.and_false, Bool.and_false]

set_option maxRecDepth 100000 in
set_option maxHeartbeats 1000000 in
theorem sameRule_any (x y : Tr.Rule) (v u v' u' : Value) (w : World) (hA : TermsV w v x.terms) (hLA : LitsV w u x.body) (hB : TermsV w v' y.terms) (hLB : LitsV w u' y.body) (hmax : x.terms.length ≤ 9223372036854775807) (hmb : x.body.length ≤ 9223372036854775807) (hF : FitsB x.body) :
    Calls Tryz.prog 24 #[ruleVal x v u, ruleVal y v' u'] w fun e w' => e = .returned (.bool (Tr.ruleEq false x y)) ∧ Below w.heap.size w w' := by
  obtain ⟨ao, ca, rfl, hA'⟩ := hA
  obtain ⟨bo, cb, rfl, hB'⟩ := hB
  obtain ⟨co, cc, rfl, hLA'⟩ := hLA
  obtain ⟨d0, cd, rfl, hLB'⟩ := hLB
  have hb2 : ∀ o1 o2, Below w.heap.size w ((w.alloc o1).alloc o2) := fun o1 o2 => ((Below.refl _ _).alloc (Nat.le_refl _) _).alloc (by simp) _
  have HC : Hid (∀ w1, Below w.heap.size w w1 → Calls Tryz.prog 45 #[.slice ao x.terms.length ca, .slice bo y.terms.length cb] w1 fun e w' => e = .returned (.bool (Tr.termsEq x.terms y.terms)) ∧ ∃ k, w' = w1.drewN k) :=
    fun w1 hb => equalTerms_any x.terms y.terms w1 _ _ (termsV_below ⟨ao, ca, rfl, hA'⟩ hb) (termsV_below ⟨bo, cb, rfl, hB'⟩ hb) hmax
  have HL : Hid (∀ w1, Below w.heap.size w w1 → Calls Tryz.prog 46 #[.slice co x.body.length cc, .slice d0 y.body.length cd, .func (.func 47) #[] #[]] w1 fun e w' => e = .returned (.bool (Tr.listEq (Tr.litEq false) x.body y.body)) ∧ Below w1.heap.size w1 w') :=
    fun w1 hb => equalLits_any x.body y.body w1 _ _ (litsV_below ⟨co, cc, rfl, hLA'⟩ hb) (litsV_below ⟨d0, cd, rfl, hLB'⟩ hb) hmb hF
  rw [ruleEq_same]
  clear hA' hB' hLA' hLB'
  cases h1 : (x.name == y.name)
  · go_enter Tryz.func24, Tryz.ntmps24
    go_wp2
    go_ret
    exact ⟨rfl, hb2 _ _⟩
  · cases h2 : (x.fold == y.fold)
    · go_enter Tryz.func24, Tryz.ntmps24
      go_wp2
      go_ret
      exact ⟨rfl, hb2 _ _⟩
    · cases h3 : Tr.termsEq x.terms y.terms
      · rw [h3] at HC
        go_enter Tryz.func24, Tryz.ntmps24
        go_wp2_with fail
        refine Calls.mono (HC.out _ (hb2 _ _)) ?_
        rintro e w3 ⟨rfl, k3, rfl⟩
        go_wp2_with fail
        go_ret
        exact ⟨rfl, below_drewN (hb2 _ _) k3⟩
      · rw [h3] at HC
        go_enter Tryz.func24, Tryz.ntmps24
        go_wp2_with fail
        refine Calls.mono (HC.out _ (hb2 _ _)) ?_
        rintro e w3 ⟨rfl, k3, rfl⟩
        go_wp2_with fail
        refine Calls.mono (HL.out _ (below_drewN (hb2 _ _) k3)) ?_
        rintro e w4 ⟨rfl, hb4⟩
        go_wp2_with fail
        go_ret
        exact ⟨by simp, (below_drewN (hb2 _ _) k3).trans (hb4.mono (below_drewN (hb2 _ _) k3).size)⟩

set_option maxRecDepth 100000 in
set_option maxHeartbeats 1000000 in
theorem equalRules_loop (la lb : List Tr.Rule) (w : World) (n ca cb ba oa bb ob : Nat) (hna : la.length = n) (hnb : lb.length = n) (hmax : n ≤ 9223372036854775807) (hF : Fine la)
    (hA : ∀ i, i < n → RuleIn w ba (oa + i * 5) (Tr.ruleD la i)) (hB : ∀ i, i < n → RuleIn w bb (ob + i * 5) (Tr.ruleD lb i)) :
    Calls Tryz.prog 23 #[.slice (some ⟨ba, oa, none⟩) n ca, .slice (some ⟨bb, ob, none⟩) n cb, .func (.func 24) #[] #[]] w fun e w' => e = .returned (.bool (Tr.listEq (Tr.ruleEq false) la lb)) ∧ Below w.heap.size w w' := by
  have HA : Hid (la.length = n) := hna
  have HB : Hid (lb.length = n) := hnb
  have hF' : ∀ i, i < n → (Tr.ruleD la i).terms.length ≤ 9223372036854775807 ∧ (Tr.ruleD la i).body.length ≤ 9223372036854775807 ∧ FitsB (Tr.ruleD la i).body := fun i hi => hF.2 i (by omega)
  clear hna hnb hF
  have hne : ((n : Int) != (n : Int)) = false := by simp
  go_enter Tryz.func23, Tryz.ntmps23
  go_wp2_with fail
  go_loopw [17] (fun i wr => ∃ k : Nat, k ≤ n ∧ i = .int .i64 k ∧ Tr.listEq (Tr.ruleEq false) la lb = Tr.listEq (Tr.ruleEq false) (la.drop k) (lb.drop k) ∧ Below w.heap.size w wr) (fun i _ => n - (intOf i).toNat)
  case atStart => exact ⟨0, Nat.zero_le _, rfl, rfl, Below.refl _ _⟩
  case round =>
    obtain ⟨k, hk, rfl, hsame, hbr⟩ := hrel
    have HS : Hid (Tr.listEq (Tr.ruleEq false) la lb = Tr.listEq (Tr.ruleEq false) (la.drop k) (lb.drop k)) := hsame
    clear hsame
    by_cases hlt : k < n
    · have hdk : decide (k < n) = true := decide_eq_true hlt
      have hkI : (k : Int) < (n : Int) := by omega
      obtain ⟨a0, a1, ⟨va, a2, hTa⟩, a3, ua, a4, hLa⟩ := hA k hlt
      obtain ⟨b0, b1, ⟨vb, b2, hTb⟩, b3, ub, b4, hLb⟩ := hB k hlt
      have HD : Hid (Tr.listEq (Tr.ruleEq false) la lb = (Tr.ruleEq false (Tr.ruleD la k) (Tr.ruleD lb k) && Tr.listEq (Tr.ruleEq false) (la.drop (k + 1)) (lb.drop (k + 1)))) := by
        show _ = _
        rw [HS.out]
        exact Tr.listEq_drop _ _ _ _ _ (by rw [HA.out]; exact hlt) (by rw [HB.out]; exact hlt)
      have hmx := hF' k hlt
      replace a0 := cell_below hbr a0
      replace a1 := cell_below hbr a1
      replace a2 := cell_below hbr a2
      replace a3 := cell_below hbr a3
      replace a4 := cell_below hbr a4
      replace b0 := cell_below hbr b0
      replace b1 := cell_below hbr b1
      replace b2 := cell_below hbr b2
      replace b3 := cell_below hbr b3
      replace b4 := cell_below hbr b4
      clear hA hB HS hF'
      generalize Tr.ruleD la k = x at *
      generalize Tr.ruleD lb k = y at *
      obtain ⟨aoa, caa, rfl, hTa'⟩ := hTa
      obtain ⟨aob, cab, rfl, hTb'⟩ := hTb
      have hTa : TermsV w (.slice aoa x.terms.length caa) x.terms := ⟨aoa, caa, rfl, hTa'⟩
      have hTb : TermsV w (.slice aob y.terms.length cab) y.terms := ⟨aob, cab, rfl, hTb'⟩
      obtain ⟨aoc, cac, rfl, hLa'⟩ := hLa
      obtain ⟨aod, cad, rfl, hLb'⟩ := hLb
      have hLa : LitsV w (.slice aoc x.body.length cac) x.body := ⟨aoc, cac, rfl, hLa'⟩
      have hLb : LitsV w (.slice aod y.body.length cad) y.body := ⟨aod, cad, rfl, hLb'⟩
      clear hTa' hTb' hLa' hLb'
      have hb2 : ∀ o1 o2, Below w.heap.size w ((wr.alloc o1).alloc o2) := fun o1 o2 => (hbr.alloc hbr.size _).alloc (by simp; have := hbr.size; omega) _
      have HC : Hid (∀ w1, Below w.heap.size w w1 → Calls Tryz.prog 24 #[ruleVal x (.slice aoa x.terms.length caa) (.slice aoc x.body.length cac), ruleVal y (.slice aob y.terms.length cab) (.slice aod y.body.length cad)] w1 fun e w' => e = .returned (.bool (Tr.ruleEq false x y)) ∧ Below w1.heap.size w1 w') := fun w1 hb => sameRule_any x y _ _ _ _ w1 (termsV_below hTa hb) (litsV_below hLa hb) (termsV_below hTb hb) (litsV_below hLb hb) hmx.1 hmx.2.1 hmx.2.2
      have hltb : ∀ o1, bb < (wr.alloc o1).heap.size := fun o1 => by have := World.block_lt_of_cell? wr _ b0; simp; exact Nat.lt_succ_of_lt this
      have hltw : bb < wr.heap.size := World.block_lt_of_cell? wr _ b0
      go_wp2_with fail
      refine Calls.mono (HC.out _ (hb2 _ _)) ?_
      rintro e w3 ⟨rfl, hb3⟩
      have hbw3 := (hb2 (rulObj x (.slice aoa x.terms.length caa) (.slice aoc x.body.length cac)) (rulObj y (.slice aob y.terms.length cab) (.slice aod y.body.length cad))).trans (hb3.mono (hb2 _ _).size)
      cases hq : Tr.ruleEq false x y
      · have HV : Hid (Tr.listEq (Tr.ruleEq false) la lb = false) := by show _ = _; rw [HD.out, hq]; rfl
        clear HD
        go_wp2_with fail
        go_ret
        exact ⟨ret_bool HV.out.symm, hbw3⟩
      · have HV : Hid (Tr.listEq (Tr.ruleEq false) la lb = Tr.listEq (Tr.ruleEq false) (la.drop (k + 1)) (lb.drop (k + 1))) := by show _ = _; rw [HD.out, hq]; rfl
        clear HD
        go_wp2_with fail
        go_roundw
        case rel => exact ⟨k + 1, by omega, by go_num, HV.out, hbw3⟩
        case measure => simp [intOf]; omega
    · have hdk : decide (k < n) = false := decide_eq_false hlt
      have HV : Hid (Tr.listEq (Tr.ruleEq false) la lb = true) := by
        show _ = _
        rw [HS.out, List.drop_of_length_le (by rw [HA.out]; omega), List.drop_of_length_le (by rw [HB.out]; omega)]
        rfl
      clear HS hA hB
      go_wp2_with fail
      go_ret
      exact ⟨ret_bool HV.out.symm, hbr⟩

set_option maxRecDepth 100000 in
set_option maxHeartbeats 400000 in
theorem equalRules_diff (w : World) (ao bo : Option Addr) (n m ca cb : Nat) (h : ¬ n = m) :
    Calls Tryz.prog 23 #[.slice ao n ca, .slice bo m cb, .func (.func 24) #[] #[]] w fun e w' => e = .returned (.bool false) ∧ Below w.heap.size w w' := by
  have hne : ((n : Int) != (m : Int)) = true := bne_iff_ne.2 (by omega)
  go_enter Tryz.func23, Tryz.ntmps23
  go_wp2
  go_ret
  exact ⟨rfl, Below.refl _ _⟩

set_option maxRecDepth 100000 in
set_option maxHeartbeats 400000 in
theorem equalRules_none (w : World) (ao bo : Option Addr) (ca cb : Nat) :
    Calls Tryz.prog 23 #[.slice ao 0 ca, .slice bo 0 cb, .func (.func 24) #[] #[]] w fun e w' => e = .returned (.bool true) ∧ Below w.heap.size w w' := by
  go_enter Tryz.func23, Tryz.ntmps23
  go_wp2
  refine wp_loop_rounds 1 ?_
  rw [rounds_succ]
  go_wp2
  go_ret
  exact ⟨rfl, Below.refl _ _⟩

theorem equalRules_any (la lb : List Tr.Rule) (w : World) (va vb : Value) (hA : RulesV w va la) (hB : RulesV w vb lb) (hmax : la.length ≤ 9223372036854775807) (hF : Fine la) :
    Calls Tryz.prog 23 #[va, vb, .func (.func 24) #[] #[]] w fun e w' => e = .returned (.bool (Tr.listEq (Tr.ruleEq false) la lb)) ∧ Below w.heap.size w w' := by
  obtain ⟨ao, ca, rfl, hA⟩ := hA
  obtain ⟨bo, cb, rfl, hB⟩ := hB
  by_cases h : la.length = lb.length
  · rcases hA with rfl | ⟨b, off, rfl, hA⟩
    · have hl : lb = [] := List.eq_nil_of_length_eq_zero h.symm
      subst hl
      exact equalRules_none w ao bo ca cb
    · rcases hB with rfl | ⟨b', off', rfl, hB⟩
      · have hl : la = [] := List.eq_nil_of_length_eq_zero h
        subst hl
        exact equalRules_none w _ bo ca cb
      · rw [← h]
        exact equalRules_loop la lb w la.length ca cb b off b' off' rfl h.symm hmax hF hA (by rw [h]; exact hB)
  · rw [Tr.listEq_len _ la lb h]
    exact equalRules_diff w ao bo _ _ ca cb h


set_option maxRecDepth 100000 in
set_option maxHeartbeats 1000000 in
theorem Same_any (l m : List Tr.Rule) (w : World) (va vb : Value) (hA : RulesV w va l) (hB : RulesV w vb m) (hF : Fine l) :
    Calls Tryz.prog 10 #[.agg #[va], .agg #[vb]] w fun e w' => e = .returned (.bool (Tr.treeEq false l m)) ∧ Below w.heap.size w w' := by
  obtain ⟨ao, ca, rfl, hA'⟩ := hA
  obtain ⟨bo, cb, rfl, hB'⟩ := hB
  have hb2 : ∀ o1 o2, Below w.heap.size w ((w.alloc o1).alloc o2) := fun o1 o2 => ((Below.refl _ _).alloc (Nat.le_refl _) _).alloc (by simp) _
  have HL : Hid (∀ w1, Below w.heap.size w w1 → Calls Tryz.prog 23 #[.slice ao l.length ca, .slice bo m.length cb, .func (.func 24) #[] #[]] w1 fun e w' => e = .returned (.bool (Tr.treeEq false l m)) ∧ Below w1.heap.size w1 w') :=
    fun w1 hb => equalRules_any l m w1 _ _ (rulesV_below ⟨ao, ca, rfl, hA'⟩ hb) (rulesV_below ⟨bo, cb, rfl, hB'⟩ hb) hF.1 hF
  clear hA' hB'
  go_enter Tryz.func10, Tryz.ntmps10
  go_wp2_with fail
  refine Calls.mono (HL.out _ (hb2 _ _)) ?_
  rintro e w4 ⟨rfl, hb4⟩
  go_wp2_with fail
  go_ret
  exact ⟨rfl, (hb2 _ _).trans (hb4.mono (hb2 _ _).size)⟩

end Go.Proofs.YtclbbiocagkmcaaGreatDoor

/- The parser's terms in brackets. -/
namespace Go.Proofs.YtclbbiocagkmcaaGreatDoor
open Go.RowKit

theorem must_len {t : List UInt8} {en : Int} {r r' : List Tk.Tok} (ht : ¬ t = []) (h : Pr.must t en r = .inr r') : r'.length < r.length := by
  unfold Pr.must at h
  cases h1 : ((Pr.hd en r).text == t)
  · rw [h1] at h; simp at h
  · rw [h1] at h
    simp only [if_true, Sum.inr.injEq] at h
    have hr := hd_ne ht h1
    subst h
    cases r with
    | nil => exact absurd rfl hr
    | cons a r => simp
theorem kind_len {en : Int} {r : List Tk.Tok} {k : Int} (hk : ¬ k = 0) (h : ((Pr.hd en r).kind == k) = true) : r.tail.length < r.length := by
  cases r with
  | nil => exact absurd (eq_of_beq h).symm hk
  | cons a r => simp
theorem number_len {en : Int} {r : List Tk.Tok} {x : Int × List Tk.Tok} (h : Pr.number en r = .inr x) : x.2.length < r.length := by
  unfold Pr.number at h
  cases hk : ((Pr.hd en r).kind == 3)
  · rw [hk] at h; simp at h
  · rw [hk] at h
    simp only [if_true, Sum.inr.injEq] at h
    subst h
    exact kind_len (by decide) hk
theorem term_len {en : Int} {r : List Tk.Tok} {x : Tr.Term × List Tk.Tok} (h : Pr.term en r = .inr x) : x.2.length < r.length := by
  unfold Pr.term at h
  cases h2 : ((Pr.hd en r).kind == 2)
  · cases h3 : ((Pr.hd en r).kind == 3)
    · rw [h2, h3] at h
      simp only [Bool.false_eq_true, if_false] at h
      cases hm : Pr.must [45] en r with
      | inl a => rw [hm] at h; simp at h
      | inr r1 =>
        rw [hm] at h
        have hl := must_len (by simp) hm
        simp only at h
        unfold Pr.neg at h
        cases h0 : ((Pr.hd en r1).text == [48])
        · rw [h0] at h
          simp only [Bool.false_eq_true, if_false] at h
          cases hn : Pr.number en r1 with
          | inl a => rw [hn] at h; simp at h
          | inr y =>
            rw [hn] at h
            simp only [Sum.inr.injEq] at h
            have := number_len hn
            subst h
            exact Nat.lt_trans this hl
        · rw [h0] at h; simp at h
    · rw [h2, h3] at h
      simp only [Bool.false_eq_true, if_false, if_true, Sum.inr.injEq] at h
      subst h
      exact kind_len (by decide) h3
  · rw [h2] at h
    simp only [if_true, Sum.inr.injEq] at h
    subst h
    exact kind_len (by decide) h2
theorem fold_len (may : Bool) (en : Int) (r : List Tk.Tok) : (Pr.foldMay may en r).2.length ≤ r.length := by
  unfold Pr.foldMay Pr.foldAt
  split
  · split <;> simp
  · simp
theorem text_len {t : List UInt8} {en : Int} {r : List Tk.Tok} (ht : ¬ t = []) (h : Pr.isText en r t = true) : r.tail.length < r.length := by
  have := hd_ne ht h
  cases r with
  | nil => exact absurd rfl this
  | cons a r => simp

/-- What terms leaves. -/
def TermsEnd (may : Bool) (P : Nat) (L : List Tk.Tok) (en : Int) (r : List Tk.Tok) (w : World) (e : Ending) (w' : World) : Prop := match Pr.terms may en r with
  | .inl a => e = gaveP a ∧ w.grownBy w' (some P)
  | .inr x => ∃ v, e = .returned (.tuple #[v, .int .i64 x.1.2]) ∧ TermsP w.heap.size w' v x.1.1 ∧ Went w w' P L en x.2

/-- fold, where it may be asked for. -/
theorem fold_any (P : Nat) (L : List Tk.Tok) (en : Int) (r : List Tk.Tok) (w : World) (hA : At w P L en r) :
    Calls Tryz.prog 90 #[.pointer (some ⟨P, 0, none⟩)] w fun e w' => e = .returned (.int .i64 (Pr.foldMay true en r).1) ∧ Went w w' P L en (Pr.foldMay true en r).2 := by
  by_cases h : Tr.foldOf (Pr.hd en r).text = 0
  · have e1 : Pr.foldMay true en r = (0, r) := by simp [Pr.foldMay, Pr.foldAt, h]
    rw [e1]
    refine (fold_no P L en r w hA h).mono ?_
    rintro e w' ⟨rfl, hb⟩
    exact ⟨rfl, grownBy_of_below hb _, hA.below hb⟩
  · have e1 : Pr.foldMay true en r = (Tr.foldOf (Pr.hd en r).text, r.tail) := by simp [Pr.foldMay, Pr.foldAt, h]
    rw [e1]
    exact fold_yes P L en r w hA h

theorem A_info71 : (Tryz.prog.info? 57).map (fun i => (i.zero, i.size, i.bytes)) = some (some (.agg #[.string ⟨#[]⟩, .int .i64 0]), 2, 24) := by kernel_rfl

/-- A term more. -/
theorem more_step (may : Bool) (en : Int) (f : Nat) (acc : List Tr.Term) (r : List Tk.Tok) (t : Tr.Term) (r2 : List Tk.Tok) (h : Pr.term en (Pr.foldMay may en r).2 = .inr (t, r2)) :
    Pr.more may en (f + 1) acc r = if ((Pr.foldMay may en r).1 == 0) && Pr.isText en r2 [44] then Pr.more may en f (acc ++ [t]) r2.tail else .inr ((acc ++ [t], (Pr.foldMay may en r).1), r2) := by
  rw [Pr.more, h]

end Go.Proofs.YtclbbiocagkmcaaGreatDoor

/- The parser's terms in brackets: the loop. -/
namespace Go.Proofs.YtclbbiocagkmcaaGreatDoor
open Go.RowKit

/-- 1, if it is true. -/
def bitOf (v : Value) : Nat := match v with | .bool true => 1 | _ => 0

theorem ownsRow_grown {w w' : World} {P base : Nat} {e : TypeId} {size : Nat} {v : Value} {n : Nat} {xs : List Value} (h : w.ownsRow base e size v n xs) (hg : w.grownBy w' (some P)) (hP : P < base) : w'.ownsRow base e size v n xs := by
  obtain ⟨h1, h2⟩ := h
  refine ⟨h1, ?_⟩
  rcases h2 with h2 | ⟨g, cap, cur, hv, hb, hbk, r⟩
  · exact .inl h2
  · exact .inr ⟨g, cap, cur, hv, hb, (hg.block g (heap_lt hbk) (by intro h; injection h; omega)).trans hbk, r⟩
theorem Went.own {w w3 w4 : World} {P base k n : Nat} {L : List Tk.Tok} {en : Int} {r : List Tk.Tok} {e : TypeId} {v : Value} {xs : List Value} (h : Went w w3 P L en r) (hg : w3.grownBy w4 v.ownBlock) (hown : w3.ownsRow base e k v n xs) (hb : w.heap.size ≤ base) (hP : P < w.heap.size) : Went w w4 P L en r := by
  have hne : ∀ i, i < w.heap.size → some i ≠ v.ownBlock := fun i hi he => by have := (hown.lt i he.symm).1; omega
  have hs := h.1.size
  refine ⟨⟨hg.os.trans h.1.os, hg.tape.trans h.1.tape, hg.output.trans h.1.output, Nat.le_trans hs hg.size, fun i hi hiP => (hg.block i (by omega) (hne i hi)).trans (h.1.block i hi hiP)⟩, h.2.keep fun i hi => hg.block i (by omega) (hne i (by omega))⟩

set_option maxRecDepth 100000 in
set_option maxHeartbeats 400000 in
theorem terms_off (may : Bool) (P : Nat) (L : List Tk.Tok) (en : Int) (r : List Tk.Tok) (w : World) (hA : At w P L en r) (h : Pr.isText en r [40] = false) :
    Calls Tryz.prog 68 #[.pointer (some ⟨P, 0, none⟩), .bool may] w (TermsEnd may P L en r w) := by
  have hE : TermsEnd may P L en r w = fun e w' => e = gaveP (Pr.hd en r).at_ ∧ w.grownBy w' (some P) := by
    funext e w'
    unfold Pr.isText at h
    simp [TermsEnd, Pr.terms, Pr.must, h]
  rw [hE]
  have hmu : Hid _ := must_no [40] P L en r w hA h
  generalize Pr.hd en r = x at *
  go_enter Tryz.func68, Tryz.ntmps68
  go_wp2_with fail
  refine Calls.mono hmu.out ?_
  rintro e w1 ⟨rfl, hb⟩
  exact ⟨rfl, rfl, grownBy_of_below hb _⟩

set_option maxRecDepth 100000 in
set_option maxHeartbeats 400000 in
theorem terms_none (may : Bool) (P : Nat) (L : List Tk.Tok) (en : Int) (r : List Tk.Tok) (w : World) (hA : At w P L en r) (h : Pr.isText en r [40] = true) (h1 : Pr.isText en r.tail [41] = true) :
    Calls Tryz.prog 68 #[.pointer (some ⟨P, 0, none⟩), .bool may] w (TermsEnd may P L en r w) := by
  have hE : TermsEnd may P L en r w = fun e w' => ∃ v, e = .returned (.tuple #[v, .int .i64 0]) ∧ TermsP w.heap.size w' v [] ∧ Went w w' P L en r.tail.tail := by
    funext e w'
    have h' := h
    unfold Pr.isText at h'
    simp [TermsEnd, Pr.terms, Pr.must, Pr.inside, h', h1]
  rw [hE]
  have hmu : Hid _ := must_yes [40] P L en r w hA (by simp) h
  go_enter Tryz.func68, Tryz.ntmps68
  go_wp2_with fail
  refine Calls.mono hmu.out ?_
  rintro e w1 ⟨rfl, hW⟩
  go_wp2_with fail
  refine (take_yes [41] P L en r.tail w1 hW.2 (by simp) h1).mono ?_
  rintro e w2 ⟨rfl, hW2⟩
  go_wp2
  exact bodyPost_ret (v := .tuple #[.slice none 0 0, .int .i64 0]) (by simp [results, Tryz.results68]) rfl ⟨_, rfl, ⟨none, 0, rfl, .inl rfl⟩, Went.trans hW hW2⟩

set_option maxRecDepth 100000 in
set_option maxHeartbeats 1000000 in
theorem terms_some (may : Bool) (P : Nat) (L : List Tk.Tok) (en : Int) (r : List Tk.Tok) (w : World) (hA : At w P L en r) (h : Pr.isText en r [40] = true) (h1 : Pr.isText en r.tail [41] = false) :
    Calls Tryz.prog 68 #[.pointer (some ⟨P, 0, none⟩), .bool may] w (TermsEnd may P L en r w) := by
  obtain ⟨i0, hi, hz0, hz1, hz2⟩ := info_parts A_info71
  have HE : Hid (∀ e w', (match Pr.more may en (r.tail.length + 1) [] r.tail with
      | .inl a => e = gaveP a ∧ w.grownBy w' (some P)
      | .inr x => match Pr.must [41] en x.2 with
        | .inl a => e = gaveP a ∧ w.grownBy w' (some P)
        | .inr r3 => ∃ v, e = .returned (.tuple #[v, .int .i64 x.1.2]) ∧ TermsP w.heap.size w' v x.1.1 ∧ Went w w' P L en r3) → TermsEnd may P L en r w e w') := by
    intro e w' hh
    have h' := h
    unfold Pr.isText at h'
    simp only [TermsEnd, Pr.terms, Pr.must, Pr.inside, h', h1, if_true, Bool.false_eq_true, if_false]
    revert hh
    cases Pr.more may en (r.tail.length + 1) [] r.tail with
    | inl a => exact id
    | inr x =>
      simp only [Pr.must]
      cases ((Pr.hd en x.2).text == [41]) <;> exact id
  have hmu : Hid _ := must_yes [40] P L en r w hA (by simp) h
  have hlt := hA.lt
  generalize hX : Pr.more may en (r.tail.length + 1) [] r.tail = X at HE
  generalize TermsEnd may P L en r w = Q at *
  clear hA
  go_enter Tryz.func68, Tryz.ntmps68
  go_wp2_with fail
  refine Calls.mono hmu.out ?_
  rintro e w1 ⟨rfl, hW1⟩
  go_wp2_with fail
  refine (take_no [41] P L en r.tail w1 hW1.2 h1).mono ?_
  rintro e w2 ⟨rfl, hb2⟩
  have hW2 : Went w w2 P L en r.tail := Went.below hW1 hb2
  clear hW1 hb2 hmu h h1
  generalize r.tail = r0 at *
  go_wp2_with fail
  go_loopw [6, 7, 8] (fun a b c wr => ∃ (acc : List Tr.Term) (r1 : List Tk.Tok) (fo : Int), wr.ownsRow w.heap.size 57 2 a acc.length (acc.map termCells).flatten ∧ Went w wr P L en r1 ∧ b = .int .i64 fo ∧ acc.length + r1.length ≤ L.length ∧
      ((c = .bool true ∧ fo = 0 ∧ ∃ f, r1.length < f ∧ Pr.more may en f acc r1 = X) ∨ (c = .bool false ∧ X = .inr ((acc, fo), r1))))
    (fun _ _ c wr => bitOf c + (L.length - nxOf wr P))
  case atStart =>
    obtain ⟨m1, m2, m3⟩ := hW2.2.meas
    exact ⟨[], r0, 0, World.ownsRow_nil _ _ _ _, hW2, rfl, by simpa using m2, .inl ⟨rfl, rfl, _, Nat.lt_succ_self _, hX⟩⟩
  case round =>
    obtain ⟨acc, r1, fo, hown, hW, rfl, hlen, hc⟩ := hrel
    obtain ⟨ao, cap, rfl⟩ := own_slice hown
    obtain ⟨m1, m2, m3⟩ := hW.2.meas
    rcases hc with ⟨rfl, rfl, f, hf, hX1⟩ | ⟨rfl, hX1⟩
    · obtain ⟨f, rfl⟩ : ∃ f', f = f' + 1 := ⟨f - 1, by omega⟩
      cases may
      · have hWF := hW
        have hownF := hown
        cases hT : Pr.term en r1 with
        | inl a =>
          have hXa : X = .inl a := by rw [← hX1, Pr.more, show Pr.foldMay false en r1 = (0, r1) from rfl, hT]
          go_wp2_with fail
          refine (term_no P L en r1 _ hWF.2 a hT).mono ?_
          rintro e w3 ⟨rfl, hg3⟩
          exact ⟨rfl, HE.out _ _ (by rw [hXa]; exact ⟨rfl, grownBy_trans hWF.1 hg3⟩)⟩
        | inr x =>
          obtain ⟨t, r2⟩ := x
          have hl2 : r2.length < r1.length := Nat.lt_of_lt_of_le (term_len hT) (Nat.le_refl _)
          have hXs : X = if ((0 : Int) == 0) && Pr.isText en r2 [44] then Pr.more false en f (acc ++ [t]) r2.tail else .inr ((acc ++ [t], (0 : Int)), r2) := by rw [← hX1, Pr.more, show Pr.foldMay false en r1 = (0, r1) from rfl, hT]
          go_wp2_with fail
          refine (term_yes P L en r1 _ hWF.2 t r2 hT).mono ?_
          rintro e w3 ⟨rfl, hW3⟩
          have hW3' : Went w w3 P L en r2 := Went.trans hWF hW3
          have hown3 := ownsRow_grown hownF hW3.1 hlt
          have hsz3 : w.heap.size ≤ w3.heap.size := hW3'.1.size
          clear hW3 hX1 hT
          go_wp2_with (at_builtin; refine wpList_append_own _ rfl (.tmp 23) (.tmp 26) 43 rfl w.heap.size 57 i0 _ 2 24 Tryz.underlying43 hi hz0 hz1 hz2 rfl (by decide) _ _ _ rfl (ownsRow_below hown3 ((Below.refl _ _).alloc (Nat.le_refl _) _)) ⟨w3.heap.size, 0, none⟩ 1 1 (termCells t) rfl rfl ?c1 ?c2 ?c3 ?c4 ?c5 ?_)
          case c1 =>
            intro j u hj
            match j, hj with
            | 0, hj => simp [termCells] at hj; subst hj; simp [Addr.add, go_sem]
            | 1, hj => simp [termCells] at hj; subst hj; simp [Addr.add, go_sem]
          case c2 => intro u hu; simp [termCells] at hu; rcases hu with rfl | rfl <;> rfl
          case c3 => unfold maxLen; omega
          case c4 => omega
          case c5 => simp; omega
          intro v' w4 hown4 hgrow _
          have hW4 : Went w w4 P L en r2 := Went.own (Went.alloc hW3' _) hgrow (ownsRow_below hown3 ((Below.refl _ _).alloc (Nat.le_refl _) _)) (Nat.le_refl _) hlt
          have hown4' : w4.ownsRow w.heap.size 57 2 v' (acc ++ [t]).length ((acc ++ [t]).map termCells).flatten := by
            simpa using hown4
          obtain ⟨ao', cap', rfl⟩ := own_slice hown4
          clear hown4 hgrow hown3 hW3' hi hz0 hz1 hz2
          cases hq : Pr.isText en r2 [44]
          · go_wp2_with fail
            refine (take_no [44] P L en r2 _ hW4.2 hq).mono ?_
            rintro e w5 ⟨rfl, hb5⟩
            have hW5 := Went.below hW4 hb5
            go_wp2
            go_roundw
            case rel => exact ⟨acc ++ [t], r2, 0, ownsRow_below hown4' hb5, hW5, rfl, by rw [List.length_append]; simp; omega, .inr ⟨rfl, by rw [hXs, hq]; rfl⟩⟩
            case measure => rw [hW5.2.meas.1, hW.2.meas.1]; simp [bitOf]; omega
          · have hl3 := text_len (by simp) hq
            go_wp2_with fail
            refine (take_yes [44] P L en r2 _ hW4.2 (by simp) hq).mono ?_
            rintro e w5 ⟨rfl, hW5⟩
            have hown5 := ownsRow_grown hown4' hW5.1 hlt
            have hW5 := Went.trans hW4 hW5
            go_wp2
            go_roundw
            case rel => exact ⟨acc ++ [t], r2.tail, 0, hown5, hW5, rfl, by rw [List.length_append]; simp; omega, .inl ⟨rfl, rfl, f, by omega, by rw [hXs, hq]; rfl⟩⟩
            case measure => rw [hW5.2.meas.1, hW.2.meas.1]; simp [bitOf]; omega
      · have hfl := fold_len true en r1
        generalize hfm : Pr.foldMay true en r1 = fm at hfl
        have hfa : Hid (∀ w', At w' P L en r1 → _) := fun w' h' => fold_any P L en r1 w' h'
        rw [hfm] at hfa
        go_wp2_with fail
        refine Calls.mono (hfa.out _ hW.2) ?_
        rintro e wf ⟨rfl, hWf⟩
        have hWF : Went w wf P L en fm.2 := Went.trans hW hWf
        have hownF := ownsRow_grown hown hWf.1 hlt
        cases hT : Pr.term en fm.2 with
        | inl a =>
          have hXa : X = .inl a := by rw [← hX1, Pr.more, hfm, hT]
          go_wp2_with fail
          refine (term_no P L en fm.2 _ hWF.2 a hT).mono ?_
          rintro e w3 ⟨rfl, hg3⟩
          exact ⟨rfl, HE.out _ _ (by rw [hXa]; exact ⟨rfl, grownBy_trans hWF.1 hg3⟩)⟩
        | inr x =>
          obtain ⟨t, r2⟩ := x
          have hl2 : r2.length < r1.length := Nat.lt_of_lt_of_le (term_len hT) (hfl)
          have hXs : X = if (fm.1 == 0) && Pr.isText en r2 [44] then Pr.more true en f (acc ++ [t]) r2.tail else .inr ((acc ++ [t], fm.1), r2) := by rw [← hX1, Pr.more, hfm, hT]
          go_wp2_with fail
          refine (term_yes P L en fm.2 _ hWF.2 t r2 hT).mono ?_
          rintro e w3 ⟨rfl, hW3⟩
          have hW3' : Went w w3 P L en r2 := Went.trans hWF hW3
          have hown3 := ownsRow_grown hownF hW3.1 hlt
          have hsz3 : w.heap.size ≤ w3.heap.size := hW3'.1.size
          clear hW3 hX1 hT
          go_wp2_with (at_builtin; refine wpList_append_own _ rfl (.tmp 23) (.tmp 26) 43 rfl w.heap.size 57 i0 _ 2 24 Tryz.underlying43 hi hz0 hz1 hz2 rfl (by decide) _ _ _ rfl (ownsRow_below hown3 ((Below.refl _ _).alloc (Nat.le_refl _) _)) ⟨w3.heap.size, 0, none⟩ 1 1 (termCells t) rfl rfl ?c1 ?c2 ?c3 ?c4 ?c5 ?_)
          case c1 =>
            intro j u hj
            match j, hj with
            | 0, hj => simp [termCells] at hj; subst hj; simp [Addr.add, go_sem]
            | 1, hj => simp [termCells] at hj; subst hj; simp [Addr.add, go_sem]
          case c2 => intro u hu; simp [termCells] at hu; rcases hu with rfl | rfl <;> rfl
          case c3 => unfold maxLen; omega
          case c4 => omega
          case c5 => simp; omega
          intro v' w4 hown4 hgrow _
          have hW4 : Went w w4 P L en r2 := Went.own (Went.alloc hW3' _) hgrow (ownsRow_below hown3 ((Below.refl _ _).alloc (Nat.le_refl _) _)) (Nat.le_refl _) hlt
          have hown4' : w4.ownsRow w.heap.size 57 2 v' (acc ++ [t]).length ((acc ++ [t]).map termCells).flatten := by
            simpa using hown4
          obtain ⟨ao', cap', rfl⟩ := own_slice hown4
          clear hown4 hgrow hown3 hW3' hi hz0 hz1 hz2
          cases hf : (fm.1 == 0)
          · go_wp2
            go_roundw
            case rel => exact ⟨acc ++ [t], r2, fm.1, hown4', hW4, rfl, by rw [List.length_append]; simp; omega, .inr ⟨rfl, by rw [hXs, hf]; rfl⟩⟩
            case measure => rw [hW4.2.meas.1, hW.2.meas.1]; simp [bitOf]; omega
          · have hf0 : fm.1 = 0 := eq_of_beq hf
            cases hq : Pr.isText en r2 [44]
            · go_wp2_with fail
              refine (take_no [44] P L en r2 _ hW4.2 hq).mono ?_
              rintro e w5 ⟨rfl, hb5⟩
              have hW5 := Went.below hW4 hb5
              go_wp2
              go_roundw
              case rel => exact ⟨acc ++ [t], r2, fm.1, ownsRow_below hown4' hb5, hW5, by rw [hf0], by rw [List.length_append]; simp; omega, .inr ⟨rfl, by rw [hXs, hf, hq]; rfl⟩⟩
              case measure => rw [hW5.2.meas.1, hW.2.meas.1]; simp [bitOf]; omega
            · have hl3 := text_len (by simp) hq
              go_wp2_with fail
              refine (take_yes [44] P L en r2 _ hW4.2 (by simp) hq).mono ?_
              rintro e w5 ⟨rfl, hW5⟩
              have hown5 := ownsRow_grown hown4' hW5.1 hlt
              have hW5 := Went.trans hW4 hW5
              go_wp2
              go_roundw
              case rel => exact ⟨acc ++ [t], r2.tail, fm.1, hown5, hW5, by rw [hf0], by rw [List.length_append]; simp; omega, .inl ⟨rfl, hf0, f, by omega, by rw [hXs, hf, hq]; rfl⟩⟩
              case measure => rw [hW5.2.meas.1, hW.2.meas.1]; simp [bitOf]; omega
    · cases hq : Pr.isText en r1 [41]
      · have hm : Pr.must [41] en r1 = .inl (Pr.hd en r1).at_ := by unfold Pr.must; unfold Pr.isText at hq; rw [hq]; rfl
        go_wp2_with fail
        refine (must_no [41] P L en r1 _ hW.2 hq).mono ?_
        rintro e w5 ⟨rfl, hb5⟩
        exact ⟨rfl, HE.out _ _ (by rw [hX1]; simp only [hm]; exact ⟨trivial, ground hW.1 hb5⟩)⟩
      · have hm : Pr.must [41] en r1 = .inr r1.tail := by unfold Pr.must; unfold Pr.isText at hq; rw [hq]; rfl
        go_wp2_with fail
        refine (must_yes [41] P L en r1 _ hW.2 (by simp) hq).mono ?_
        rintro e w5 ⟨rfl, hW5⟩
        have hown5 := ownsRow_grown hown hW5.1 hlt
        go_wp2
        refine HE.out _ _ ?_
        rw [hX1]
        simp only [hm]
        exact ⟨_, rfl, rowP_own (by intro c hc; simp at hc; obtain ⟨t, _, rfl⟩ := hc; rfl) (by rw [List.length_map]; exact hown5), Went.trans hW hW5⟩

theorem terms_any (may : Bool) (P : Nat) (L : List Tk.Tok) (en : Int) (r : List Tk.Tok) (w : World) (hA : At w P L en r) :
    Calls Tryz.prog 68 #[.pointer (some ⟨P, 0, none⟩), .bool may] w (TermsEnd may P L en r w) := by
  cases h : Pr.isText en r [40]
  · exact terms_off may P L en r w hA h
  · cases h1 : Pr.isText en r.tail [41]
    · exact terms_some may P L en r w hA h h1
    · exact terms_none may P L en r w hA h h1

end Go.Proofs.YtclbbiocagkmcaaGreatDoor

/- The parser's literals that are reckoned. -/
namespace Go.Proofs.YtclbbiocagkmcaaGreatDoor
open Go.RowKit

abbrev litZero : Obj := .cells #[.int .i64 0, .int .i64 0, .int .i64 0, .string ⟨#[]⟩, .slice none 0 0] 50
/-- A literal under way: block N: the result's; N + 1: the literal's. -/
structure RInv (w wr : World) (P : Nat) (L : List Tk.Tok) (en : Int) (r : List Tk.Tok) (k at_ op : Int) (v : Value) (acc : List Tr.Term) : Prop where
  went : Went w wr P L en r
  res : wr.heap[w.heap.size]? = some litZero
  lit : wr.heap[w.heap.size + 1]? = some (.cells #[.int .i64 k, .int .i64 at_, .int .i64 op, .string ⟨#[]⟩, v] 50)
  own : wr.ownsRow (w.heap.size + 2) 57 2 v acc.length (acc.map termCells).flatten
  lt : P < w.heap.size

theorem RInv.sz {w wr : World} {P : Nat} {L : List Tk.Tok} {en : Int} {r : List Tk.Tok} {k at_ op : Int} {v : Value} {acc : List Tr.Term} (h : RInv w wr P L en r k at_ op v acc) : w.heap.size + 2 ≤ wr.heap.size := heap_lt h.lit
theorem RInv.start {w : World} {P : Nat} {L : List Tk.Tok} {en : Int} {r : List Tk.Tok} (hA : At w P L en r) (at_ : Int) :
    RInv w ((w.alloc litZero).alloc (.cells #[.int .i64 3, .int .i64 at_, .int .i64 0, .string ⟨#[]⟩, .slice none 0 0] 50)) P L en r 3 at_ 0 (.slice none 0 0) [] where
  went := Went.alloc (Went.alloc ⟨grownBy_of_below (Below.refl _ _) _, hA⟩ _) _
  res := (heap_alloc_old _ _ (by simp)).trans (heap_alloc_new w _)
  lit := by have := heap_alloc_new (w.alloc litZero) (.cells #[.int .i64 3, .int .i64 at_, .int .i64 0, .string ⟨#[]⟩, .slice none 0 0] 50); simpa using this
  own := World.ownsRow_nil _ _ _ _
  lt := hA.lt
theorem RInv.on {w wr w' : World} {P : Nat} {L : List Tk.Tok} {en : Int} {r r' : List Tk.Tok} {k at_ op : Int} {v : Value} {acc : List Tr.Term} (h : RInv w wr P L en r k at_ op v acc) (hW : Went wr w' P L en r') : RInv w w' P L en r' k at_ op v acc where
  went := Went.trans h.went hW
  res := (hW.1.block _ (heap_lt h.res) (by have := h.lt; intro e; injection e; omega)).trans h.res
  lit := (hW.1.block _ (heap_lt h.lit) (by have := h.lt; intro e; injection e; omega)).trans h.lit
  own := ownsRow_grown h.own hW.1 (by have := h.lt; omega)
  lt := h.lt
theorem RInv.below {w wr w' : World} {P : Nat} {L : List Tk.Tok} {en : Int} {r : List Tk.Tok} {k at_ op : Int} {v : Value} {acc : List Tr.Term} (h : RInv w wr P L en r k at_ op v acc) (hb : Below wr.heap.size wr w') : RInv w w' P L en r k at_ op v acc :=
  h.on ⟨grownBy_of_below hb _, h.went.2.below hb⟩
theorem RInv.on2 {w wr wr' w' : World} {P : Nat} {L : List Tk.Tok} {en : Int} {r r' : List Tk.Tok} {k at_ op : Int} {v : Value} {acc : List Tr.Term} (h : RInv w wr P L en r k at_ op v acc) (hW : Went wr' w' P L en r') (hb : Below wr.heap.size wr wr') : RInv w w' P L en r' k at_ op v acc :=
  (h.below hb).on hW
/-- The cells. -/
theorem RInv.cells {w wr : World} {P : Nat} {L : List Tk.Tok} {en : Int} {r : List Tk.Tok} {k at_ op : Int} {v : Value} {acc : List Tr.Term} (h : RInv w wr P L en r k at_ op v acc) :
    wr.cell? ⟨w.heap.size + 1, 0, none⟩ = some (.int .i64 k) ∧ wr.cell? ⟨w.heap.size + 1, 1, none⟩ = some (.int .i64 at_) ∧ wr.cell? ⟨w.heap.size + 1, 2, none⟩ = some (.int .i64 op) ∧ wr.cell? ⟨w.heap.size + 1, 3, none⟩ = some (.string ⟨#[]⟩) ∧
      wr.cell? ⟨w.heap.size + 1, 4, none⟩ = some v ∧ (∀ o, wr.frozen? ⟨w.heap.size + 1, o, none⟩ = false) ∧ (∀ o, wr.frozen? ⟨w.heap.size, o, none⟩ = false) :=
  ⟨by rw [Lib.cell_of_heap h.lit]; rfl, by rw [Lib.cell_of_heap h.lit]; rfl, by rw [Lib.cell_of_heap h.lit]; rfl, by rw [Lib.cell_of_heap h.lit]; rfl, by rw [Lib.cell_of_heap h.lit]; rfl, fun o => by simp [World.frozen?, h.lit], fun o => by simp [World.frozen?, h.res]⟩

theorem RInv.app {w wr w3 : World} {P : Nat} {L : List Tk.Tok} {en : Int} {r : List Tk.Tok} {k at_ op : Int} {v : Value} {acc : List Tr.Term} (h : RInv w wr P L en r k at_ op v acc) (hg : wr.grownBy w3 v.ownBlock) :
    w3.heap[w.heap.size]? = some litZero ∧ w3.heap[w.heap.size + 1]? = some (.cells #[.int .i64 k, .int .i64 at_, .int .i64 op, .string ⟨#[]⟩, v] 50) ∧ w3.cell? ⟨w.heap.size + 1, 4, none⟩ = some v ∧ w3.frozen? ⟨w.heap.size + 1, 4, none⟩ = false := by
  have hs := h.sz
  have hne : ∀ i, i < w.heap.size + 2 → some i ≠ v.ownBlock := fun i hi he => by have := (h.own.lt i he.symm).1; omega
  have e1 := (hg.block _ (heap_lt h.res) (hne _ (by omega))).trans h.res
  have e2 := (hg.block _ (heap_lt h.lit) (hne _ (by omega))).trans h.lit
  exact ⟨e1, e2, by rw [Lib.cell_of_heap e2]; rfl, by simp [World.frozen?, e2]⟩
theorem RInv.put {w wr w3 : World} {P : Nat} {L : List Tk.Tok} {en : Int} {r : List Tk.Tok} {k at_ op : Int} {v v' : Value} {acc : List Tr.Term} {t : Tr.Term} (h : RInv w wr P L en r k at_ op v acc) (hg : wr.grownBy w3 v.ownBlock)
    (hown : w3.ownsRow (w.heap.size + 2) 57 2 v' (acc.length + 1) ((acc.map termCells).flatten ++ termCells t)) : RInv w (w3.setCell ⟨w.heap.size + 1, 4, none⟩ v') P L en r k at_ op v' (acc ++ [t]) where
  went := (Went.own h.went hg h.own (by omega) h.lt).set h.lt (by omega) _ _
  res := (Below.heap_setCell _ _ _ _ (show ¬ w.heap.size = w.heap.size + 1 by omega)).trans (h.app hg).1
  lit := by
    have := (h.app hg).2.1
    simp [World.setCell, Array.getElem?_modify, this]
  own := ownsRow_setCell_below (by simpa using hown) (by simp) _
  lt := h.lt

theorem news_term (w : World) (t : Tr.Term) : ∀ j u, (termCells t)[j]? = some u → (w.alloc (.cells #[.string ⟨t.var.toArray⟩, .int .i64 t.n] 57)).cell? ((⟨w.heap.size, 0, none⟩ : Addr).add j) = some u := World.news_of_block (heap_alloc_new w _)
theorem one_term (t : Tr.Term) : ∀ u ∈ termCells t, u.oneCell' = true := by intro u hu; simp [termCells] at hu; rcases hu with rfl | rfl <;> rfl

theorem RInv.setOp {w wr : World} {P : Nat} {L : List Tk.Tok} {en : Int} {r : List Tk.Tok} {k at_ op : Int} {v : Value} {acc : List Tr.Term} (h : RInv w wr P L en r k at_ op v acc) (o : Int) : RInv w (wr.setCell ⟨w.heap.size + 1, 2, none⟩ (.int .i64 o)) P L en r k at_ o v acc where
  went := h.went.set h.lt (by omega) _ _
  res := (Below.heap_setCell _ _ _ _ (show ¬ w.heap.size = w.heap.size + 1 by omega)).trans h.res
  lit := by
    have := h.lit
    simp [World.setCell, Array.getElem?_modify, this]
  own := ownsRow_setCell_below h.own (by simp) _
  lt := h.lt
theorem RInv.setKind {w wr : World} {P : Nat} {L : List Tk.Tok} {en : Int} {r : List Tk.Tok} {k at_ op : Int} {v : Value} {acc : List Tr.Term} (h : RInv w wr P L en r k at_ op v acc) (o : Int) : RInv w (wr.setCell ⟨w.heap.size + 1, 0, none⟩ (.int .i64 o)) P L en r o at_ op v acc where
  went := h.went.set h.lt (by omega) _ _
  res := (Below.heap_setCell _ _ _ _ (show ¬ w.heap.size = w.heap.size + 1 by omega)).trans h.res
  lit := by
    have := h.lit
    simp [World.setCell, Array.getElem?_modify, this]
  own := ownsRow_setCell_below h.own (by simp) _
  lt := h.lt
theorem RInv.rcells {w wr : World} {P : Nat} {L : List Tk.Tok} {en : Int} {r : List Tk.Tok} {k at_ op : Int} {v : Value} {acc : List Tr.Term} (h : RInv w wr P L en r k at_ op v acc) :
    wr.cell? ⟨w.heap.size, 0, none⟩ = some (.int .i64 0) ∧ wr.cell? ⟨w.heap.size, 1, none⟩ = some (.int .i64 0) ∧ wr.cell? ⟨w.heap.size, 2, none⟩ = some (.int .i64 0) ∧ wr.cell? ⟨w.heap.size, 3, none⟩ = some (.string ⟨#[]⟩) ∧
      wr.cell? ⟨w.heap.size, 4, none⟩ = some (.slice none 0 0) :=
  ⟨by rw [Lib.cell_of_heap h.res]; rfl, by rw [Lib.cell_of_heap h.res]; rfl, by rw [Lib.cell_of_heap h.res]; rfl, by rw [Lib.cell_of_heap h.res]; rfl, by rw [Lib.cell_of_heap h.res]; rfl⟩
theorem gone {w wr wr' w' : World} {P : Nat} (h : w.grownBy wr (some P)) (hg : wr'.grownBy w' (some P)) (hb : Below wr.heap.size wr wr') : w.grownBy w' (some P) := grownBy_trans (ground h hb) hg
/-- What literal and reckoning leave. -/
def LitEnd (P : Nat) (L : List Tk.Tok) (en : Int) (w : World) (x : Int ⊕ (Tr.Lit × List Tk.Tok)) (e : Ending) (w' : World) : Prop := match x with
  | .inl a => e = gaveP a ∧ w.grownBy w' (some P)
  | .inr x => ∃ v, e = .returned (litVal x.1 v) ∧ TermsP w.heap.size w' v x.1.terms ∧ Went w w' P L en x.2
/-- The literal, copied to the result. -/
theorem RInv.out {w wr : World} {P : Nat} {L : List Tk.Tok} {en : Int} {r : List Tk.Tok} {k at_ op : Int} {v : Value} {acc : List Tr.Term} (h : RInv w wr P L en r k at_ op v acc) (a b c d e : Value) :
    TermsP w.heap.size (((((wr.setCell ⟨w.heap.size, 0, none⟩ a).setCell ⟨w.heap.size, 1, none⟩ b).setCell ⟨w.heap.size, 2, none⟩ c).setCell ⟨w.heap.size, 3, none⟩ d).setCell ⟨w.heap.size, 4, none⟩ e) v acc ∧
      Went w (((((wr.setCell ⟨w.heap.size, 0, none⟩ a).setCell ⟨w.heap.size, 1, none⟩ b).setCell ⟨w.heap.size, 2, none⟩ c).setCell ⟨w.heap.size, 3, none⟩ d).setCell ⟨w.heap.size, 4, none⟩ e) P L en r := by
  have h0 : TermsP (w.heap.size + 2) wr v acc := rowP_own (by intro c hc; simp at hc; obtain ⟨t, _, rfl⟩ := hc; rfl) (by rw [List.length_map]; exact h.own)
  refine ⟨?_, ((((h.went.set h.lt (Nat.le_refl _) _ _).set h.lt (Nat.le_refl _) _ _).set h.lt (Nat.le_refl _) _ _).set h.lt (Nat.le_refl _) _ _).set h.lt (Nat.le_refl _) _ _⟩
  exact (((((h0.keep (keeps_set _ (by omega) _ _)).keep (keeps_set _ (by omega) _ _)).keep (keeps_set _ (by omega) _ _)).keep (keeps_set _ (by omega) _ _)).keep (keeps_set _ (by omega) _ _)).mono (by omega)

set_option maxRecDepth 100000 in
set_option maxHeartbeats 4000000 in
theorem reckon_any (at_ : Int) (P : Nat) (L : List Tk.Tok) (en : Int) (r : List Tk.Tok) (w : World) (hA : At w P L en r) :
    Calls Tryz.prog 92 #[.pointer (some ⟨P, 0, none⟩), .int .i64 at_] w (LitEnd P L en w (Pr.reckon at_ en r)) := by
  obtain ⟨i0, hi, hz0, hz1, hz2⟩ := info_parts A_info71
  have hI := RInv.start hA at_
  have HQ : Hid (∀ X, Pr.reckon at_ en r = X → ∀ e w', LitEnd P L en w X e w' → LitEnd P L en w (Pr.reckon at_ en r) e w') := by rintro X rfl e w' h; exact h
  generalize LitEnd P L en w (Pr.reckon at_ en r) = Q at HQ ⊢
  cases h1 : Pr.term en r with
  | inl a =>
    have hX' : Pr.reckon at_ en r = .inl a := by rw [Pr.reckon, h1]
    have hX : Hid _ := hX'
    clear hX'
    have HN : Hid (∀ w1, At w1 P L en r → _) := fun w1 h => term_no P L en r w1 h a h1
    go_enter Tryz.func92, Tryz.ntmps92
    go_upto_region 2 with fail
    generalize (w.alloc litZero).alloc (.cells #[.int .i64 3, .int .i64 at_, .int .i64 0, .string ⟨#[]⟩, .slice none 0 0] 50) = w0 at *
    obtain ⟨c0, c1, c2, c3, c4, f1, f0⟩ := hI.cells
    go_region_dies
    all_goals (refine Calls.mono (HN.out _ (At.keep hI.went.2 (fun _ _ => rfl))) ?_)
    all_goals rintro e y2 ⟨rfl, hg2⟩
    all_goals exact ⟨rfl, HQ.out _ hX.out _ _ ⟨rfl, gone hI.went.1 hg2 ⟨rfl, rfl, rfl, Nat.le_refl _, fun _ _ => rfl⟩⟩⟩
  | inr x1 =>
    obtain ⟨t1, r1⟩ := x1
    have HT1 : Hid (∀ w1, At w1 P L en r → _) := fun w1 h => term_yes P L en r w1 h t1 r1 h1
    by_cases hop : Pr.opOf (Pr.hd en r1).text = 0
    · have hX' : Pr.reckon at_ en r = .inl (Pr.hd en r1).at_ := by
        have : Pr.op en r1 = .inl (Pr.hd en r1).at_ := by simp [Pr.op, hop]
        simp only [Pr.reckon, h1, this]
      have hX : Hid _ := hX'
      clear hX'
      have HN : Hid (∀ w1, At w1 P L en r1 → _) := fun w1 h => op_no P L en r1 w1 h hop
      generalize Pr.hd en r1 = x at *
      go_enter Tryz.func92, Tryz.ntmps92
      go_upto_region 2 with fail
      generalize (w.alloc litZero).alloc (.cells #[.int .i64 3, .int .i64 at_, .int .i64 0, .string ⟨#[]⟩, .slice none 0 0] 50) = w0 at *
      obtain ⟨c0, c1, c2, c3, c4, f1, f0⟩ := hI.cells
      go_cut [] (fun wx => ∃ v, RInv w wx P L en r1 3 at_ 0 v [t1])
      case first =>
        go_region_law (first
          | (go_simp; go_at_call 91; refine Calls.mono (HT1.out _ (At.keep hI.went.2 (fun _ _ => rfl))) ?_; rintro e y2 ⟨rfl, hW2⟩; have hI2 := RInv.on2 hI hW2 ⟨rfl, rfl, rfl, Nat.le_refl _, fun _ _ => rfl⟩; obtain ⟨d0, d1, d2, d3, d4, g1, g0⟩ := hI2.cells; have hsz := hI2.sz; have hsz1 : w.heap.size + 1 < y2.heap.size := hsz; dsimp only)
          | (refine step_append_lies _ rfl (.tmp 9) (.tmp 12) 43 rfl (w.heap.size + 2) 57 i0 _ 2 24 Tryz.underlying43 hi hz0 hz1 hz2 rfl (by decide) (.slice none 0 0) 0 _ ?hs (RInv.below hI2 ((Below.refl _ _).alloc (Nat.le_refl _) _)).own ⟨y2.heap.size, 0, none⟩ 1 1 (termCells t1) ?hx rfl ?hn ?ho ?hm ?h6 ?hb ?hB _ rfl ?_
             case hs => simp [Act.eval]
             case hx => simp [Act.eval]
             case hn => exact news_term _ _
             case ho => exact one_term _
             case hm => decide
             case h6 => decide
             case hb => decide
             case hB => (simp; omega)
             intro g cap y3 hown hgrow hat hlt
             have hI3 := RInv.put (t := t1) (RInv.below hI2 ((Below.refl _ _).alloc (Nat.le_refl _) _)) hgrow hown
             obtain ⟨_, _, e4, ef⟩ := RInv.app (RInv.below hI2 ((Below.refl _ _).alloc (Nat.le_refl _) _)) hgrow))
        all_goals (go_wp2_with fail; go_meet)
        all_goals exact ⟨_, hI3⟩
      case rest =>
        obtain ⟨va, hIa⟩ := hcut
        obtain ⟨aoa, capa, rfl⟩ := own_slice hIa.own
        go_wp2_with fail
        refine Calls.mono (HN.out _ hIa.went.2) ?_
        rintro e y2 ⟨rfl, hb2⟩
        exact ⟨rfl, HQ.out _ hX.out _ _ ⟨rfl, ground hIa.went.1 hb2⟩⟩
    · have hO : Pr.op en r1 = .inr (Pr.opOf (Pr.hd en r1).text, r1.tail) := by simp [Pr.op, hop]
      have HO : Hid (∀ w1, At w1 P L en r1 → _) := fun w1 h => op_yes P L en r1 w1 h hop
      generalize Pr.opOf (Pr.hd en r1).text = o at hO HO
      clear hop
      have hX0' : Pr.reckon at_ en r = match Pr.term en r1.tail with
          | .inl p => .inl p
          | .inr b => if Tr.between o 5 7 then Pr.calcLit at_ o t1 b.1 en b.2 else .inr (⟨3, at_, o, [], [t1, b.1]⟩, b.2) := by
        simp only [Pr.reckon, h1, hO]
        cases Pr.term en r1.tail <;> rfl
      have hX0 : Hid _ := hX0'
      clear hX0'
      go_enter Tryz.func92, Tryz.ntmps92
      go_upto_region 2 with fail
      generalize (w.alloc litZero).alloc (.cells #[.int .i64 3, .int .i64 at_, .int .i64 0, .string ⟨#[]⟩, .slice none 0 0] 50) = w0 at *
      obtain ⟨c0, c1, c2, c3, c4, f1, f0⟩ := hI.cells
      go_cut [] (fun wx => ∃ v, RInv w wx P L en r1 3 at_ 0 v [t1])
      case first =>
        go_region_law (first
          | (go_simp; go_at_call 91; refine Calls.mono (HT1.out _ (At.keep hI.went.2 (fun _ _ => rfl))) ?_; rintro e y2 ⟨rfl, hW2⟩; have hI2 := RInv.on2 hI hW2 ⟨rfl, rfl, rfl, Nat.le_refl _, fun _ _ => rfl⟩; obtain ⟨d0, d1, d2, d3, d4, g1, g0⟩ := hI2.cells; have hsz := hI2.sz; have hsz1 : w.heap.size + 1 < y2.heap.size := hsz; dsimp only)
          | (refine step_append_lies _ rfl (.tmp 9) (.tmp 12) 43 rfl (w.heap.size + 2) 57 i0 _ 2 24 Tryz.underlying43 hi hz0 hz1 hz2 rfl (by decide) (.slice none 0 0) 0 _ ?hs (RInv.below hI2 ((Below.refl _ _).alloc (Nat.le_refl _) _)).own ⟨y2.heap.size, 0, none⟩ 1 1 (termCells t1) ?hx rfl ?hn ?ho ?hm ?h6 ?hb ?hB _ rfl ?_
             case hs => simp [Act.eval]
             case hx => simp [Act.eval]
             case hn => exact news_term _ _
             case ho => exact one_term _
             case hm => decide
             case h6 => decide
             case hb => decide
             case hB => (simp; omega)
             intro g cap y3 hown hgrow hat hlt
             have hI3 := RInv.put (t := t1) (RInv.below hI2 ((Below.refl _ _).alloc (Nat.le_refl _) _)) hgrow hown
             obtain ⟨_, _, e4, ef⟩ := RInv.app (RInv.below hI2 ((Below.refl _ _).alloc (Nat.le_refl _) _)) hgrow))
        all_goals (go_wp2_with fail; go_meet)
        all_goals exact ⟨_, hI3⟩
      case rest =>
        obtain ⟨va, hIa⟩ := hcut
        obtain ⟨aoa, capa, rfl⟩ := own_slice hIa.own
        obtain ⟨c0, c1, c2, c3, c4, f1, f0⟩ := hIa.cells
        clear hI
        go_wp2_with fail
        refine Calls.mono (HO.out _ hIa.went.2) ?_
        rintro e w2 ⟨rfl, hW2⟩
        have hIb := (hIa.on hW2)
        obtain ⟨c0, c1, c2, c3, c4, f1, f0⟩ := hIb.cells
        have hIc := hIb.setOp o
        go_upto_region 4 with fail
        generalize w2.setCell ⟨w.heap.size + 1, 2, none⟩ (.int .i64 o) = w3 at *
        clear c0 c1 c2 c3 c4 f1 f0 hIa hIb
        obtain ⟨c0, c1, c2, c3, c4, f1, f0⟩ := hIc.cells
        generalize r1.tail = r2 at *
        cases h2 : Pr.term en r2 with
        | inl a =>
          have hX' : Pr.reckon at_ en r = .inl a := by rw [hX0.out, h2]
          have hX : Hid _ := hX'
          clear hX'
          have HN : Hid (∀ w1, At w1 P L en r2 → _) := fun w1 h => term_no P L en r2 w1 h a h2
          go_region_dies
          all_goals (refine Calls.mono (HN.out _ (At.keep hIc.went.2 (fun _ _ => rfl))) ?_)
          all_goals rintro e y2 ⟨rfl, hg2⟩
          all_goals exact ⟨rfl, HQ.out _ hX.out _ _ ⟨rfl, gone hIc.went.1 hg2 ⟨rfl, rfl, rfl, Nat.le_refl _, fun _ _ => rfl⟩⟩⟩
        | inr x2 =>
          obtain ⟨t2, r3⟩ := x2
          have hX1' : Pr.reckon at_ en r = if Tr.between o 5 7 then Pr.calcLit at_ o t1 t2 en r3 else .inr (⟨3, at_, o, [], [t1, t2]⟩, r3) := by rw [hX0.out, h2]
          have hX1 : Hid _ := hX1'
          clear hX1'
          have HT2 : Hid (∀ w1, At w1 P L en r2 → _) := fun w1 h => term_yes P L en r2 w1 h t2 r3 h2
          go_cut [] (fun wx => ∃ v, RInv w wx P L en r3 3 at_ o v [t1, t2])
          case first =>
            go_region_law (first
              | (go_simp; go_at_call 91; refine Calls.mono (HT2.out _ (At.keep hIc.went.2 (fun _ _ => rfl))) ?_; rintro e y2 ⟨rfl, hW2⟩; have hI2 := RInv.on2 hIc hW2 ⟨rfl, rfl, rfl, Nat.le_refl _, fun _ _ => rfl⟩; obtain ⟨d0, d1, d2, d3, d4, g1, g0⟩ := hI2.cells; have hsz := hI2.sz; have hsz1 : w.heap.size + 1 < y2.heap.size := hsz; dsimp only)
              | (refine step_append_lies _ rfl (.tmp 19) (.tmp 22) 43 rfl (w.heap.size + 2) 57 i0 _ 2 24 Tryz.underlying43 hi hz0 hz1 hz2 rfl (by decide) (.slice aoa 1 capa) 1 _ ?hs (RInv.below hI2 ((Below.refl _ _).alloc (Nat.le_refl _) _)).own ⟨y2.heap.size, 0, none⟩ 1 1 (termCells t2) ?hx rfl ?hn ?ho ?hm ?h6 ?hb ?hB _ rfl ?_
                 case hs => simp [Act.eval]
                 case hx => simp [Act.eval]
                 case hn => exact news_term _ _
                 case ho => exact one_term _
                 case hm => decide
                 case h6 => decide
                 case hb => decide
                 case hB => (simp; omega)
                 intro g cap y3 hown hgrow hat hlt
                 have hI3 := RInv.put (t := t2) (RInv.below hI2 ((Below.refl _ _).alloc (Nat.le_refl _) _)) hgrow hown
                 obtain ⟨_, _, e4, ef⟩ := RInv.app (RInv.below hI2 ((Below.refl _ _).alloc (Nat.le_refl _) _)) hgrow))
            all_goals (go_wp2_with fail; go_meet)
            all_goals exact ⟨_, hI3⟩
          case rest =>
            obtain ⟨vd, hId⟩ := hcut
            obtain ⟨aod, capd, rfl⟩ := own_slice hId.own
            clear c0 c1 c2 c3 c4 f1 f0 hIc
            obtain ⟨c0, c1, c2, c3, c4, f1, f0⟩ := hId.cells
            clear HT1 HO HT2 hX0
            go_wp2_with fail
            refine (isCalc_any o _).mono ?_
            rintro e w5 ⟨rfl, rfl⟩
            cases hb : Tr.between o 5 7
            · have hX : Pr.reckon at_ en r = .inr (⟨3, at_, o, [], [t1, t2]⟩, r3) := by rw [hX1.out, hb]; rfl
              have HF : Hid (∀ e w', _ → Q e w') := fun e w' h => HQ.out _ hX e w' h
              clear hX hX1 HQ
              obtain ⟨x0, x1, x2, x3, x4⟩ := hId.rcells
              go_wp2
              exact bodyPost_ret (v := litVal ⟨3, at_, o, [], [t1, t2]⟩ (.slice aod 2 capd)) (by simp [results, Tryz.results92, go_sem, x0, x1, x2, x3, x4]) rfl (HF.out _ _ ⟨_, rfl, hId.out _ _ _ _ _⟩)
            · have hIe := hId.setKind 4
              go_wp2_with fail
              cases hm : Pr.isText en r3 [61]
              · have hX' : Pr.reckon at_ en r = .inl (Pr.hd en r3).at_ := by
                  have : Pr.must [61] en r3 = .inl (Pr.hd en r3).at_ := by unfold Pr.must; unfold Pr.isText at hm; rw [hm]; rfl
                  rw [hX1.out, hb]
                  simp only [if_true, Pr.calcLit, this]
                have HF : Hid (∀ e w', _ → Q e w') := fun e w' h => HQ.out _ hX' e w' h
                clear hX' hX1 HQ
                refine (must_no [61] P L en r3 _ hIe.went.2 hm).mono ?_
                rintro e y2 ⟨rfl, hb2⟩
                exact ⟨rfl, HF.out _ _ ⟨rfl, ground hIe.went.1 hb2⟩⟩
              · have hX2' : Pr.reckon at_ en r = match Pr.term en r3.tail with
                    | .inl p => .inl p
                    | .inr z => .inr (⟨4, at_, o, [], [t1, t2, z.1]⟩, z.2) := by
                  have : Pr.must [61] en r3 = .inr r3.tail := by unfold Pr.must; unfold Pr.isText at hm; rw [hm]; rfl
                  rw [hX1.out, hb]
                  simp only [if_true, Pr.calcLit, this]
                  cases Pr.term en r3.tail <;> rfl
                have hX2 : Hid _ := hX2'
                clear hX2'
                refine (must_yes [61] P L en r3 _ hIe.went.2 (by simp) hm).mono ?_
                rintro e w6 ⟨rfl, hW6⟩
                have hIf := hIe.on hW6
                clear c0 c1 c2 c3 c4 f1 f0 hId hIe hW6 hX1
                generalize r3.tail = r4 at *
                obtain ⟨c0, c1, c2, c3, c4, f1, f0⟩ := hIf.cells
                go_upto_region 8 with fail
                cases h3 : Pr.term en r4 with
                | inl a =>
                  have hX' : Pr.reckon at_ en r = .inl a := by rw [hX2.out, h3]
                  have hX : Hid _ := hX'
                  clear hX'
                  have HN : Hid (∀ w1, At w1 P L en r4 → _) := fun w1 h => term_no P L en r4 w1 h a h3
                  go_region_dies
                  all_goals (refine Calls.mono (HN.out _ (At.keep hIf.went.2 (fun _ _ => rfl))) ?_)
                  all_goals rintro e y2 ⟨rfl, hg2⟩
                  all_goals exact ⟨rfl, HQ.out _ hX.out _ _ ⟨rfl, gone hIf.went.1 hg2 ⟨rfl, rfl, rfl, Nat.le_refl _, fun _ _ => rfl⟩⟩⟩
                | inr x3 =>
                  obtain ⟨t3, r5⟩ := x3
                  have hX' : Pr.reckon at_ en r = .inr (⟨4, at_, o, [], [t1, t2, t3]⟩, r5) := by rw [hX2.out, h3]
                  have HF : Hid (∀ e w', _ → Q e w') := fun e w' h => HQ.out _ hX' e w' h
                  clear hX' hX2 HQ
                  have HT3 : Hid (∀ w1, At w1 P L en r4 → _) := fun w1 h => term_yes P L en r4 w1 h t3 r5 h3
                  go_cut [] (fun wx => ∃ v, RInv w wx P L en r5 4 at_ o v [t1, t2, t3])
                  case first =>
                    go_region_law (first
                      | (go_simp; go_at_call 91; refine Calls.mono (HT3.out _ (At.keep hIf.went.2 (fun _ _ => rfl))) ?_; rintro e y2 ⟨rfl, hW2⟩; have hI2 := RInv.on2 hIf hW2 ⟨rfl, rfl, rfl, Nat.le_refl _, fun _ _ => rfl⟩; obtain ⟨d0, d1, d2, d3, d4, g1, g0⟩ := hI2.cells; have hsz := hI2.sz; have hsz1 : w.heap.size + 1 < y2.heap.size := hsz; dsimp only)
                      | (refine step_append_lies _ rfl (.tmp 32) (.tmp 35) 43 rfl (w.heap.size + 2) 57 i0 _ 2 24 Tryz.underlying43 hi hz0 hz1 hz2 rfl (by decide) (.slice aod 2 capd) 2 _ ?hs (RInv.below hI2 ((Below.refl _ _).alloc (Nat.le_refl _) _)).own ⟨y2.heap.size, 0, none⟩ 1 1 (termCells t3) ?hx rfl ?hn ?ho ?hm ?h6 ?hb ?hB _ rfl ?_
                         case hs => simp [Act.eval]
                         case hx => simp [Act.eval]
                         case hn => exact news_term _ _
                         case ho => exact one_term _
                         case hm => decide
                         case h6 => decide
                         case hb => decide
                         case hB => (simp; omega)
                         intro g cap y3 hown hgrow hat hlt
                         have hI3 := RInv.put (t := t3) (RInv.below hI2 ((Below.refl _ _).alloc (Nat.le_refl _) _)) hgrow hown
                         obtain ⟨_, _, e4, ef⟩ := RInv.app (RInv.below hI2 ((Below.refl _ _).alloc (Nat.le_refl _) _)) hgrow))
                    all_goals (go_wp2_with fail; go_meet)
                    all_goals exact ⟨_, hI3⟩
                  case rest =>
                    obtain ⟨vg, hIg⟩ := hcut
                    obtain ⟨aog, capg, rfl⟩ := own_slice hIg.own
                    clear c0 c1 c2 c3 c4 f1 f0 hIf
                    obtain ⟨c0, c1, c2, c3, c4, f1, f0⟩ := hIg.cells
                    obtain ⟨x0, x1, x2, x3, x4⟩ := hIg.rcells
                    go_wp2
                    exact bodyPost_ret (v := litVal ⟨4, at_, o, [], [t1, t2, t3]⟩ (.slice aog 3 capg)) (by simp [results, Tryz.results92, go_sem, x0, x1, x2, x3, x4]) rfl (HF.out _ _ ⟨_, rfl, hIg.out _ _ _ _ _⟩)

end Go.Proofs.YtclbbiocagkmcaaGreatDoor

/- The parser's literals. -/
namespace Go.Proofs.YtclbbiocagkmcaaGreatDoor
open Go.RowKit

/-- A literal with a name under way: its block is B. -/
structure LInv (w wr : World) (B P : Nat) (L : List Tk.Tok) (en : Int) (r : List Tk.Tok) (k at_ : Int) (nm : List UInt8) : Prop where
  went : Went w wr P L en r
  res : wr.heap[w.heap.size]? = some litZero
  lit : wr.heap[B]? = some (.cells #[.int .i64 k, .int .i64 at_, .int .i64 0, .string ⟨nm.toArray⟩, .slice none 0 0] 50)
  lt : P < w.heap.size
  ltB : w.heap.size < B
theorem LInv.start {w w1 : World} {P : Nat} {L : List Tk.Tok} {en : Int} {r : List Tk.Tok} (hA : At w P L en r) (hb : Below (w.alloc litZero).heap.size (w.alloc litZero) w1) (at_ : Int) :
    LInv w (w1.alloc (.cells #[.int .i64 0, .int .i64 at_, .int .i64 0, .string ⟨#[]⟩, .slice none 0 0] 50)) w1.heap.size P L en r 0 at_ [] where
  went := (Went.behind ((Below.refl _ _).alloc (Nat.le_refl _) _) ⟨grownBy_of_below hb _, (hA.below ((Below.refl _ _).alloc (Nat.le_refl _) _)).below hb⟩).alloc _
  res := by
    have h1 : w1.heap[w.heap.size]? = some litZero := (hb.block _ (by simp)).trans (heap_alloc_new w _)
    exact (((Below.refl _ _).alloc (Nat.le_refl _) _).block _ (heap_lt h1)).trans h1
  lit := heap_alloc_new w1 _
  lt := hA.lt
  ltB := by have := hb.size; simp at this; omega
theorem LInv.on {w wr w' : World} {B P : Nat} {L : List Tk.Tok} {en : Int} {r r' : List Tk.Tok} {k at_ : Int} {nm : List UInt8} (h : LInv w wr B P L en r k at_ nm) (hW : Went wr w' P L en r') : LInv w w' B P L en r' k at_ nm where
  went := Went.trans h.went hW
  res := (hW.1.block _ (heap_lt h.res) (by have := h.lt; intro e; injection e; omega)).trans h.res
  lit := (hW.1.block _ (heap_lt h.lit) (by have := h.lt; have := h.ltB; intro e; injection e; omega)).trans h.lit
  lt := h.lt
  ltB := h.ltB
theorem LInv.below {w wr w' : World} {B P : Nat} {L : List Tk.Tok} {en : Int} {r : List Tk.Tok} {k at_ : Int} {nm : List UInt8} (h : LInv w wr B P L en r k at_ nm) (hb : Below wr.heap.size wr w') : LInv w w' B P L en r k at_ nm :=
  h.on ⟨grownBy_of_below hb _, h.went.2.below hb⟩
theorem LInv.cells {w wr : World} {B P : Nat} {L : List Tk.Tok} {en : Int} {r : List Tk.Tok} {k at_ : Int} {nm : List UInt8} (h : LInv w wr B P L en r k at_ nm) :
    wr.cell? ⟨B, 0, none⟩ = some (.int .i64 k) ∧ wr.cell? ⟨B, 1, none⟩ = some (.int .i64 at_) ∧ wr.cell? ⟨B, 2, none⟩ = some (.int .i64 0) ∧ wr.cell? ⟨B, 3, none⟩ = some (.string ⟨nm.toArray⟩) ∧
      wr.cell? ⟨B, 4, none⟩ = some (.slice none 0 0) ∧ (∀ o, wr.frozen? ⟨B, o, none⟩ = false) ∧ (∀ o, wr.frozen? ⟨w.heap.size, o, none⟩ = false) :=
  ⟨by rw [Lib.cell_of_heap h.lit]; rfl, by rw [Lib.cell_of_heap h.lit]; rfl, by rw [Lib.cell_of_heap h.lit]; rfl, by rw [Lib.cell_of_heap h.lit]; rfl, by rw [Lib.cell_of_heap h.lit]; rfl, fun o => by simp [World.frozen?, h.lit], fun o => by simp [World.frozen?, h.res]⟩
theorem LInv.rcells {w wr : World} {B P : Nat} {L : List Tk.Tok} {en : Int} {r : List Tk.Tok} {k at_ : Int} {nm : List UInt8} (h : LInv w wr B P L en r k at_ nm) :
    wr.cell? ⟨w.heap.size, 0, none⟩ = some (.int .i64 0) ∧ wr.cell? ⟨w.heap.size, 1, none⟩ = some (.int .i64 0) ∧ wr.cell? ⟨w.heap.size, 2, none⟩ = some (.int .i64 0) ∧ wr.cell? ⟨w.heap.size, 3, none⟩ = some (.string ⟨#[]⟩) ∧
      wr.cell? ⟨w.heap.size, 4, none⟩ = some (.slice none 0 0) :=
  ⟨by rw [Lib.cell_of_heap h.res]; rfl, by rw [Lib.cell_of_heap h.res]; rfl, by rw [Lib.cell_of_heap h.res]; rfl, by rw [Lib.cell_of_heap h.res]; rfl, by rw [Lib.cell_of_heap h.res]; rfl⟩
theorem LInv.setKind {w wr : World} {B P : Nat} {L : List Tk.Tok} {en : Int} {r : List Tk.Tok} {k at_ : Int} {nm : List UInt8} (h : LInv w wr B P L en r k at_ nm) (o : Int) : LInv w (wr.setCell ⟨B, 0, none⟩ (.int .i64 o)) B P L en r o at_ nm where
  went := h.went.set h.lt (Nat.le_of_lt h.ltB) _ _
  res := (Below.heap_setCell _ _ _ _ (show ¬ w.heap.size = B by have := h.ltB; omega)).trans h.res
  lit := by
    have := h.lit
    simp [World.setCell, Array.getElem?_modify, this]
  lt := h.lt
  ltB := h.ltB
theorem LInv.setName {w wr : World} {B P : Nat} {L : List Tk.Tok} {en : Int} {r : List Tk.Tok} {k at_ : Int} {nm : List UInt8} (h : LInv w wr B P L en r k at_ nm) (s : List UInt8) : LInv w (wr.setCell ⟨B, 3, none⟩ (.string ⟨s.toArray⟩)) B P L en r k at_ s where
  went := h.went.set h.lt (Nat.le_of_lt h.ltB) _ _
  res := (Below.heap_setCell _ _ _ _ (show ¬ w.heap.size = B by have := h.ltB; omega)).trans h.res
  lit := by
    have := h.lit
    simp [World.setCell, Array.getElem?_modify, this]
  lt := h.lt
  ltB := h.ltB
theorem Went.put5 {w wr : World} {P : Nat} {L : List Tk.Tok} {en : Int} {r : List Tk.Tok} (h : Went w wr P L en r) (hlt : P < w.heap.size) (a b c d e : Value) :
    Went w (((((wr.setCell ⟨w.heap.size, 0, none⟩ a).setCell ⟨w.heap.size, 1, none⟩ b).setCell ⟨w.heap.size, 2, none⟩ c).setCell ⟨w.heap.size, 3, none⟩ d).setCell ⟨w.heap.size, 4, none⟩ e) P L en r :=
  ((((h.set hlt (Nat.le_refl _) _ _).set hlt (Nat.le_refl _) _ _).set hlt (Nat.le_refl _) _ _).set hlt (Nat.le_refl _) _ _).set hlt (Nat.le_refl _) _ _
theorem keeps5 {w wr : World} {B' : Nat} (hB : w.heap.size < B') (E : TypeId → Prop) (a b c d e : Value) :
    Keeps B' wr (((((wr.setCell ⟨w.heap.size, 0, none⟩ a).setCell ⟨w.heap.size, 1, none⟩ b).setCell ⟨w.heap.size, 2, none⟩ c).setCell ⟨w.heap.size, 3, none⟩ d).setCell ⟨w.heap.size, 4, none⟩ e) E :=
  ((((keeps_set E hB _ _).trans (keeps_set E hB _ _)).trans (keeps_set E hB _ _)).trans (keeps_set E hB _ _)).trans (keeps_set E hB _ _)

set_option maxRecDepth 100000 in
set_option maxHeartbeats 4000000 in
theorem lit_reck (P : Nat) (L : List Tk.Tok) (en : Int) (r : List Tk.Tok) (w : World) (hA : At w P L en r) (h1 : Pr.isText en r [110, 111, 116] = false) (h2 : ((Pr.hd en r).kind == 1) = false) :
    Calls Tryz.prog 71 #[.pointer (some ⟨P, 0, none⟩)] w (LitEnd P L en w (Pr.lit en r)) := by
  have hX : Pr.lit en r = Pr.reckon (Pr.hd en r).at_ en r := by simp [Pr.lit, h1, h2]
  rw [hX]
  have hpk : Hid _ := peekAt P L en r w hA
  have HR : Hid (∀ at_ w1, At w1 P L en r → Calls Tryz.prog 92 #[.pointer (some ⟨P, 0, none⟩), .int .i64 at_] w1 (LitEnd P L en w1 (Pr.reckon at_ en r))) := fun at_ w1 h => reckon_any at_ P L en r w1 h
  generalize Pr.hd en r = x at *
  generalize hY : Pr.reckon x.at_ en r = Y
  go_enter Tryz.func71, Tryz.ntmps71
  go_wp2_with fail
  refine Calls.mono (hpk.out _ ((Below.refl _ _).alloc (Nat.le_refl _) _)) ?_
  rintro e w1 ⟨rfl, hb0⟩
  have hI := LInv.start hA hb0 x.at_
  go_wp2_with fail
  simp only [fld1]
  go_wp2_with fail
  refine (take_no [110, 111, 116] P L en r _ hI.went.2 h1).mono ?_
  rintro e w2 ⟨rfl, hb2⟩
  have hI2 := hI.below hb2
  have hlt2 := hI2.ltB
  obtain ⟨c0, c1, c2, c3, c4, f1, f0⟩ := hI2.cells
  go_wp2_with fail
  have hbw : Below w.heap.size w w2 := ((((Below.refl _ _).alloc (Nat.le_refl _) _).trans (hb0.mono (by simp))).alloc (by have := hb0.size; simp at this; omega) _).trans (hb2.mono (by have := hb0.size; simp at this; simp; omega))
  refine Calls.mono (hpk.out _ hbw) ?_
  rintro e w3 ⟨rfl, hb3⟩
  have hI3 := hI2.below hb3
  obtain ⟨c0, c1, c2, c3, c4, f1, f0⟩ := hI3.cells
  clear hpk hI hI2
  go_wp2_with fail
  simp only [fld0]
  go_wp2_with fail
  refine Calls.mono (HR.out _ _ hI3.went.2) ?_
  rw [hY]
  have hlt := hI3.lt
  cases Y with
  | inl a =>
    rintro e w4 ⟨rfl, hg4⟩
    exact ⟨rfl, rfl, grownBy_trans hI3.went.1 hg4⟩
  | inr y =>
    rintro e w4 ⟨v, rfl, hT, hW4⟩
    have hI4 := hI3.on hW4
    have hsz : w.heap.size < w3.heap.size := heap_lt hI3.res
    obtain ⟨x0, x1, x2, x3, x4⟩ := hI4.rcells
    obtain ⟨c0, c1, c2, c3, c4, f1, f0⟩ := hI4.cells
    obtain ⟨ao, cap, hv, hT'⟩ := hT
    have hT := (show TermsP w3.heap.size w4 v y.1.terms from ⟨ao, cap, hv, hT'⟩)
    subst hv
    go_wp2
    exact bodyPost_ret (v := litVal y.1 _) (by simp [results, Tryz.results71, go_sem, x0, x1, x2, x3, x4]) rfl ⟨_, rfl, (hT.keep (keeps5 hsz _ _ _ _ _ _)).mono (Nat.le_of_lt hsz), hI4.went.put5 hlt _ _ _ _ _⟩

end Go.Proofs.YtclbbiocagkmcaaGreatDoor

/- The parser's literals with a name. -/
namespace Go.Proofs.YtclbbiocagkmcaaGreatDoor
open Go.RowKit

set_option maxRecDepth 100000 in
set_option maxHeartbeats 4000000 in
theorem lit_not (P : Nat) (L : List Tk.Tok) (en : Int) (r : List Tk.Tok) (w : World) (hA : At w P L en r) (h1 : Pr.isText en r [110, 111, 116] = true) :
    Calls Tryz.prog 71 #[.pointer (some ⟨P, 0, none⟩)] w (LitEnd P L en w (Pr.lit en r)) := by
  have hX : Pr.lit en r = Pr.atom 2 (Pr.hd en r).at_ en r.tail := by simp [Pr.lit, h1]
  have HQ : Hid (∀ X, Pr.atom 2 (Pr.hd en r).at_ en r.tail = X → ∀ e w', LitEnd P L en w X e w' → LitEnd P L en w (Pr.lit en r) e w') := by rintro X rfl e w' h; rw [hX]; exact h
  generalize LitEnd P L en w (Pr.lit en r) = Q at HQ ⊢
  clear hX
  have hpk : Hid _ := peekAt P L en r w hA
  have HM : Hid (∀ w1, At w1 P L en r → _) := fun w1 h => take_yes [110, 111, 116] P L en r w1 h (by simp) h1
  generalize Pr.hd en r = x at *
  generalize r.tail = r0 at *
  go_enter Tryz.func71, Tryz.ntmps71
  go_wp2_with fail
  refine Calls.mono (hpk.out _ ((Below.refl _ _).alloc (Nat.le_refl _) _)) ?_
  rintro e w1 ⟨rfl, hb0⟩
  have hI := LInv.start hA hb0 x.at_
  go_wp2_with fail
  simp only [fld1]
  go_wp2_with fail
  refine Calls.mono (HM.out _ hI.went.2) ?_
  rintro e w2 ⟨rfl, hW2⟩
  have hI2 := hI.on hW2
  obtain ⟨c0, c1, c2, c3, c4, f1, f0⟩ := hI2.cells
  have hI3 := hI2.setKind 2
  clear hI hpk HM hb0 hA h1
  cases hn : (((Pr.hd en r0).kind == 1) && !Tr.isWord (Pr.hd en r0).text)
  · have hN : Pr.name en r0 = .inl (Pr.hd en r0).at_ := by unfold Pr.name; rw [hn]; rfl
    have HF : Hid (∀ e w', LitEnd P L en w (.inl (Pr.hd en r0).at_) e w' → Q e w') := fun e w' h => HQ.out _ (by simp only [Pr.atom, hN]) e w' h
    go_wp2_with fail
    refine (name_no P L en r0 _ hI3.went.2 hn).mono ?_
    rintro e w5 ⟨rfl, hb5⟩
    exact ⟨rfl, HF.out _ _ ⟨rfl, ground hI3.went.1 hb5⟩⟩
  · have hN : Pr.name en r0 = .inr ((Pr.hd en r0).text, r0.tail) := by unfold Pr.name; rw [hn]; rfl
    have HN : Hid (∀ w1, At w1 P L en r0 → _) := fun w1 h => name_yes P L en r0 w1 h hn
    have HA : Hid (∀ X, (match Pr.terms false en r0.tail with
        | .inl a => Sum.inl a
        | .inr y => .inr ((⟨2, x.at_, 0, (Pr.hd en r0).text, y.1.1⟩ : Tr.Lit), y.2)) = X → ∀ e w', LitEnd P L en w X e w' → Q e w') := by
      intro X hX e w' h
      refine HQ.out X ?_ e w' h
      rw [← hX]
      simp only [Pr.atom, hN]
      cases Pr.terms false en r0.tail <;> rfl
    have HT : Hid (∀ w1, At w1 P L en r0.tail → _) := fun w1 h => terms_any false P L en r0.tail w1 h
    unfold TermsEnd at HT
    generalize (Pr.hd en r0).text = nm at *
    clear hN hn HQ
    go_wp2_with fail
    refine Calls.mono (HN.out _ hI3.went.2) ?_
    rintro e w5 ⟨rfl, hW5⟩
    have hI5 := hI3.on hW5
    have hI6 := hI5.setName nm
    obtain ⟨c0, c1, c2, c3, c4, f1, f0⟩ := hI5.cells
    go_wp2_with fail
    refine Calls.mono (HT.out _ hI6.went.2) ?_
    have hlt := hI6.lt
    have hltB := hI6.ltB
    have hltB' : w1.heap.size < (w5.setCell ⟨w1.heap.size, 3, none⟩ (.string ⟨nm.toArray⟩)).heap.size := heap_lt hI6.lit
    generalize w5.setCell ⟨w1.heap.size, 3, none⟩ (.string ⟨nm.toArray⟩) = w6 at *
    clear c0 c1 c2 c3 c4 f1 f0 hI5 hW5 HN HT
    cases hY : Pr.terms false en r0.tail with
    | inl a =>
      have HF : Hid (∀ e w', LitEnd P L en w (.inl a) e w' → Q e w') := fun e w' h => HA.out _ (by rw [hY]) e w' h
      rintro e w7 ⟨rfl, hg7⟩
      exact ⟨rfl, HF.out _ _ ⟨rfl, grownBy_trans hI6.went.1 hg7⟩⟩
    | inr y =>
      have HF : Hid (∀ e w', LitEnd P L en w (.inr (⟨2, x.at_, 0, nm, y.1.1⟩, y.2)) e w' → Q e w') := fun e w' h => HA.out _ (by rw [hY]) e w' h
      clear HA
      rintro e w7 ⟨v, rfl, hT, hW7⟩
      have hI7 := hI6.on hW7
      obtain ⟨x0, x1, x2, x3, x4⟩ := hI7.rcells
      obtain ⟨c0, c1, c2, c3, c4, f1, f0⟩ := hI7.cells
      obtain ⟨ao, cap, hv, hT'⟩ := hT
      have hT := (show TermsP w6.heap.size w7 v y.1.1 from ⟨ao, cap, hv, hT'⟩)
      subst hv
      go_wp2
      exact bodyPost_ret (v := litVal ⟨2, x.at_, 0, nm, y.1.1⟩ _) (by simp [results, Tryz.results71, go_sem, x0, x1, x2, x3, x4]) rfl (HF.out _ _ ⟨_, rfl, (((hT.keep (keeps_set _ hltB' _ _)).keep (keeps5 (Nat.lt_trans hltB hltB') _ _ _ _ _ _)).mono (Nat.le_of_lt (Nat.lt_trans hltB hltB'))), (hI7.went.set hlt (Nat.le_of_lt hltB) _ _).put5 hlt _ _ _ _ _⟩)

set_option maxRecDepth 100000 in
set_option maxHeartbeats 4000000 in
theorem lit_yes (P : Nat) (L : List Tk.Tok) (en : Int) (r : List Tk.Tok) (w : World) (hA : At w P L en r) (h1 : Pr.isText en r [110, 111, 116] = false) (h2 : ((Pr.hd en r).kind == 1) = true) :
    Calls Tryz.prog 71 #[.pointer (some ⟨P, 0, none⟩)] w (LitEnd P L en w (Pr.lit en r)) := by
  have hX : Pr.lit en r = Pr.atom 1 (Pr.hd en r).at_ en r := by simp [Pr.lit, h1, h2]
  have HQ : Hid (∀ X, Pr.atom 1 (Pr.hd en r).at_ en r = X → ∀ e w', LitEnd P L en w X e w' → LitEnd P L en w (Pr.lit en r) e w') := by rintro X rfl e w' h; rw [hX]; exact h
  generalize LitEnd P L en w (Pr.lit en r) = Q at HQ ⊢
  clear hX
  have hpk : Hid _ := peekAt P L en r w hA
  have HM : Hid (∀ w1, At w1 P L en r → _) := fun w1 h => take_no [110, 111, 116] P L en r w1 h h1
  generalize hx : Pr.hd en r = x at HQ hpk h2
  have HX : Hid (Pr.hd en r = x) := hx
  clear hx
  go_enter Tryz.func71, Tryz.ntmps71
  go_wp2_with fail
  refine Calls.mono (hpk.out _ ((Below.refl _ _).alloc (Nat.le_refl _) _)) ?_
  rintro e w1 ⟨rfl, hb0⟩
  have hI := LInv.start hA hb0 x.at_
  go_wp2_with fail
  simp only [fld1]
  go_wp2_with fail
  refine Calls.mono (HM.out _ hI.went.2) ?_
  rintro e w2 ⟨rfl, hb2⟩
  have hI2 := hI.below hb2
  go_wp2_with fail
  have hbw : Below w.heap.size w w2 := ((((Below.refl _ _).alloc (Nat.le_refl _) _).trans (hb0.mono (by simp))).alloc (by have := hb0.size; simp at this; omega) _).trans (hb2.mono (by have := hb0.size; simp at this; simp; omega))
  refine Calls.mono (hpk.out _ hbw) ?_
  rintro e w3 ⟨rfl, hb3⟩
  have hI3 := hI2.below hb3
  obtain ⟨c0, c1, c2, c3, c4, f1, f0⟩ := hI3.cells
  have hI4 := hI3.setKind 1
  clear hI hI2 hpk HM hb0 hA h1 hb2 hbw
  go_wp2_with fail
  simp only [fld0]
  cases hn : (((Pr.hd en r).kind == 1) && !Tr.isWord (Pr.hd en r).text)
  · have hN : Pr.name en r = .inl (Pr.hd en r).at_ := by unfold Pr.name; rw [hn]; rfl
    have HF : Hid (∀ e w', LitEnd P L en w (.inl (Pr.hd en r).at_) e w' → Q e w') := fun e w' h => HQ.out _ (by simp only [Pr.atom, hN]) e w' h
    go_wp2_with fail
    refine (name_no P L en r _ hI4.went.2 hn).mono ?_
    rintro e w5 ⟨rfl, hb5⟩
    exact ⟨rfl, HF.out _ _ ⟨rfl, ground hI4.went.1 hb5⟩⟩
  · have hN : Pr.name en r = .inr ((Pr.hd en r).text, r.tail) := by unfold Pr.name; rw [hn]; rfl
    have HN : Hid (∀ w1, At w1 P L en r → _) := fun w1 h => name_yes P L en r w1 h hn
    have HA : Hid (∀ X, (match Pr.terms false en r.tail with
        | .inl a => Sum.inl a
        | .inr y => .inr ((⟨1, x.at_, 0, (Pr.hd en r).text, y.1.1⟩ : Tr.Lit), y.2)) = X → ∀ e w', LitEnd P L en w X e w' → Q e w') := by
      intro X hX e w' h
      refine HQ.out X ?_ e w' h
      rw [← hX]
      simp only [Pr.atom, hN]
      cases Pr.terms false en r.tail <;> rfl
    have HT : Hid (∀ w1, At w1 P L en r.tail → _) := fun w1 h => terms_any false P L en r.tail w1 h
    unfold TermsEnd at HT
    generalize (Pr.hd en r).text = nm at *
    clear hN hn HQ
    go_wp2_with fail
    refine Calls.mono (HN.out _ hI4.went.2) ?_
    rintro e w5 ⟨rfl, hW5⟩
    have hI5 := hI4.on hW5
    have hI6 := hI5.setName nm
    obtain ⟨c0, c1, c2, c3, c4, f1, f0⟩ := hI5.cells
    go_wp2_with fail
    refine Calls.mono (HT.out _ hI6.went.2) ?_
    have hlt := hI6.lt
    have hltB := hI6.ltB
    have hltB' : w1.heap.size < (w5.setCell ⟨w1.heap.size, 3, none⟩ (.string ⟨nm.toArray⟩)).heap.size := heap_lt hI6.lit
    generalize w5.setCell ⟨w1.heap.size, 3, none⟩ (.string ⟨nm.toArray⟩) = w6 at *
    clear c0 c1 c2 c3 c4 f1 f0 hI5 hW5 HN HT
    cases hY : Pr.terms false en r.tail with
    | inl a =>
      have HF : Hid (∀ e w', LitEnd P L en w (.inl a) e w' → Q e w') := fun e w' h => HA.out _ (by rw [hY]) e w' h
      rintro e w7 ⟨rfl, hg7⟩
      exact ⟨rfl, HF.out _ _ ⟨rfl, grownBy_trans hI6.went.1 hg7⟩⟩
    | inr y =>
      have HF : Hid (∀ e w', LitEnd P L en w (.inr (⟨1, x.at_, 0, nm, y.1.1⟩, y.2)) e w' → Q e w') := fun e w' h => HA.out _ (by rw [hY]) e w' h
      clear HA
      rintro e w7 ⟨v, rfl, hT, hW7⟩
      have hI7 := hI6.on hW7
      obtain ⟨x0, x1, x2, x3, x4⟩ := hI7.rcells
      obtain ⟨c0, c1, c2, c3, c4, f1, f0⟩ := hI7.cells
      obtain ⟨ao, cap, hv, hT'⟩ := hT
      have hT := (show TermsP w6.heap.size w7 v y.1.1 from ⟨ao, cap, hv, hT'⟩)
      subst hv
      go_wp2
      exact bodyPost_ret (v := litVal ⟨1, x.at_, 0, nm, y.1.1⟩ _) (by simp [results, Tryz.results71, go_sem, x0, x1, x2, x3, x4]) rfl (HF.out _ _ ⟨_, rfl, (((hT.keep (keeps_set _ hltB' _ _)).keep (keeps5 (Nat.lt_trans hltB hltB') _ _ _ _ _ _)).mono (Nat.le_of_lt (Nat.lt_trans hltB hltB'))), (hI7.went.set hlt (Nat.le_of_lt hltB) _ _).put5 hlt _ _ _ _ _⟩)

theorem lit_any (P : Nat) (L : List Tk.Tok) (en : Int) (r : List Tk.Tok) (w : World) (hA : At w P L en r) :
    Calls Tryz.prog 71 #[.pointer (some ⟨P, 0, none⟩)] w (LitEnd P L en w (Pr.lit en r)) := by
  cases h1 : Pr.isText en r [110, 111, 116]
  · cases h2 : ((Pr.hd en r).kind == 1)
    · exact lit_reck P L en r w hA h1 h2
    · exact lit_yes P L en r w hA h1 h2
  · exact lit_not P L en r w hA h1

end Go.Proofs.YtclbbiocagkmcaaGreatDoor

/- What is parsed is shorter behind. -/
namespace Go.Proofs.YtclbbiocagkmcaaGreatDoor
open Go.RowKit

theorem name_len {en : Int} {r : List Tk.Tok} {x : List UInt8 × List Tk.Tok} (h : Pr.name en r = .inr x) : x.2.length < r.length := by
  unfold Pr.name at h
  cases hk : (((Pr.hd en r).kind == 1) && !Tr.isWord (Pr.hd en r).text)
  · rw [hk] at h; simp at h
  · rw [hk] at h
    simp only [if_true, Sum.inr.injEq] at h
    subst h
    exact kind_len (en := en) (k := 1) (by decide) (by revert hk; cases ((Pr.hd en r).kind == 1) <;> simp)
theorem op_len {en : Int} {r : List Tk.Tok} {x : Int × List Tk.Tok} (h : Pr.op en r = .inr x) : x.2.length < r.length := by
  unfold Pr.op at h
  cases r with
  | nil => simp [Pr.hd, Pr.opOf] at h
  | cons a r =>
    split at h
    · simp only [Sum.inr.injEq] at h; subst h; simp
    · simp at h
theorem more_len (may : Bool) (en : Int) : ∀ (f : Nat) (acc : List Tr.Term) (r : List Tk.Tok) (x : (List Tr.Term × Int) × List Tk.Tok), Pr.more may en f acc r = .inr x → x.2.length < r.length := by
  intro f
  induction f with
  | zero => intro acc r x h; simp [Pr.more] at h
  | succ f ih =>
    intro acc r x h
    cases hT : Pr.term en (Pr.foldMay may en r).2 with
    | inl a => simp [Pr.more, hT] at h
    | inr y =>
      have hl := Nat.lt_of_lt_of_le (term_len hT) (fold_len may en r)
      rw [more_step may en f acc r y.1 y.2 (by rw [hT])] at h
      split at h
      · have := ih _ _ _ h
        have h2 : y.2.tail.length ≤ y.2.length := by simp
        omega
      · simp only [Sum.inr.injEq] at h
        subst h
        exact hl
theorem terms_len {may : Bool} {en : Int} {r : List Tk.Tok} {x : (List Tr.Term × Int) × List Tk.Tok} (h : Pr.terms may en r = .inr x) : x.2.length < r.length := by
  unfold Pr.terms at h
  cases hm : Pr.must [40] en r with
  | inl a => rw [hm] at h; simp at h
  | inr r1 =>
    rw [hm] at h
    have h1 := must_len (by simp) hm
    simp only at h
    unfold Pr.inside at h
    split at h
    · simp only [Sum.inr.injEq] at h
      subst h
      have : r1.tail.length ≤ r1.length := by simp
      exact Nat.lt_of_le_of_lt this h1
    · cases hM : Pr.more may en (r1.length + 1) [] r1 with
      | inl a => rw [hM] at h; simp at h
      | inr y =>
        rw [hM] at h
        have h2 := more_len _ _ _ _ _ _ hM
        simp only at h
        cases hm2 : Pr.must [41] en y.2 with
        | inl a => rw [hm2] at h; simp at h
        | inr r3 =>
          rw [hm2] at h
          have h3 := must_len (by simp) hm2
          simp only [Sum.inr.injEq] at h
          subst h
          show r3.length < r.length
          omega
theorem atom_len {k at_ en : Int} {r : List Tk.Tok} {x : Tr.Lit × List Tk.Tok} (h : Pr.atom k at_ en r = .inr x) : x.2.length < r.length := by
  unfold Pr.atom at h
  cases hn : Pr.name en r with
  | inl a => rw [hn] at h; simp at h
  | inr y =>
    rw [hn] at h
    have h1 := name_len hn
    simp only at h
    cases ht : Pr.terms false en y.2 with
    | inl a => rw [ht] at h; simp at h
    | inr z =>
      rw [ht] at h
      have h2 := terms_len ht
      simp only [Sum.inr.injEq] at h
      subst h
      show z.2.length < r.length
      omega
theorem reckon_len {at_ en : Int} {r : List Tk.Tok} {x : Tr.Lit × List Tk.Tok} (h : Pr.reckon at_ en r = .inr x) : x.2.length < r.length := by
  unfold Pr.reckon at h
  cases h1 : Pr.term en r with
  | inl a => rw [h1] at h; simp at h
  | inr a =>
    rw [h1] at h
    have l1 := term_len h1
    simp only at h
    cases h2 : Pr.op en a.2 with
    | inl a => rw [h2] at h; simp at h
    | inr o =>
      rw [h2] at h
      have l2 := op_len h2
      simp only at h
      cases h3 : Pr.term en o.2 with
      | inl a => rw [h3] at h; simp at h
      | inr b =>
        rw [h3] at h
        have l3 := term_len h3
        simp only at h
        split at h
        · unfold Pr.calcLit at h
          cases h4 : Pr.must [61] en b.2 with
          | inl a => rw [h4] at h; simp at h
          | inr r4 =>
            rw [h4] at h
            have l4 := must_len (by simp) h4
            simp only at h
            cases h5 : Pr.term en r4 with
            | inl a => rw [h5] at h; simp at h
            | inr z =>
              rw [h5] at h
              have l5 := term_len h5
              simp only [Sum.inr.injEq] at h
              subst h
              show z.2.length < r.length
              omega
        · simp only [Sum.inr.injEq] at h
          subst h
          show b.2.length < r.length
          omega
theorem lit_len {en : Int} {r : List Tk.Tok} {x : Tr.Lit × List Tk.Tok} (h : Pr.lit en r = .inr x) : x.2.length < r.length := by
  unfold Pr.lit at h
  split at h
  · have := atom_len h
    have h2 : r.tail.length ≤ r.length := by simp
    omega
  · split at h
    · exact atom_len h
    · exact reckon_len h

/-- Behind a literal of a body. -/
def Pr.after (en : Int) (f : Nat) (acc : List Tr.Lit) (r : List Tk.Tok) : Int ⊕ (List Tr.Lit × List Tk.Tok) := if Pr.isText en r [44] then Pr.lits en f acc r.tail else .inr (acc, r)
theorem lits_yes {en : Int} {f : Nat} {acc : List Tr.Lit} {r : List Tk.Tok} {x : Tr.Lit × List Tk.Tok} (h : Pr.lit en r = .inr x) : Pr.lits en (f + 1) acc r = Pr.after en f (acc ++ [x.1]) x.2 := by
  rw [Pr.lits, h]; rfl
theorem lits_no {en : Int} {f : Nat} {acc : List Tr.Lit} {r : List Tk.Tok} {a : Int} (h : Pr.lit en r = .inl a) : Pr.lits en (f + 1) acc r = .inl a := by
  rw [Pr.lits, h]

/-- A rule under way: its block is B. -/
abbrev ruleZero : Obj := .cells #[.int .i64 0, .string ⟨#[]⟩, .slice none 0 0, .int .i64 0, .slice none 0 0] 46
structure UInv (w wr : World) (B P : Nat) (L : List Tk.Tok) (en : Int) (r : List Tk.Tok) (at_ : Int) (nm : List UInt8) (tv : Value) (ts : List Tr.Term) (fo : Int) (bv : Value) (q : List (Tr.Lit × Value)) : Prop where
  went : Went w wr P L en r
  res : wr.heap[w.heap.size]? = some ruleZero
  rul : wr.heap[B]? = some (.cells #[.int .i64 at_, .string ⟨nm.toArray⟩, tv, .int .i64 fo, bv] 46)
  trm : TermsP (B + 1) wr tv ts
  own : wr.ownsRow (B + 1) 50 5 bv q.length (q.map litCells).flatten
  lts : ∀ p, p ∈ q → TermsP (B + 1) wr p.2 p.1.terms
  lt : P < w.heap.size
  ltB : w.heap.size < B

section
variable {w wr w' : World} {B P : Nat} {L : List Tk.Tok} {en : Int} {r r' : List Tk.Tok} {at_ : Int} {nm : List UInt8} {tv : Value} {ts : List Tr.Term} {fo : Int} {bv : Value} {q : List (Tr.Lit × Value)}
theorem UInv.start {w1 : World} (hA : At w P L en r) (hb : Below (w.alloc ruleZero).heap.size (w.alloc ruleZero) w1) (at_ : Int) :
    UInv w (w1.alloc (.cells #[.int .i64 at_, .string ⟨#[]⟩, .slice none 0 0, .int .i64 0, .slice none 0 0] 46)) w1.heap.size P L en r at_ [] (.slice none 0 0) [] 0 (.slice none 0 0) [] where
  went := (Went.behind ((Below.refl _ _).alloc (Nat.le_refl _) _) ⟨grownBy_of_below hb _, (hA.below ((Below.refl _ _).alloc (Nat.le_refl _) _)).below hb⟩).alloc _
  res := by
    have h1 : w1.heap[w.heap.size]? = some ruleZero := (hb.block _ (by simp)).trans (heap_alloc_new w _)
    exact (((Below.refl _ _).alloc (Nat.le_refl _) _).block _ (heap_lt h1)).trans h1
  rul := heap_alloc_new w1 _
  trm := ⟨none, 0, rfl, .inl rfl⟩
  own := World.ownsRow_nil _ _ _ _
  lts := fun p hp => absurd hp (by simp)
  lt := hA.lt
  ltB := by have := hb.size; simp at this; omega
theorem UInv.on (h : UInv w wr B P L en r at_ nm tv ts fo bv q) (hW : Went wr w' P L en r') : UInv w w' B P L en r' at_ nm tv ts fo bv q := by
  have h1 := h.lt
  have h2 := h.ltB
  exact { went := Went.trans h.went hW
          res := (hW.1.block _ (heap_lt h.res) (by intro e; injection e; omega)).trans h.res
          rul := (hW.1.block _ (heap_lt h.rul) (by intro e; injection e; omega)).trans h.rul
          trm := h.trm.keep (keeps_grown _ hW.1 (by omega))
          own := ownsRow_grown h.own hW.1 (by omega)
          lts := fun p hp => (h.lts p hp).keep (keeps_grown _ hW.1 (by omega))
          lt := h1
          ltB := h2 }
theorem UInv.below (h : UInv w wr B P L en r at_ nm tv ts fo bv q) (hb : Below wr.heap.size wr w') : UInv w w' B P L en r at_ nm tv ts fo bv q := h.on ⟨grownBy_of_below hb _, h.went.2.below hb⟩
theorem UInv.on2 {wr' : World} (h : UInv w wr B P L en r at_ nm tv ts fo bv q) (hW : Went wr' w' P L en r') (hb : Below wr.heap.size wr wr') : UInv w w' B P L en r' at_ nm tv ts fo bv q := (h.below hb).on hW
theorem UInv.sz (h : UInv w wr B P L en r at_ nm tv ts fo bv q) : B < wr.heap.size := heap_lt h.rul
theorem UInv.cells (h : UInv w wr B P L en r at_ nm tv ts fo bv q) :
    wr.cell? ⟨B, 0, none⟩ = some (.int .i64 at_) ∧ wr.cell? ⟨B, 1, none⟩ = some (.string ⟨nm.toArray⟩) ∧ wr.cell? ⟨B, 2, none⟩ = some tv ∧ wr.cell? ⟨B, 3, none⟩ = some (.int .i64 fo) ∧
      wr.cell? ⟨B, 4, none⟩ = some bv ∧ (∀ o, wr.frozen? ⟨B, o, none⟩ = false) ∧ (∀ o, wr.frozen? ⟨w.heap.size, o, none⟩ = false) :=
  ⟨by rw [Lib.cell_of_heap h.rul]; rfl, by rw [Lib.cell_of_heap h.rul]; rfl, by rw [Lib.cell_of_heap h.rul]; rfl, by rw [Lib.cell_of_heap h.rul]; rfl, by rw [Lib.cell_of_heap h.rul]; rfl, fun o => by simp [World.frozen?, h.rul], fun o => by simp [World.frozen?, h.res]⟩
theorem UInv.rcells (h : UInv w wr B P L en r at_ nm tv ts fo bv q) :
    wr.cell? ⟨w.heap.size, 0, none⟩ = some (.int .i64 0) ∧ wr.cell? ⟨w.heap.size, 1, none⟩ = some (.string ⟨#[]⟩) ∧ wr.cell? ⟨w.heap.size, 2, none⟩ = some (.slice none 0 0) ∧ wr.cell? ⟨w.heap.size, 3, none⟩ = some (.int .i64 0) ∧
      wr.cell? ⟨w.heap.size, 4, none⟩ = some (.slice none 0 0) :=
  ⟨by rw [Lib.cell_of_heap h.res]; rfl, by rw [Lib.cell_of_heap h.res]; rfl, by rw [Lib.cell_of_heap h.res]; rfl, by rw [Lib.cell_of_heap h.res]; rfl, by rw [Lib.cell_of_heap h.res]; rfl⟩
theorem UInv.setName (h : UInv w wr B P L en r at_ nm tv ts fo bv q) (s : List UInt8) : UInv w (wr.setCell ⟨B, 1, none⟩ (.string ⟨s.toArray⟩)) B P L en r at_ s tv ts fo bv q where
  went := h.went.set h.lt (Nat.le_of_lt h.ltB) _ _
  res := (Below.heap_setCell _ _ _ _ (show ¬ w.heap.size = B by have := h.ltB; omega)).trans h.res
  rul := by
    have := h.rul
    simp [World.setCell, Array.getElem?_modify, this]
  trm := h.trm.keep (keeps_set _ (by omega) _ _)
  own := ownsRow_setCell_below h.own (by simp) _
  lts := fun p hp => (h.lts p hp).keep (keeps_set _ (by omega) _ _)
  lt := h.lt
  ltB := h.ltB
theorem UInv.setTerms (h : UInv w wr B P L en r at_ nm tv ts fo bv q) {v : Value} {l : List Tr.Term} (hT : TermsP (B + 1) wr v l) (f : Int) : UInv w ((wr.setCell ⟨B, 2, none⟩ v).setCell ⟨B, 3, none⟩ (.int .i64 f)) B P L en r at_ nm v l f bv q where
  went := (h.went.set h.lt (Nat.le_of_lt h.ltB) _ _).set h.lt (Nat.le_of_lt h.ltB) _ _
  res := (Below.heap_setCell _ _ _ _ (show ¬ w.heap.size = B by have := h.ltB; omega)).trans ((Below.heap_setCell _ _ _ _ (show ¬ w.heap.size = B by have := h.ltB; omega)).trans h.res)
  rul := by
    have := h.rul
    simp [World.setCell, Array.getElem?_modify, this]
  trm := (hT.keep (keeps_set _ (by omega) _ _)).keep (keeps_set _ (by omega) _ _)
  own := ownsRow_setCell_below (ownsRow_setCell_below h.own (by simp) _) (by simp) _
  lts := fun p hp => ((h.lts p hp).keep (keeps_set _ (by omega) _ _)).keep (keeps_set _ (by omega) _ _)
  lt := h.lt
  ltB := h.ltB
theorem UInv.app {w3 : World} (h : UInv w wr B P L en r at_ nm tv ts fo bv q) (hg : wr.grownBy w3 bv.ownBlock) :
    w3.heap[w.heap.size]? = some ruleZero ∧ w3.heap[B]? = some (.cells #[.int .i64 at_, .string ⟨nm.toArray⟩, tv, .int .i64 fo, bv] 46) ∧ w3.cell? ⟨B, 4, none⟩ = some bv ∧ w3.frozen? ⟨B, 4, none⟩ = false := by
  have hB := h.ltB
  have hne : ∀ i, i < B + 1 → some i ≠ bv.ownBlock := fun i hi he => by have := (h.own.lt i he.symm).1; omega
  have e1 := (hg.block _ (heap_lt h.res) (hne _ (by omega))).trans h.res
  have e2 := (hg.block _ (heap_lt h.rul) (hne _ (by omega))).trans h.rul
  exact ⟨e1, e2, by rw [Lib.cell_of_heap e2]; rfl, by simp [World.frozen?, e2]⟩
theorem UInv.put {w3 : World} {bv' : Value} {p : Tr.Lit × Value} (h : UInv w wr B P L en r at_ nm tv ts fo bv q) (hg : wr.grownBy w3 bv.ownBlock) (hT : TermsP (B + 1) wr p.2 p.1.terms)
    (hown : w3.ownsRow (B + 1) 50 5 bv' (q.length + 1) ((q.map litCells).flatten ++ litCells p)) : UInv w (w3.setCell ⟨B, 4, none⟩ bv') B P L en r at_ nm tv ts fo bv' (q ++ [p]) := by
  have hB := h.ltB
  have hk : Keeps (B + 1) wr w3 (· = 57) := keeps_own hg h.own (by decide)
  exact { went := (Went.own h.went hg h.own (by omega) h.lt).set h.lt (by omega) _ _
          res := (Below.heap_setCell _ _ _ _ (show ¬ w.heap.size = B by omega)).trans (h.app hg).1
          rul := by
            have := (h.app hg).2.1
            simp [World.setCell, Array.getElem?_modify, this]
          trm := (h.trm.keep hk).keep (keeps_set _ (by omega) _ _)
          own := ownsRow_setCell_below (by simpa using hown) (by simp) _
          lts := by
            intro p' hp'
            rw [List.mem_append, List.mem_singleton] at hp'
            rcases hp' with hp' | rfl
            · exact ((h.lts p' hp').keep hk).keep (keeps_set _ (by omega) _ _)
            · exact (hT.keep hk).keep (keeps_set _ (by omega) _ _)
          lt := h.lt
          ltB := hB }
end

end Go.Proofs.YtclbbiocagkmcaaGreatDoor

