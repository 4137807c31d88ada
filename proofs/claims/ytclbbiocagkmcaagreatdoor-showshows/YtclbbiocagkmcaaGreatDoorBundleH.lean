/- Own texts, one behind the other (part 8). -/
import Derived.Test.YtclbbiocagkmcaaGreatDoorBundleG
import Derived.Test.YtclbbiocagkmcaaGreatDoorRows
import Derived.Test.YtclbbiocagkmcaaGreatDoorCards
import Derived.Test.YtclbbiocagkmcaaGreatDoorTie
import Derived.ProofKit
import Derived.Deep.Slices
import Derived.Deep.Strs
import Derived.Lib.LaidTab
import Derived.LaidLaws
/- The document's texts: trees. -/
namespace Go.Proofs.YtclbbiocagkmcaaGreatDoor
open Go.RowKit

namespace Sh
def pre (j : Nat) : List UInt8 := if j = 0 then [32, 58, 45, 32] else [44, 32]
def bodyT (b : List Tr.Lit) : Nat → List UInt8
  | 0 => []
  | j + 1 => bodyT b j ++ pre j ++ lit (Tr.litD b j)
theorem bodyT_lits (b : List Tr.Lit) : ∀ j, bodyT b (j + 1) = [32, 58, 45, 32] ++ lits b (j + 1)
  | 0 => by simp [bodyT, lits, pre, sep]
  | j + 1 => by
    rw [bodyT, bodyT_lits b j, lits]
    simp [pre, sep, lits]
theorem bodyT_tail (b : List Tr.Lit) : bodyT b b.length = tail b := by
  unfold tail
  cases h : b.length with
  | zero => simp [bodyT]
  | succ j => rw [bodyT_lits, if_pos (by omega)]
theorem bodyT_bound {b : List Tr.Lit} (h : Tr.litsOk b = true) (hm : Tr.litsMany b = false) : ∀ n, n ≤ b.length → (bodyT b n).length ≤ n * 20204
  | 0, _ => Nat.zero_le _
  | n + 1, hn => by
    have := bodyT_bound h hm n (by omega)
    have ht := (litsD_ok h hm (i := n) (by omega)).2
    have hs : (pre n).length ≤ 4 := by unfold pre; split <;> simp
    rw [bodyT, List.length_append, List.length_append]
    omega
theorem check_all {l : List Tr.Rule} (h : Tr.check l = 0) : l.length ≤ 12 ∧ ∀ i, i < l.length → Tr.ruleOk (Tr.ruleD l i) = true ∧ Tr.ruleMany (Tr.ruleD l i) = false := by
  unfold Tr.check at h
  cases hm : Tr.many l
  · rw [hm] at h
    simp only [Bool.false_eq_true, if_false] at h
    have ha : l.all Tr.ruleOk = true := by
      cases hb : l.all Tr.ruleOk
      · rw [hb] at h; simp at h
      · rfl
    unfold Tr.many at hm
    simp only [Bool.or_eq_false_iff, decide_eq_false_iff_not] at hm
    refine ⟨by omega, fun i hi => ?_⟩
    have hmem : Tr.ruleD l i ∈ l := by unfold Tr.ruleD; rw [List.getD_eq_getElem?_getD, List.getElem?_eq_getElem hi]; exact List.getElem_mem hi
    refine ⟨List.all_eq_true.1 ha _ hmem, ?_⟩
    have := List.any_eq_false.1 hm.2 _ hmem
    simpa using this
  · rw [hm] at h; simp at h
/-- A rule that Check has passed. -/
structure Good (r : Tr.Rule) : Prop where
  nm : r.name.length ≤ 5000
  ts : Tr.termsOk r.terms = true
  n3 : r.terms.length ≤ 3
  f0 : 0 ≤ r.fold
  f4 : r.fold ≤ 4
  ls : Tr.litsOk r.body = true
  lm : Tr.litsMany r.body = false
  b4 : r.body.length ≤ 4
theorem good {r : Tr.Rule} (h : Tr.ruleOk r = true) (hm : Tr.ruleMany r = false) : Good r := by
  unfold Tr.ruleMany at hm
  simp only [Bool.or_eq_false_iff, decide_eq_false_iff_not] at hm
  unfold Tr.ruleOk at h
  simp only [Bool.and_eq_true] at h
  obtain ⟨⟨⟨hn, ht⟩, hf⟩, hb⟩ := h
  have hff : 0 ≤ r.fold ∧ r.fold ≤ 4 := by
    unfold Tr.foldOk Tr.between at hf
    simp only [Bool.or_eq_true, Bool.and_eq_true, beq_iff_eq, decide_eq_true_eq] at hf
    omega
  refine ⟨?_, ht, by omega, hff.1, hff.2, hb, hm.2, by omega⟩
  unfold Tr.isName at hn
  rw [Bool.and_eq_true] at hn
  exact tok_len hn.1
/-- A literal that Check has passed. -/
theorem lit_kinds {x : Tr.Lit} (h : Tr.litOk x = true) : Tr.termsOk x.terms = true ∧ ((x.kind = 1 ∧ x.name.length ≤ 5000) ∨ (x.kind = 2 ∧ x.name.length ≤ 5000) ∨ (x.kind = 3 ∧ x.terms.length = 2 ∧ 1 ≤ x.op ∧ x.op ≤ 7) ∨ (x.kind = 4 ∧ x.terms.length = 3 ∧ 1 ≤ x.op ∧ x.op ≤ 7)) := by
  unfold Tr.litOk at h
  rw [Bool.and_eq_true] at h
  obtain ⟨ht, hk⟩ := h
  refine ⟨ht, ?_⟩
  by_cases h12 : x.kind = 1 ∨ x.kind = 2
  · rw [if_pos h12, Bool.and_eq_true] at hk
    have hnm : x.name.length ≤ 5000 := by
      have := hk.2
      unfold Tr.isName at this
      rw [Bool.and_eq_true] at this
      exact tok_len this.1
    rcases h12 with h | h
    · exact .inl ⟨h, hnm⟩
    · exact .inr (.inl ⟨h, hnm⟩)
  · rw [if_neg h12] at hk
    by_cases h3 : x.kind = 3
    · rw [if_pos h3] at hk
      simp only [Bool.and_eq_true, beq_iff_eq, Tr.between, decide_eq_true_eq] at hk
      exact .inr (.inr (.inl ⟨h3, by omega, by omega, by omega⟩))
    · rw [if_neg h3] at hk
      by_cases h4 : x.kind = 4
      · rw [if_pos h4] at hk
        simp only [Bool.and_eq_true, beq_iff_eq, Tr.between, decide_eq_true_eq] at hk
        exact .inr (.inr (.inr ⟨h4, by omega, by omega, by omega⟩))
      · rw [if_neg h4] at hk
        cases hk
end Sh

theorem reck_str (B a s c : List UInt8) : Value.string ({ data := B.toArray } ++ ({ data := a.toArray } ++ { data := #[32] } ++ { data := s.toArray } ++ { data := #[32] } ++ { data := c.toArray })) = strV (B ++ (a ++ ([32] ++ s ++ [32]) ++ c)) := by
  congr 1
  apply ByteArray.ext
  simp
theorem third_str (B c : List UInt8) : Value.string ({ data := B.toArray } ++ ({ data := #[32, 61, 32] } ++ { data := c.toArray })) = strV (B ++ ([32, 61, 32] ++ c)) := by
  congr 1

/-- What holds behind every operation may be weakened. -/
theorem wpAnyH_weaken {P : Program} {md : Region.Mode} {ops : Array Oper} {Q : Exit → Act → World → Prop} {S S' : World → Prop} (hS : ∀ w, S' w → S w) :
    ∀ (fuel : Nat) (listed : Array Bool) (a : Act) (w : World), wpAnyH P md ops Q S' fuel listed a w → wpAnyH P md ops Q S fuel listed a w
  | 0, _, _, _, h => h
  | fuel + 1, _, _, _, h => ⟨h.1, fun i hi => wpOp_mono (fun a' w' h' => ⟨hS _ h'.1, wpAnyH_weaken hS fuel _ a' w' h'.2⟩) (h.2 i hi)⟩

theorem row_cell (y : World) (arr : Array Value) (ty m : Nat) (v : Value) (h : arr[m]? = some v) : (y.alloc (.cells arr ty)).cell? ⟨y.heap.size, m, none⟩ = some v := by
  have e := heap_alloc_new y (.cells arr ty)
  simp only [World.cell?, e]; exact h

set_option maxRecDepth 100000 in
set_option maxHeartbeats 8000000 in
theorem treeText_any (l : List Tr.Rule) (v : Value) (w : World) (hV : RulesV w v l) (hC : Tr.check l = 0) :
    Calls Tryz.prog 8 #[.agg #[v]] w fun e w' => e = .returned (strV (Sh.rules l l.length)) ∧ Below w.heap.size w w' := by
  obtain ⟨ao, ca, rfl, hV'⟩ := hV
  obtain ⟨h12, hall⟩ := Sh.check_all hC
  have hok := (Sh.check_ok hC).2
  have hbd := Sh.rules_bound (fun i hi => (hok i hi).2)
  have hb1 : Below w.heap.size w (w.alloc (.cells #[.slice ao l.length ca] 24)) := (Below.refl _ _).alloc (Nat.le_refl _) _
  have hX1 := heap_alloc_new w (.cells #[.slice ao l.length ca] 24)
  clear hC
  generalize hN : l.length = N at *
  go_enter Tryz.func8, Tryz.ntmps8
  go_wp2_with fail
  generalize w.alloc (.cells #[.slice ao N ca] 24) = w1 at *
  have HXB : Hid (∀ y, Below w1.heap.size w1 y → y.cell? ⟨w.heap.size, 0, none⟩ = some (.slice ao N ca)) := fun y hy => (tree_cell ((hy.block _ (heap_lt hX1)).trans hX1)).1
  clear hX1
  go_loopw [3, 4] (fun s i wr => ∃ n : Nat, n ≤ N ∧ i = .int .i64 n ∧ s = strV (Sh.rules l n) ∧ Below w1.heap.size w1 wr) (fun _ i _ => N - (intOf i).toNat)
  case atStart => exact ⟨0, Nat.zero_le _, rfl, rfl, Below.refl _ _⟩
  case round =>
    rename World => wo
    obtain ⟨n, hn, rfl, rfl, hbo⟩ := hrel
    have c0 := HXB.out _ hbo
    have hbn := hbd n hn
    by_cases hlt : n < N
    · have hdk : decide (n < N) = true := decide_eq_true hlt
      rcases hV' with h0 | ⟨b, off, rfl, hc⟩
      · rw [h0] at hN; simp at hN; omega
      obtain ⟨a0, a1, ⟨va, a2, hTa⟩, a3, ua, a4, hLa⟩ := hc n (by omega)
      have hbw0 := hb1.trans (hbo.mono hb1.size)
      replace a0 := cell_below hbw0 a0
      replace a1 := cell_below hbw0 a1
      replace a2 := cell_below hbw0 a2
      replace a3 := cell_below hbw0 a3
      replace a4 := cell_below hbw0 a4
      replace hTa := termsV_below hTa hbw0
      replace hLa := litsV_below hLa hbw0
      have hg := Sh.good (hall n hlt).1 (hall n hlt).2
      have hST : Sh.rules l (n + 1) = Sh.rules l n ++ Sh.rule (Tr.ruleD l n) := by rw [Sh.rules]
      have hRU : Sh.rule (Tr.ruleD l n) = Sh.atom (Tr.ruleD l n).name (Tr.ruleD l n).terms (Tr.ruleD l n).fold ++ Sh.bodyT (Tr.ruleD l n).body (Tr.ruleD l n).body.length ++ [46, 10] := by rw [Sh.bodyT_tail]; rfl
      have HST : Hid (Sh.rules l (n + 1) = Sh.rules l n ++ Sh.atom (Tr.ruleD l n).name (Tr.ruleD l n).terms (Tr.ruleD l n).fold ++ Sh.bodyT (Tr.ruleD l n).body (Tr.ruleD l n).body.length ++ [46, 10]) := by
        show _ = _
        rw [hST, hRU]
        simp only [List.append_assoc]
      have HN : Hid (l.length = N) := hN
      clear hc hall hok hbd hST hRU hN
      generalize Tr.ruleD l n = r at *
      generalize Sh.rules l n = A0 at *
      obtain ⟨aot, cat, rfl, hTa'⟩ := hTa
      have hTa : TermsV wo (.slice aot r.terms.length cat) r.terms := ⟨aot, cat, rfl, hTa'⟩
      obtain ⟨aol, cal, rfl, hLa'⟩ := hLa
      clear hTa'
      have hb2 : Below wo.heap.size wo (wo.alloc (rulObj r (.slice aot r.terms.length cat) (.slice aol r.body.length cal))) := (Below.refl _ _).alloc (Nat.le_refl _) _
      have hX2 := heap_alloc_new wo (rulObj r (.slice aot r.terms.length cat) (.slice aol r.body.length cal))
      go_upto_region 6 with fail
      generalize wo.alloc (rulObj r (.slice aot r.terms.length cat) (.slice aol r.body.length cal)) = w2 at *
      generalize hXR : wo.heap.size = XR at *
      obtain ⟨x0, x1, x2, x3, x4⟩ := rul_cells hX2
      have HAT := atomText_any r.name r.terms _ r.fold w2 (termsV_below hTa (by rw [hXR]; exact hb2)) hg.n3 hg.ts hg.f0 hg.f4 hg.nm
      have hal := Sh.atom_bound (f := r.fold) hg.nm hg.ts hg.n3
      have hs1 : ¬ 9223372036854775807 < A0.length + (Sh.atom r.name r.terms r.fold).length := by omega
      clear a0 a1 a2 a3 a4
      generalize Sh.atom r.name r.terms r.fold = AT at *
      go_wp2_with fail
      refine HAT.mono ?_
      rintro e w3 ⟨rfl, hb3⟩
      have hX3 := (hb3.block _ (heap_lt hX2)).trans hX2
      have hbo3 : Below wo.heap.size wo w3 := by rw [hXR]; exact hb2.trans (hb3.mono (by rw [← hXR] at hb2 ⊢; exact hb2.size))
      have hbw3 := hbo.trans (hbo3.mono hbo.size)
      have hLa3 : LitsAt w3 aol r.body := litsAt_below hLa' hbo3
      have HXR : Hid (∀ y, Below w3.heap.size w3 y → y.cell? ⟨XR, 4, none⟩ = some (.slice aol r.body.length cal)) := fun y hy => (rul_cells ((hy.block _ (heap_lt hX3)).trans hX3)).2.2.2.2
      have hbb := Sh.bodyT_bound hg.ls hg.lm
      have h4 := hg.b4
      have hAA : (A0 ++ AT).length ≤ 2000000 := by rw [List.length_append]; omega
      have HRL : Hid (∀ y, Below w3.heap.size w3 y → Below w1.heap.size w1 y) := fun y hy => hbw3.trans (hy.mono hbw3.size)
      have hLD := fun j (hj : j < r.body.length) => List.all_eq_true.1 hg.ls _ (show Tr.litD r.body j ∈ r.body by unfold Tr.litD; rw [List.getD_eq_getElem?_getD, List.getElem?_eq_getElem hj]; exact List.getElem_mem hj)
      have hLM := fun j (hj : j < r.body.length) => List.any_eq_false.1 hg.lm _ (show Tr.litD r.body j ∈ r.body by unfold Tr.litD; rw [List.getD_eq_getElem?_getD, List.getElem?_eq_getElem hj]; exact List.getElem_mem hj)
      clear x0 x1 x2 x3 x4 HAT hX2 hX3 hb2 hb3 hLa' hTa hal hbo3 hbw3 hXR hg hbw0 hbo c0 hbn
      go_upto_region 7 with fail
      rw [str_app]
      generalize A0 ++ AT = A at *
      generalize hM : r.body.length = M at *
      go_wp2_with fail
      go_loopw [3, 6] (fun s k wr => ∃ j : Nat, j ≤ M ∧ k = .int .i64 j ∧ s = strV (A ++ Sh.bodyT r.body j) ∧ Below w3.heap.size w3 wr) (fun _ k _ => M - (intOf k).toNat)
      case atStart => exact ⟨0, Nat.zero_le _, rfl, by rw [show Sh.bodyT r.body 0 = [] from rfl, List.append_nil], Below.refl _ _⟩
      case round =>
        obtain ⟨j, hj, rfl, rfl, hbr⟩ := hrel
        have c1 := HXR.out _ hbr
        have hbj := hbb j hj
        have hAj : (A ++ Sh.bodyT r.body j).length ≤ 2100000 := by rw [List.length_append]; omega
        by_cases hjl : j < M
        · have hdj : decide (j < M) = true := decide_eq_true hjl
          have hb0 : Below w3.heap.size w3 wr := hbr
          rcases hLa3 with h0 | ⟨bl, offl, rfl, hc⟩
          · rw [h0] at hM; simp at hM; omega
          obtain ⟨l0, l1, l2, l3, vl, l4, hTl⟩ := hc j (by omega)
          replace l0 := cell_below hbr l0
          replace l1 := cell_below hbr l1
          replace l2 := cell_below hbr l2
          replace l3 := cell_below hbr l3
          replace l4 := cell_below hbr l4
          replace hTl := termsV_below hTl hbr
          obtain ⟨hto, hkinds⟩ := Sh.lit_kinds (hLD j (by omega))
          have hx3 : (Tr.litD r.body j).terms.length ≤ 3 := by
            have := hLM j (by omega)
            simp only [decide_eq_true_eq] at this
            omega
          have hBT : Sh.bodyT r.body (j + 1) = Sh.bodyT r.body j ++ Sh.pre j ++ Sh.lit (Tr.litD r.body j) := by rw [Sh.bodyT]
          have HBT : Hid (A ++ Sh.bodyT r.body (j + 1) = A ++ Sh.bodyT r.body j ++ Sh.pre j ++ Sh.lit (Tr.litD r.body j)) := by
            show _ = _
            rw [hBT]
            simp only [List.append_assoc]
          have HM : Hid (r.body.length = M) := hM
          clear hc hLD hLM hbb hBT hM hbj
          generalize Tr.litD r.body j = x at *
          generalize A ++ Sh.bodyT r.body j = B0 at *
          obtain ⟨aox, cax, rfl, hTl'⟩ := hTl
          have hb4 : Below wr.heap.size wr (wr.alloc (litObj x (.slice aox x.terms.length cax))) := (Below.refl _ _).alloc (Nat.le_refl _) _
          have hX4 := heap_alloc_new wr (litObj x (.slice aox x.terms.length cax))
          have hT4 : TermsV (wr.alloc (litObj x (.slice aox x.terms.length cax))) (.slice aox x.terms.length cax) x.terms := termsV_below ⟨aox, cax, rfl, hTl'⟩ hb4
          have hbw4 := hbr.trans (hb4.mono hbr.size)
          go_upto_if 42 with fail
          generalize wr.alloc (litObj x (.slice aox x.terms.length cax)) = w4 at *
          generalize wr.heap.size = XL at *
          clear l0 l1 l2 l3 l4 hTl' c1
          go_cut [3] (fun s wx => s = strV (B0 ++ Sh.pre j) ∧ Below w4.heap.size w4 wx)
          case first =>
            clear HBT HST hkinds
            by_cases hj0 : j = 0
            · subst hj0
              have hs2 : ¬ 9223372036854775807 < B0.length + 4 := by omega
              go_wp2_with fail
              go_meet
              exact ⟨str_app B0 [32, 58, 45, 32], Below.refl _ _⟩
            · have hj0' : ((j : Int) == 0) = false := by simpa using hj0
              have HP : Hid (Sh.pre j = [44, 32]) := by show _ = _; unfold Sh.pre; rw [if_neg hj0]
              have hs2 : ¬ 9223372036854775807 < B0.length + 2 := by omega
              go_wp2_with fail
              go_meet
              exact ⟨by rw [HP.out]; exact str_app B0 [44, 32], Below.refl _ _⟩
          case rest =>
            obtain ⟨rfl, hbc⟩ := hcut
            generalize wc = w5 at *
            have hX5 := (hbc.block _ (heap_lt hX4)).trans hX4
            have hT5 := termsV_below hT4 hbc
            have hbw5 := hbw4.trans (hbc.mono hbw4.size)
            have hpl : (Sh.pre j).length ≤ 4 := by unfold Sh.pre; split <;> simp
            have hB1 : (B0 ++ Sh.pre j).length ≤ 2200000 := by rw [List.length_append]; omega
            clear hX4 hT4 hbw4 hbc hb4 hbr hb0 hpl hAj
            generalize B0 ++ Sh.pre j = B1 at *
            obtain ⟨x0, x1, x2, x3, x4⟩ := lit_cells hX5
            have hkinds2 : (x.kind = 1 ∧ x.name.length ≤ 5000) ∨ (x.kind = 2 ∧ x.name.length ≤ 5000) ∨ ((x.kind = 3 ∨ (x.kind = 4 ∧ x.terms.length = 3)) ∧ 2 ≤ x.terms.length ∧ 1 ≤ x.op ∧ x.op ≤ 7) := by
              rcases hkinds with h | h | ⟨h1, h2, h3, h4⟩ | ⟨h1, h2, h3, h4⟩
              · exact .inl h
              · exact .inr (.inl h)
              · exact .inr (.inr ⟨.inl h1, by omega, h3, h4⟩)
              · exact .inr (.inr ⟨.inr ⟨h1, h2⟩, by omega, h3, h4⟩)
            clear hkinds
            rcases hkinds2 with ⟨hk, hnm⟩ | ⟨hk, hnm⟩ | ⟨hk, hl2, ho1, ho7⟩
            · have HL : Hid (Sh.lit x = Sh.atom x.name x.terms 0) := by show _ = _; unfold Sh.lit; rw [if_pos hk]
              have HA := atomText_any x.name x.terms _ 0 w5 hT5 hx3 hto (by decide) (by decide) hnm
              have hal := Sh.atom_bound (f := 0) hnm hto hx3
              have g2 : (x.kind == 2) = false := by rw [hk]; rfl
              have g12 : decide (x.kind ≤ 2) = true := by rw [hk]; rfl
              have hs3 : ¬ 9223372036854775807 < B1.length + (Sh.atom x.name x.terms 0).length := by omega
              clear hk hX5 hT5 hto HST
              generalize Sh.atom x.name x.terms 0 = AL at *
              go_wp2_with fail
              refine HA.mono ?_
              rintro e w6 ⟨rfl, hb6⟩
              go_wp2_with fail
              go_roundw
              case rel => exact ⟨j + 1, by omega, by go_num, by rw [HBT.out, HL.out]; first | rfl | exact str_app B1 AL, hbw5.trans (hb6.mono hbw5.size)⟩
              case measure => simp [intOf]; omega
            · have HL : Hid (Sh.lit x = [110, 111, 116, 32] ++ Sh.atom x.name x.terms 0) := by show _ = _; unfold Sh.lit; rw [if_neg (by omega), if_pos hk]
              have HA := atomText_any x.name x.terms _ 0 w5 hT5 hx3 hto (by decide) (by decide) hnm
              have hal := Sh.atom_bound (f := 0) hnm hto hx3
              have g2 : (x.kind == 2) = true := by rw [hk]; rfl
              have g12 : decide (x.kind ≤ 2) = true := by rw [hk]; rfl
              have hs4 : ¬ 9223372036854775807 < B1.length + 4 := by omega
              have hs3 : ¬ 9223372036854775807 < B1.length + 4 + (Sh.atom x.name x.terms 0).length := by omega
              clear hk hX5 hT5 hto HST
              generalize Sh.atom x.name x.terms 0 = AL at *
              go_wp2_with fail
              refine HA.mono ?_
              rintro e w6 ⟨rfl, hb6⟩
              go_wp2_with fail
              go_roundw
              case rel => exact ⟨j + 1, by omega, by go_num, by rw [HBT.out, HL.out, ← List.append_assoc, ← str_app (B1 ++ [110, 111, 116, 32]) AL, ← app_list B1 [110, 111, 116, 32]], hbw5.trans (hb6.mono hbw5.size)⟩
              case measure => simp [intOf]; omega
            · have g2 : (x.kind == 2) = false := by rcases hk with h | h <;> simp [h]
              have g12 : decide (x.kind ≤ 2) = false := by rcases hk with h | h <;> simp [h]
              obtain ⟨m, hm⟩ : ∃ m : Nat, x.op = (m : Int) := ⟨x.op.toNat, by omega⟩
              have hidx : (#[.string ⟨#[]⟩, .string ⟨#[60]⟩, .string ⟨#[60, 61]⟩, .string ⟨#[61]⟩, .string ⟨#[33, 61]⟩, .string ⟨#[43]⟩, .string ⟨#[45]⟩, .string ⟨#[42]⟩] : Array Value)[m]? = some (strV (Sh.sign x.op)) := by
                rw [hm]
                have hm7 : m = 1 ∨ m = 2 ∨ m = 3 ∨ m = 4 ∨ m = 5 ∨ m = 6 ∨ m = 7 := by omega
                rcases hm7 with rfl | rfl | rfl | rfl | rfl | rfl | rfl <;> rfl
              have hm8 : (m : Int) < 8 := by omega
              have hsl := Sh.sign_len x.op
              have HLx : Hid (Sh.lit x = Sh.term (Tr.termD x.terms 0) ++ ([32] ++ Sh.sign x.op ++ [32]) ++ Sh.term (Tr.termD x.terms 1) ++ Sh.third x) := by
                show _ = _
                unfold Sh.lit
                rw [if_neg (by rcases hk with h | h <;> omega), if_neg (by rcases hk with h | h <;> omega)]
                rfl
              obtain ⟨aot', cat', hv', hTA⟩ := hT5
              injection hv' with hv1 hv2 hv3
              subst hv1
              rcases hTA with h0 | ⟨bt, offt, rfl, hc⟩
              · rw [h0] at hl2; simp at hl2
              obtain ⟨p0, p1⟩ := hc 0 (by omega)
              obtain ⟨q0, q1⟩ := hc 1 (by omega)
              replace p0 : w5.cell? ⟨bt, offt, none⟩ = some (.string ⟨(Tr.termD x.terms 0).var.toArray⟩) := by simpa using p0
              replace p1 : w5.cell? ⟨bt, offt + 1, none⟩ = some (.int .i64 (Tr.termD x.terms 0).n) := by simpa using p1
              replace q0 : w5.cell? ⟨bt, offt + 2, none⟩ = some (.string ⟨(Tr.termD x.terms 1).var.toArray⟩) := q0
              replace q1 : w5.cell? ⟨bt, offt + 2 + 1, none⟩ = some (.int .i64 (Tr.termD x.terms 1).n) := q1
              have hok : ∀ i, i < x.terms.length → Tr.termOk (Tr.termD x.terms i) = true := fun i hi => List.all_eq_true.1 hto _ (by unfold Tr.termD; rw [List.getD_eq_getElem?_getD, List.getElem?_eq_getElem hi]; exact List.getElem_mem hi)
              have ht0 := (Sh.termsD_ok hto (i := 0) (by omega)).2
              have ht1 := (Sh.termsD_ok hto (i := 1) (by omega)).2
              have i0 : (0 : Int) < (x.terms.length : Int) := by omega
              have i1 : (1 : Int) < (x.terms.length : Int) := by omega
              have lift : ∀ {t : Tr.Term} (_ : Tr.termOk t = true) (yd : World), Below w5.heap.size w5 yd → Calls Tryz.prog 21 #[termVal t] yd fun e w' => e = .returned (strV (Sh.term t)) ∧ (Below w5.heap.size w5 w' ∧ w'.cell? ⟨XL, 2, none⟩ = some (.int .i64 x.op) ∧ w'.cell? ⟨XL, 4, none⟩ = some (.slice (some ⟨bt, offt, none⟩) x.terms.length cax) ∧ w'.cell? ⟨bt, offt, none⟩ = some (.string ⟨(Tr.termD x.terms 0).var.toArray⟩) ∧ w'.cell? ⟨bt, offt + 1, none⟩ = some (.int .i64 (Tr.termD x.terms 0).n) ∧ w'.cell? ⟨bt, offt + 2, none⟩ = some (.string ⟨(Tr.termD x.terms 1).var.toArray⟩) ∧ w'.cell? ⟨bt, offt + 2 + 1, none⟩ = some (.int .i64 (Tr.termD x.terms 1).n)) ∧ (∀ b o, b < yd.heap.size → w'.cell? ⟨b, o, none⟩ = yd.cell? ⟨b, o, none⟩) ∧ (∀ b, b < yd.heap.size → b < w'.heap.size) ∧ XL < w'.heap.size ∧ bt < w'.heap.size := by
                intro t htk yd hy
                refine (termText_any t htk yd).mono fun e w' ⟨he, hb⟩ => ?_
                have h2 := hy.trans (hb.mono hy.size)
                exact ⟨he, ⟨h2, cell_below h2 x2, cell_below h2 x4, cell_below h2 p0, cell_below h2 p1, cell_below h2 q0, cell_below h2 q1⟩, fun b o hb' => World.cell?_of_block (a := ⟨b, o, none⟩) (hb.block b hb'), fun b hb' => Nat.lt_of_lt_of_le hb' hb.size, World.block_lt_of_cell? w' _ (cell_below h2 x2), World.block_lt_of_cell? w' _ (cell_below h2 p0)⟩
              have HTT : Hid _ := fun (t : Tr.Term) (yd : World) (ht : t = Tr.termD x.terms 0 ∨ t = Tr.termD x.terms 1) (hy : Below w5.heap.size w5 yd) => lift (t := t) (by rcases ht with rfl | rfl; exact hok 0 (by omega); exact hok 1 (by omega)) yd hy
              have hbd : Below w5.heap.size w5 w5.drew := ⟨rfl, rfl, rfl, Nat.le_refl _, fun _ _ => rfl⟩
              have hs1 : ¬ 9223372036854775807 < (Sh.term (Tr.termD x.terms 0)).length + 1 := by omega
              have hs2 : ¬ 9223372036854775807 < (Sh.term (Tr.termD x.terms 0)).length + 1 + (Sh.sign x.op).length := by omega
              have hs3 : ¬ 9223372036854775807 < (Sh.term (Tr.termD x.terms 0)).length + 1 + (Sh.sign x.op).length + 1 := by omega
              have hs4 : ¬ 9223372036854775807 < (Sh.term (Tr.termD x.terms 0)).length + 1 + (Sh.sign x.op).length + 1 + (Sh.term (Tr.termD x.terms 1)).length := by omega
              have hs5 : ¬ 9223372036854775807 < B1.length + ((Sh.term (Tr.termD x.terms 0)).length + 1 + (Sh.sign x.op).length + 1 + (Sh.term (Tr.termD x.terms 1)).length) := by omega
              have hl1 : (B1 ++ (Sh.term (Tr.termD x.terms 0) ++ ([32] ++ Sh.sign x.op ++ [32]) ++ Sh.term (Tr.termD x.terms 1))).length ≤ 2300000 := by simp only [List.length_append, List.length_cons, List.length_nil]; omega
              have H2 : Hid (∀ h : 2 < x.terms.length, w5.cell? ⟨bt, offt + 4, none⟩ = some (.string ⟨(Tr.termD x.terms 2).var.toArray⟩) ∧ w5.cell? ⟨bt, offt + 4 + 1, none⟩ = some (.int .i64 (Tr.termD x.terms 2).n)) := fun h => hc 2 h
              have HOK2 : Hid (2 < x.terms.length → Tr.termOk (Tr.termD x.terms 2) = true ∧ (Sh.term (Tr.termD x.terms 2)).length ≤ 5000) := fun h => ⟨hok 2 h, (Sh.termsD_ok hto h).2⟩
              have HTH : Hid (x.kind = 4 → Sh.third x = [32, 61, 32] ++ Sh.term (Tr.termD x.terms 2)) := fun h => by unfold Sh.third; rw [if_pos h]
              have HTN : Hid (¬ x.kind = 4 → Sh.third x = []) := fun h => by unfold Sh.third; rw [if_neg h]
              have HK : Hid (x.kind = 3 ∨ (x.kind = 4 ∧ x.terms.length = 3)) := hk
              clear hc hv2 hv3 hto hx3 hk hok lift HST ho1 ho7 HM HN
              rw [hm] at x2 HTT
              clear hm
              generalize Sh.third x = TH at *
              generalize Sh.sign x.op = SG at *
              go_upto_region 18 with fail
              go_cut [3] (fun s wx => s = strV (B1 ++ (Sh.term (Tr.termD x.terms 0) ++ ([32] ++ SG ++ [32]) ++ Sh.term (Tr.termD x.terms 1))) ∧ Below w5.heap.size w5 wx)
              case first =>
                clear HBT HLx H2 HOK2 HTH HTN HK hl1
                generalize Tr.termD x.terms 0 = t0 at *
                generalize Tr.termD x.terms 1 = t1 at *
                have hbal : ∀ (y : World) (o : Obj), Below w5.heap.size w5 y → Below w5.heap.size w5 (y.alloc o) := fun y o hy => hy.alloc hy.size o
                have hbdr : ∀ (y : World), Below w5.heap.size w5 y → Below w5.heap.size w5 y.drew := fun y hy => ⟨hy.os, hy.tape, hy.output, hy.size, hy.block⟩
                have hbrf : Below w5.heap.size w5 w5 := Below.refl _ _
                have hl0 : 0 < x.terms.length := by omega
                have hXL5 : XL < w5.heap.size := World.block_lt_of_cell? w5 _ x2
                have hbt5 : bt < w5.heap.size := World.block_lt_of_cell? w5 _ p0
                generalize x.terms.length = LN at *
                have hS0 : ∀ y, Below w5.heap.size w5 y → (fun w' => Below w5.heap.size w5 w' ∧ w'.cell? ⟨XL, 2, none⟩ = some (.int .i64 m) ∧ w'.cell? ⟨XL, 4, none⟩ = some (.slice (some ⟨bt, offt, none⟩) LN cax) ∧ w'.cell? ⟨bt, offt, none⟩ = some (.string ⟨t0.var.toArray⟩) ∧ w'.cell? ⟨bt, offt + 1, none⟩ = some (.int .i64 t0.n) ∧ w'.cell? ⟨bt, offt + 2, none⟩ = some (.string ⟨t1.var.toArray⟩) ∧ w'.cell? ⟨bt, offt + 2 + 1, none⟩ = some (.int .i64 t1.n)) y := fun y hy => ⟨hy, cell_below hy x2, cell_below hy x4, cell_below hy p0, cell_below hy p1, cell_below hy q0, cell_below hy q1⟩
                refine wp_region_held_drew (S := (fun w' => Below w5.heap.size w5 w' ∧ w'.cell? ⟨XL, 2, none⟩ = some (.int .i64 m) ∧ w'.cell? ⟨XL, 4, none⟩ = some (.slice (some ⟨bt, offt, none⟩) LN cax) ∧ w'.cell? ⟨bt, offt, none⟩ = some (.string ⟨t0.var.toArray⟩) ∧ w'.cell? ⟨bt, offt + 1, none⟩ = some (.int .i64 t0.n) ∧ w'.cell? ⟨bt, offt + 2, none⟩ = some (.string ⟨t1.var.toArray⟩) ∧ w'.cell? ⟨bt, offt + 2 + 1, none⟩ = some (.int .i64 t1.n))) (by kernel_rfl) (hS0 _ hbd) (fun hHeld => ?_)
                refine wpAnyH_take (i := 0) (v := ?v0x1) rfl (by kernel_rfl) (by kernel_rfl) (by kernel_rfl) (fun _ _ _ h => h) (Or.inl ⟨by rfl, ?hy0x1⟩) (by assumption) ?_
                case hy0x1 =>
                  intro w hSw
                  (try dsimp only at hSw)
                  go_simp
                  try with_reducible rfl
                try simp only [Act.put, List.setIfInBounds_toArray]
                refine wpAnyH_take (i := 1) (v := ?v1x2) rfl (by kernel_rfl) (by kernel_rfl) (by kernel_rfl) (fun _ _ _ h => h) (Or.inl ⟨by rfl, ?hy1x2⟩) (by assumption) ?_
                case hy1x2 =>
                  intro w hSw
                  (try dsimp only at hSw)
                  go_simp
                  try with_reducible rfl
                try simp only [Act.put]
                refine wpAnyH_take (i := 2) (v := ?v2x3) rfl (by kernel_rfl) (by kernel_rfl) (by kernel_rfl) (fun _ _ _ h => h) (Or.inl ⟨by rfl, ?hy2x3⟩) (by assumption) ?_
                case hy2x3 =>
                  intro w hSw
                  (try dsimp only at hSw)
                  go_simp
                  try with_reducible rfl
                try simp only [Act.put]
                refine wpAnyH_take (i := 3) (v := ?v3x4) rfl (by kernel_rfl) (by kernel_rfl) (by kernel_rfl) (fun _ _ _ h => h) (Or.inl ⟨by rfl, ?hy3x4⟩) (by assumption) ?_
                case hy3x4 =>
                  intro w hSw
                  (try dsimp only at hSw)
                  go_simp
                  try with_reducible rfl
                try simp only [Act.put]
                refine wpAnyH_take (i := 4) (v := ?v4x5) rfl (by kernel_rfl) (by kernel_rfl) (by kernel_rfl) (fun _ _ _ h => h) (Or.inl ⟨by rfl, ?hy4x5⟩) (by assumption) ?_
                case hy4x5 =>
                  intro w hSw
                  (try dsimp only at hSw)
                  go_simp
                  try with_reducible rfl
                try simp only [Act.put]
                refine wpAnyH_take (i := 8) (v := ?v8x6) rfl (by kernel_rfl) (by kernel_rfl) (by kernel_rfl) (fun _ _ _ h => h) (Or.inl ⟨by rfl, ?hy8x6⟩) (by assumption) ?_
                case hy8x6 =>
                  intro w hSw
                  (try dsimp only at hSw)
                  go_simp
                  try with_reducible rfl
                try simp only [Act.put]
                refine wpAnyH_take (i := 9) (v := ?v9x7) rfl (by kernel_rfl) (by kernel_rfl) (by kernel_rfl) (fun _ _ _ h => h) (Or.inl ⟨by rfl, ?hy9x7⟩) (by assumption) ?_
                case hy9x7 =>
                  intro w hSw
                  (try dsimp only at hSw)
                  go_simp
                  try with_reducible rfl
                try simp only [Act.put]
                refine wpAnyH_take (i := 14) (v := ?v14x8) rfl (by kernel_rfl) (by kernel_rfl) (by kernel_rfl) (fun _ _ _ h => h) (Or.inl ⟨by rfl, ?hy14x8⟩) (by assumption) ?_
                case hy14x8 =>
                  intro w hSw
                  (try dsimp only at hSw)
                  go_simp
                  try with_reducible rfl
                try simp only [Act.put]
                refine wpAnyH_take (i := 15) (v := ?v15x9) rfl (by kernel_rfl) (by kernel_rfl) (by kernel_rfl) (fun _ _ _ h => h) (Or.inl ⟨by rfl, ?hy15x9⟩) (by assumption) ?_
                case hy15x9 =>
                  intro w hSw
                  (try dsimp only at hSw)
                  go_simp
                  try with_reducible rfl
                try simp only [Act.put]
                refine wpAnyH_take (i := 16) (v := ?v16x10) rfl (by kernel_rfl) (by kernel_rfl) (by kernel_rfl) (fun _ _ _ h => h) (Or.inl ⟨by rfl, ?hy16x10⟩) (by assumption) ?_
                case hy16x10 =>
                  intro w hSw
                  (try dsimp only at hSw)
                  go_simp
                  try with_reducible rfl
                try simp only [Act.put]
                refine wpAnyH_take (i := 17) (v := ?v17x11) rfl (by kernel_rfl) (by kernel_rfl) (by kernel_rfl) (fun _ _ _ h => h) (Or.inl ⟨by rfl, ?hy17x11⟩) (by assumption) ?_
                case hy17x11 =>
                  intro w hSw
                  (try dsimp only at hSw)
                  go_simp
                  try with_reducible rfl
                try simp only [Act.put]
                refine wpAnyH_ready (rs := [5, 7]) (by kernel_rfl) (by simp) ?_
                refine AllReadyH.cons rfl (fun K hK => ?_) ?_
                · go_simp
                  go_at_call 21
                  refine Calls.mono (HTT.out _ _ (Or.inl rfl) hHeld.1) ?_
                  rintro e y2 ⟨rfl, ⟨h1, h2, h3, h4, h5, h6, h7⟩, h8, h9, h10, h11⟩
                  dsimp only
                  refine hK.out _ _ (hS0 _ h1) (fun hHeld => ?_)
                  clear hK K
                  try simp only [Act.put, List.setIfInBounds_toArray, List.set_cons_zero, List.set_cons_succ]
                  refine wpAnyH_take (i := 6) (v := ?v6x12) rfl (by kernel_rfl) (by kernel_rfl) (by kernel_rfl) (fun _ _ _ h => h) (Or.inl ⟨by rfl, ?hy6x12⟩) (by assumption) ?_
                  case hy6x12 =>
                    intro w hSw
                    (try dsimp only at hSw)
                    go_simp
                    try with_reducible rfl
                  try simp only [Act.put, List.setIfInBounds_toArray]
                  refine wpAnyH_ready (rs := [7, 18]) (by kernel_rfl) (by simp) ?_
                  refine AllReadyH.cons rfl (fun K hK => ?_) ?_
                  · go_simp
                    have hnew := row_cell y2 _ 9 m _ hidx
                    refine hK.out _ _ (hS0 _ (hbal _ _ h1)) (fun hHeld0 => ?_)
                    clear hK K
                    refine wpAnyH_weaken (S' := (fun w' => Below w5.heap.size w5 w' ∧ w'.cell? ⟨XL, 2, none⟩ = some (.int .i64 m) ∧ w'.cell? ⟨XL, 4, none⟩ = some (.slice (some ⟨bt, offt, none⟩) LN cax) ∧ w'.cell? ⟨bt, offt, none⟩ = some (.string ⟨t0.var.toArray⟩) ∧ w'.cell? ⟨bt, offt + 1, none⟩ = some (.int .i64 t0.n) ∧ w'.cell? ⟨bt, offt + 2, none⟩ = some (.string ⟨t1.var.toArray⟩) ∧ w'.cell? ⟨bt, offt + 2 + 1, none⟩ = some (.int .i64 t1.n) ∧ w'.cell? ⟨y2.heap.size, m, none⟩ = some (strV SG))) (fun _ h => ⟨h.1, h.2.1, h.2.2.1, h.2.2.2.1, h.2.2.2.2.1, h.2.2.2.2.2.1, h.2.2.2.2.2.2.1⟩) _ _ _ _ ?_
                    have hHeld : (fun w' => Below w5.heap.size w5 w' ∧ w'.cell? ⟨XL, 2, none⟩ = some (.int .i64 m) ∧ w'.cell? ⟨XL, 4, none⟩ = some (.slice (some ⟨bt, offt, none⟩) LN cax) ∧ w'.cell? ⟨bt, offt, none⟩ = some (.string ⟨t0.var.toArray⟩) ∧ w'.cell? ⟨bt, offt + 1, none⟩ = some (.int .i64 t0.n) ∧ w'.cell? ⟨bt, offt + 2, none⟩ = some (.string ⟨t1.var.toArray⟩) ∧ w'.cell? ⟨bt, offt + 2 + 1, none⟩ = some (.int .i64 t1.n) ∧ w'.cell? ⟨y2.heap.size, m, none⟩ = some (strV SG)) _ := ⟨hHeld0.1, hHeld0.2.1, hHeld0.2.2.1, hHeld0.2.2.2.1, hHeld0.2.2.2.2.1, hHeld0.2.2.2.2.2.1, hHeld0.2.2.2.2.2.2, hnew⟩
                    clear hHeld0
                    try simp only [Act.put, List.setIfInBounds_toArray, List.set_cons_zero, List.set_cons_succ]
                    refine wpAnyH_take (i := 10) (v := ?v10x13) rfl (by kernel_rfl) (by kernel_rfl) (by kernel_rfl) (fun _ _ _ h => h) (Or.inl ⟨by rfl, ?hy10x13⟩) (by assumption) ?_
                    case hy10x13 =>
                      intro w hSw
                      (try dsimp only at hSw)
                      go_simp
                      try with_reducible rfl
                    try simp only [Act.put, List.setIfInBounds_toArray]
                    refine wpAnyH_take (i := 11) (v := ?v11x14) rfl (by kernel_rfl) (by kernel_rfl) (by kernel_rfl) (fun _ _ _ h => h) (Or.inl ⟨by rfl, ?hy11x14⟩) (by assumption) ?_
                    case hy11x14 =>
                      intro w hSw
                      (try dsimp only at hSw)
                      go_simp
                      try with_reducible rfl
                    try simp only [Act.put]
                    refine wpAnyH_take (i := 12) (v := ?v12x15) rfl (by kernel_rfl) (by kernel_rfl) (by kernel_rfl) (fun _ _ _ h => h) (Or.inl ⟨by rfl, ?hy12x15⟩) (by assumption) ?_
                    case hy12x15 =>
                      intro w hSw
                      (try dsimp only at hSw)
                      go_simp
                      try with_reducible rfl
                    try simp only [Act.put]
                    refine wpAnyH_take (i := 13) (v := ?v13x16) rfl (by kernel_rfl) (by kernel_rfl) (by kernel_rfl) (fun _ _ _ h => h) (Or.inl ⟨by rfl, ?hy13x16⟩) (by assumption) ?_
                    case hy13x16 =>
                      intro w hSw
                      (try dsimp only at hSw)
                      go_simp
                      try with_reducible rfl
                    try simp only [Act.put]
                    refine wpAnyH_ready (rs := [18]) (by kernel_rfl) (by simp) ?_
                    refine AllReadyH.cons rfl (fun K hK => ?_) AllReadyH.nil
                    go_simp
                    go_at_call 21
                    refine Calls.mono (HTT.out _ _ (Or.inr rfl) hHeld.1) ?_
                    rintro e y3 ⟨rfl, ⟨h1, h2, h3, h4, h5, h6, h7⟩, h8, h9, h10, h11⟩
                    dsimp only
                    refine hK.out _ _ ⟨h1, h2, h3, h4, h5, h6, h7, (h8 _ _ (World.block_lt_of_cell? _ _ hHeld.2.2.2.2.2.2.2)).trans hHeld.2.2.2.2.2.2.2⟩ (fun hHeld => ?_)
                    clear hK K
                    try simp only [Act.put, List.setIfInBounds_toArray, List.set_cons_zero, List.set_cons_succ]
                    refine wpAnyH_take (i := 19) (v := ?v19x17) rfl (by kernel_rfl) (by kernel_rfl) (by kernel_rfl) (fun _ _ _ h => h) (Or.inl ⟨by rfl, ?hy19x17⟩) (by assumption) ?_
                    case hy19x17 =>
                      intro w hSw
                      (try dsimp only at hSw)
                      go_simp
                      try with_reducible rfl
                    try simp only [Act.put, List.setIfInBounds_toArray]
                    refine wpAnyH_take (i := 20) (v := ?v20x18) rfl (by kernel_rfl) (by kernel_rfl) (by kernel_rfl) (fun _ _ _ h => h) (Or.inl ⟨by rfl, ?hy20x18⟩) (by assumption) ?_
                    case hy20x18 =>
                      intro w hSw
                      (try dsimp only at hSw)
                      go_simp
                      try with_reducible rfl
                    try simp only [Act.put]
                    refine wpAnyH_take (i := 21) (v := ?v21x19) rfl (by kernel_rfl) (by kernel_rfl) (by kernel_rfl) (fun _ _ _ h => h) (Or.inl ⟨by rfl, ?hy21x19⟩) (by assumption) ?_
                    case hy21x19 =>
                      intro w hSw
                      (try dsimp only at hSw)
                      go_simp
                      try with_reducible rfl
                    try simp only [Act.put]
                    refine wpAnyH_done (by kernel_rfl) ?_ _
                    go_wp2_with fail
                    go_meet
                    exact ⟨reck_str _ _ _ _, hHeld.1⟩
                  · refine AllReadyH.cons rfl (fun K hK => ?_) AllReadyH.nil
                    go_simp
                    go_at_call 21
                    refine Calls.mono (HTT.out _ _ (Or.inr rfl) hHeld.1) ?_
                    rintro e y3 ⟨rfl, ⟨h1, h2, h3, h4, h5, h6, h7⟩, h8, h9, h10, h11⟩
                    dsimp only
                    refine hK.out _ _ (hS0 _ h1) (fun hHeld => ?_)
                    clear hK K
                    try simp only [Act.put, List.setIfInBounds_toArray, List.set_cons_zero, List.set_cons_succ]
                    refine wpAnyH_ready (rs := [7]) (by kernel_rfl) (by simp) ?_
                    refine AllReadyH.cons rfl (fun K hK => ?_) AllReadyH.nil
                    go_simp
                    have hnew := row_cell y3 _ 9 m _ hidx
                    refine hK.out _ _ (hS0 _ (hbal _ _ h1)) (fun hHeld0 => ?_)
                    clear hK K
                    refine wpAnyH_weaken (S' := (fun w' => Below w5.heap.size w5 w' ∧ w'.cell? ⟨XL, 2, none⟩ = some (.int .i64 m) ∧ w'.cell? ⟨XL, 4, none⟩ = some (.slice (some ⟨bt, offt, none⟩) LN cax) ∧ w'.cell? ⟨bt, offt, none⟩ = some (.string ⟨t0.var.toArray⟩) ∧ w'.cell? ⟨bt, offt + 1, none⟩ = some (.int .i64 t0.n) ∧ w'.cell? ⟨bt, offt + 2, none⟩ = some (.string ⟨t1.var.toArray⟩) ∧ w'.cell? ⟨bt, offt + 2 + 1, none⟩ = some (.int .i64 t1.n) ∧ w'.cell? ⟨y3.heap.size, m, none⟩ = some (strV SG))) (fun _ h => ⟨h.1, h.2.1, h.2.2.1, h.2.2.2.1, h.2.2.2.2.1, h.2.2.2.2.2.1, h.2.2.2.2.2.2.1⟩) _ _ _ _ ?_
                    have hHeld : (fun w' => Below w5.heap.size w5 w' ∧ w'.cell? ⟨XL, 2, none⟩ = some (.int .i64 m) ∧ w'.cell? ⟨XL, 4, none⟩ = some (.slice (some ⟨bt, offt, none⟩) LN cax) ∧ w'.cell? ⟨bt, offt, none⟩ = some (.string ⟨t0.var.toArray⟩) ∧ w'.cell? ⟨bt, offt + 1, none⟩ = some (.int .i64 t0.n) ∧ w'.cell? ⟨bt, offt + 2, none⟩ = some (.string ⟨t1.var.toArray⟩) ∧ w'.cell? ⟨bt, offt + 2 + 1, none⟩ = some (.int .i64 t1.n) ∧ w'.cell? ⟨y3.heap.size, m, none⟩ = some (strV SG)) _ := ⟨hHeld0.1, hHeld0.2.1, hHeld0.2.2.1, hHeld0.2.2.2.1, hHeld0.2.2.2.2.1, hHeld0.2.2.2.2.2.1, hHeld0.2.2.2.2.2.2, hnew⟩
                    clear hHeld0
                    try simp only [Act.put, List.setIfInBounds_toArray, List.set_cons_zero, List.set_cons_succ]
                    refine wpAnyH_take (i := 10) (v := ?v10x20) rfl (by kernel_rfl) (by kernel_rfl) (by kernel_rfl) (fun _ _ _ h => h) (Or.inl ⟨by rfl, ?hy10x20⟩) (by assumption) ?_
                    case hy10x20 =>
                      intro w hSw
                      (try dsimp only at hSw)
                      go_simp
                      try with_reducible rfl
                    try simp only [Act.put, List.setIfInBounds_toArray]
                    refine wpAnyH_take (i := 11) (v := ?v11x21) rfl (by kernel_rfl) (by kernel_rfl) (by kernel_rfl) (fun _ _ _ h => h) (Or.inl ⟨by rfl, ?hy11x21⟩) (by assumption) ?_
                    case hy11x21 =>
                      intro w hSw
                      (try dsimp only at hSw)
                      go_simp
                      try with_reducible rfl
                    try simp only [Act.put]
                    refine wpAnyH_take (i := 12) (v := ?v12x22) rfl (by kernel_rfl) (by kernel_rfl) (by kernel_rfl) (fun _ _ _ h => h) (Or.inl ⟨by rfl, ?hy12x22⟩) (by assumption) ?_
                    case hy12x22 =>
                      intro w hSw
                      (try dsimp only at hSw)
                      go_simp
                      try with_reducible rfl
                    try simp only [Act.put]
                    refine wpAnyH_take (i := 13) (v := ?v13x23) rfl (by kernel_rfl) (by kernel_rfl) (by kernel_rfl) (fun _ _ _ h => h) (Or.inl ⟨by rfl, ?hy13x23⟩) (by assumption) ?_
                    case hy13x23 =>
                      intro w hSw
                      (try dsimp only at hSw)
                      go_simp
                      try with_reducible rfl
                    try simp only [Act.put]
                    refine wpAnyH_take (i := 19) (v := ?v19x24) rfl (by kernel_rfl) (by kernel_rfl) (by kernel_rfl) (fun _ _ _ h => h) (Or.inl ⟨by rfl, ?hy19x24⟩) (by assumption) ?_
                    case hy19x24 =>
                      intro w hSw
                      (try dsimp only at hSw)
                      go_simp
                      try with_reducible rfl
                    try simp only [Act.put]
                    refine wpAnyH_take (i := 20) (v := ?v20x25) rfl (by kernel_rfl) (by kernel_rfl) (by kernel_rfl) (fun _ _ _ h => h) (Or.inl ⟨by rfl, ?hy20x25⟩) (by assumption) ?_
                    case hy20x25 =>
                      intro w hSw
                      (try dsimp only at hSw)
                      go_simp
                      try with_reducible rfl
                    try simp only [Act.put]
                    refine wpAnyH_take (i := 21) (v := ?v21x26) rfl (by kernel_rfl) (by kernel_rfl) (by kernel_rfl) (fun _ _ _ h => h) (Or.inl ⟨by rfl, ?hy21x26⟩) (by assumption) ?_
                    case hy21x26 =>
                      intro w hSw
                      (try dsimp only at hSw)
                      go_simp
                      try with_reducible rfl
                    try simp only [Act.put]
                    refine wpAnyH_done (by kernel_rfl) ?_ _
                    go_wp2_with fail
                    go_meet
                    exact ⟨reck_str _ _ _ _, hHeld.1⟩
                · refine AllReadyH.cons rfl (fun K hK => ?_) AllReadyH.nil
                  go_simp
                  have hnew := row_cell w5.drew _ 9 m _ hidx
                  refine hK.out _ _ (hS0 _ (hbal _ _ hbd)) (fun hHeld0 => ?_)
                  clear hK K
                  refine wpAnyH_weaken (S' := (fun w' => Below w5.heap.size w5 w' ∧ w'.cell? ⟨XL, 2, none⟩ = some (.int .i64 m) ∧ w'.cell? ⟨XL, 4, none⟩ = some (.slice (some ⟨bt, offt, none⟩) LN cax) ∧ w'.cell? ⟨bt, offt, none⟩ = some (.string ⟨t0.var.toArray⟩) ∧ w'.cell? ⟨bt, offt + 1, none⟩ = some (.int .i64 t0.n) ∧ w'.cell? ⟨bt, offt + 2, none⟩ = some (.string ⟨t1.var.toArray⟩) ∧ w'.cell? ⟨bt, offt + 2 + 1, none⟩ = some (.int .i64 t1.n) ∧ w'.cell? ⟨w5.heap.size, m, none⟩ = some (strV SG))) (fun _ h => ⟨h.1, h.2.1, h.2.2.1, h.2.2.2.1, h.2.2.2.2.1, h.2.2.2.2.2.1, h.2.2.2.2.2.2.1⟩) _ _ _ _ ?_
                  have hHeld : (fun w' => Below w5.heap.size w5 w' ∧ w'.cell? ⟨XL, 2, none⟩ = some (.int .i64 m) ∧ w'.cell? ⟨XL, 4, none⟩ = some (.slice (some ⟨bt, offt, none⟩) LN cax) ∧ w'.cell? ⟨bt, offt, none⟩ = some (.string ⟨t0.var.toArray⟩) ∧ w'.cell? ⟨bt, offt + 1, none⟩ = some (.int .i64 t0.n) ∧ w'.cell? ⟨bt, offt + 2, none⟩ = some (.string ⟨t1.var.toArray⟩) ∧ w'.cell? ⟨bt, offt + 2 + 1, none⟩ = some (.int .i64 t1.n) ∧ w'.cell? ⟨w5.heap.size, m, none⟩ = some (strV SG)) _ := ⟨hHeld0.1, hHeld0.2.1, hHeld0.2.2.1, hHeld0.2.2.2.1, hHeld0.2.2.2.2.1, hHeld0.2.2.2.2.2.1, hHeld0.2.2.2.2.2.2, hnew⟩
                  clear hHeld0
                  try simp only [Act.put, List.setIfInBounds_toArray, List.set_cons_zero, List.set_cons_succ]
                  refine wpAnyH_take (i := 10) (v := ?v10x27) rfl (by kernel_rfl) (by kernel_rfl) (by kernel_rfl) (fun _ _ _ h => h) (Or.inl ⟨by rfl, ?hy10x27⟩) (by assumption) ?_
                  case hy10x27 =>
                    intro w hSw
                    (try dsimp only at hSw)
                    go_simp
                    try with_reducible rfl
                  try simp only [Act.put, List.setIfInBounds_toArray]
                  refine wpAnyH_take (i := 11) (v := ?v11x28) rfl (by kernel_rfl) (by kernel_rfl) (by kernel_rfl) (fun _ _ _ h => h) (Or.inl ⟨by rfl, ?hy11x28⟩) (by assumption) ?_
                  case hy11x28 =>
                    intro w hSw
                    (try dsimp only at hSw)
                    go_simp
                    try with_reducible rfl
                  try simp only [Act.put]
                  refine wpAnyH_ready (rs := [5]) (by kernel_rfl) (by simp) ?_
                  refine AllReadyH.cons rfl (fun K hK => ?_) AllReadyH.nil
                  go_simp
                  go_at_call 21
                  refine Calls.mono (HTT.out _ _ (Or.inl rfl) hHeld.1) ?_
                  rintro e y2 ⟨rfl, ⟨h1, h2, h3, h4, h5, h6, h7⟩, h8, h9, h10, h11⟩
                  dsimp only
                  refine hK.out _ _ ⟨h1, h2, h3, h4, h5, h6, h7, (h8 _ _ (World.block_lt_of_cell? _ _ hHeld.2.2.2.2.2.2.2)).trans hHeld.2.2.2.2.2.2.2⟩ (fun hHeld => ?_)
                  clear hK K
                  try simp only [Act.put, List.setIfInBounds_toArray, List.set_cons_zero, List.set_cons_succ]
                  refine wpAnyH_take (i := 6) (v := ?v6x29) rfl (by kernel_rfl) (by kernel_rfl) (by kernel_rfl) (fun _ _ _ h => h) (Or.inl ⟨by rfl, ?hy6x29⟩) (by assumption) ?_
                  case hy6x29 =>
                    intro w hSw
                    (try dsimp only at hSw)
                    go_simp
                    try with_reducible rfl
                  try simp only [Act.put, List.setIfInBounds_toArray]
                  refine wpAnyH_take (i := 12) (v := ?v12x30) rfl (by kernel_rfl) (by kernel_rfl) (by kernel_rfl) (fun _ _ _ h => h) (Or.inl ⟨by rfl, ?hy12x30⟩) (by assumption) ?_
                  case hy12x30 =>
                    intro w hSw
                    (try dsimp only at hSw)
                    go_simp
                    try with_reducible rfl
                  try simp only [Act.put]
                  refine wpAnyH_take (i := 13) (v := ?v13x31) rfl (by kernel_rfl) (by kernel_rfl) (by kernel_rfl) (fun _ _ _ h => h) (Or.inl ⟨by rfl, ?hy13x31⟩) (by assumption) ?_
                  case hy13x31 =>
                    intro w hSw
                    (try dsimp only at hSw)
                    go_simp
                    try with_reducible rfl
                  try simp only [Act.put]
                  refine wpAnyH_ready (rs := [18]) (by kernel_rfl) (by simp) ?_
                  refine AllReadyH.cons rfl (fun K hK => ?_) AllReadyH.nil
                  go_simp
                  go_at_call 21
                  refine Calls.mono (HTT.out _ _ (Or.inr rfl) hHeld.1) ?_
                  rintro e y3 ⟨rfl, ⟨h1, h2, h3, h4, h5, h6, h7⟩, h8, h9, h10, h11⟩
                  dsimp only
                  refine hK.out _ _ ⟨h1, h2, h3, h4, h5, h6, h7, (h8 _ _ (World.block_lt_of_cell? _ _ hHeld.2.2.2.2.2.2.2)).trans hHeld.2.2.2.2.2.2.2⟩ (fun hHeld => ?_)
                  clear hK K
                  try simp only [Act.put, List.setIfInBounds_toArray, List.set_cons_zero, List.set_cons_succ]
                  refine wpAnyH_take (i := 19) (v := ?v19x32) rfl (by kernel_rfl) (by kernel_rfl) (by kernel_rfl) (fun _ _ _ h => h) (Or.inl ⟨by rfl, ?hy19x32⟩) (by assumption) ?_
                  case hy19x32 =>
                    intro w hSw
                    (try dsimp only at hSw)
                    go_simp
                    try with_reducible rfl
                  try simp only [Act.put, List.setIfInBounds_toArray]
                  refine wpAnyH_take (i := 20) (v := ?v20x33) rfl (by kernel_rfl) (by kernel_rfl) (by kernel_rfl) (fun _ _ _ h => h) (Or.inl ⟨by rfl, ?hy20x33⟩) (by assumption) ?_
                  case hy20x33 =>
                    intro w hSw
                    (try dsimp only at hSw)
                    go_simp
                    try with_reducible rfl
                  try simp only [Act.put]
                  refine wpAnyH_take (i := 21) (v := ?v21x34) rfl (by kernel_rfl) (by kernel_rfl) (by kernel_rfl) (fun _ _ _ h => h) (Or.inl ⟨by rfl, ?hy21x34⟩) (by assumption) ?_
                  case hy21x34 =>
                    intro w hSw
                    (try dsimp only at hSw)
                    go_simp
                    try with_reducible rfl
                  try simp only [Act.put]
                  refine wpAnyH_done (by kernel_rfl) ?_ _
                  go_wp2_with fail
                  go_meet
                  exact ⟨reck_str _ _ _ _, hHeld.1⟩
              case rest =>
                obtain ⟨rfl, hbc6⟩ := hcut
                generalize wc = w6 at *
                have hX6 := (hbc6.block _ (heap_lt hX5)).trans hX5
                have hbw6 := hbw5.trans (hbc6.mono hbw5.size)
                have HFIN : Hid (A ++ Sh.bodyT r.body (j + 1) = B1 ++ (Sh.term (Tr.termD x.terms 0) ++ ([32] ++ SG ++ [32]) ++ Sh.term (Tr.termD x.terms 1)) ++ TH) := by
                  show _ = _
                  rw [HBT.out, HLx.out]
                  simp only [List.append_assoc]
                clear x0 x1 x2 x3 x4 hX5 HBT HLx HTT hs1 hs2 hs3 hs4 hs5 hidx
                obtain ⟨x0, x1, x2, x3, x4⟩ := lit_cells hX6
                generalize B1 ++ (Sh.term (Tr.termD x.terms 0) ++ ([32] ++ SG ++ [32]) ++ Sh.term (Tr.termD x.terms 1)) = B2 at *
                rcases HK.out with hk3 | ⟨hk4, hl3⟩
                · have hTH := HTN.out (by omega)
                  have HTH0 : Hid _ := hTH
                  have g4 : (x.kind == 4) = false := by rw [hk3]; rfl
                  clear hTH hk3 HTN HTH H2 HOK2 HK
                  go_wp2_with fail
                  go_roundw
                  case rel => exact ⟨j + 1, by omega, by go_num, by rw [HFIN.out, HTH0.out, List.append_nil], hbw6⟩
                  case measure => simp [intOf]; omega
                · have hTH := HTH.out hk4
                  have HTH0 : Hid _ := hTH
                  have g4 : (x.kind == 4) = true := by rw [hk4]; rfl
                  obtain ⟨d0, d1⟩ := H2.out (by omega)
                  replace d0 := cell_below hbc6 d0
                  replace d1 := cell_below hbc6 d1
                  obtain ⟨ht2, ht2l⟩ := HOK2.out (by omega)
                  have HT2 : Hid _ := termText_any _ ht2 w6
                  have hs6 : ¬ 9223372036854775807 < 3 + (Sh.term (Tr.termD x.terms 2)).length := by omega
                  have hs7 : ¬ 9223372036854775807 < B2.length + (3 + (Sh.term (Tr.termD x.terms 2)).length) := by omega
                  have i2 : (2 : Int) < (x.terms.length : Int) := by omega
                  clear hTH hk4 HTN HTH H2 HOK2 HK ht2
                  generalize Sh.term (Tr.termD x.terms 2) = T2 at *
                  generalize Tr.termD x.terms 2 = t2 at *
                  go_wp2_with fail
                  refine Calls.mono HT2.out ?_
                  rintro e w7 ⟨rfl, hb7⟩
                  go_wp2_with fail
                  go_roundw
                  case rel => exact ⟨j + 1, by omega, by go_num, by rw [HFIN.out, HTH0.out]; exact third_str _ _, hbw6.trans (hb7.mono hbw6.size)⟩
                  case measure => simp [intOf]; omega
        · have hdj : decide (j < M) = false := decide_eq_false hjl
          obtain rfl : j = M := by omega
          have hs2 : ¬ 9223372036854775807 < (A ++ Sh.bodyT r.body j).length + 2 := by omega
          clear hbb hLD hLM hLa3 HN hM hbj
          generalize A ++ Sh.bodyT r.body j = B at *
          go_wp2_with fail
          go_roundw
          case rel => exact ⟨n + 1, by omega, by go_num, by rw [HST.out]; exact str_app B [46, 10], HRL.out _ hbr⟩
          case measure => simp [intOf]; omega
    · have hdk : decide (n < N) = false := decide_eq_false hlt
      obtain rfl : n = N := by omega
      clear hN hV' hbd hall hok
      go_wp2_with fail
      go_ret
      exact ⟨rfl, hb1.trans (hbo.mono hb1.size)⟩

end Go.Proofs.YtclbbiocagkmcaaGreatDoor

/- ShowShows: the walk of the statement's function. -/
namespace Go.Proofs.YtclbbiocagkmcaaGreatDoor
open Go.RowKit

set_option maxRecDepth 100000 in
set_option maxHeartbeats 2000000 in
theorem law_showShows (l : List Tr.Rule) (w : World) (va : Value) (hA : RulesV w va l) (hF : Fine l) (hp : Pow w) :
    Calls Tryz.prog 3 #[.agg #[va]] w fun e w' => e = .returned (.bool true) ∧ Below w.heap.size w w' := by
  have _hF := hF
  obtain ⟨ao, ca, rfl, hA'⟩ := hA
  have hA : RulesV w (.slice ao l.length ca) l := ⟨ao, ca, rfl, hA'⟩
  have hb1 : Below w.heap.size w (w.alloc (.cells #[.slice ao l.length ca] 24)) := (Below.refl _ _).alloc (Nat.le_refl _) _
  have hX1 := heap_alloc_new w (.cells #[.slice ao l.length ca] 24)
  clear hA'
  have HS : Hid (∀ y, Below w.heap.size w y → Calls Tryz.prog 6 #[.agg #[.slice ao l.length ca]] y fun e w' => e = .returned (.tuple #[strV (Sh.shown l), .int .i64 (Tr.check l)]) ∧ Below y.heap.size y w') := fun y hy => Show_any l _ y (rulesV_below hA hy) (hp.below hy)
  have HC : Hid (∀ y, Below w.heap.size w y → Calls Tryz.prog 7 #[.agg #[.slice ao l.length ca]] y fun e w' => e = .returned (.int .i64 (Tr.check l)) ∧ Below y.heap.size y w') := fun y hy => CheckTree_any l _ y (rulesV_below hA hy)
  have HG : Hid (∀ y, Below w.heap.size w y → Calls Tryz.prog 9 #[] y fun e w' => e = .returned (.bool true) ∧ Below y.heap.size y w') := fun y hy => showBegun_any y (hp.below hy)
  have HT : Hid (Tr.check l = 0 → ∀ y, Below w.heap.size w y → Calls Tryz.prog 8 #[.agg #[.slice ao l.length ca]] y fun e w' => e = .returned (strV (Sh.shown l)) ∧ Below y.heap.size y w') := by
    intro h0 y hy
    have hs : Sh.shown l = Sh.rules l l.length := by unfold Sh.shown; rw [if_pos h0]
    rw [hs]
    exact treeText_any l _ y (rulesV_below hA hy) h0
  have HN : Hid (¬ Tr.check l = 0 → Sh.shown l = []) := fun h => by unfold Sh.shown; rw [if_neg h]
  clear hp hA hF
  generalize Tr.check l = E at *
  generalize Sh.shown l = SH at *
  go_enter Tryz.func3, Tryz.ntmps3
  go_upto_region 1 with fail
  generalize w.alloc (.cells #[.slice ao l.length ca] 24) = w1 at *
  generalize hXX : w.heap.size = X at *
  have HXX : Hid _ := hXX
  have HLE : Hid (X ≤ w.heap.size) := Nat.le_of_eq HXX.out.symm
  clear hXX
  obtain ⟨c1, _⟩ := tree_cell hX1
  go_wp2_with fail
  refine Calls.mono (HS.out _ hb1) ?_
  rintro e w2 ⟨rfl, hb2⟩
  have hX2 := (hb2.block _ (heap_lt hX1)).trans hX1
  have hbw2 : Below X w w2 := hb1.trans (hb2.mono (Nat.le_trans HLE.out hb1.size))
  clear c1 hX1 hb1 hb2 HS
  obtain ⟨c1, _⟩ := tree_cell hX2
  go_wp2_with fail
  refine Calls.mono (HC.out _ hbw2) ?_
  rintro e w3 ⟨rfl, hb3⟩
  have hX3 := (hb3.block _ (heap_lt hX2)).trans hX2
  have hbw3 : Below X w w3 := hbw2.trans (hb3.mono (Nat.le_trans HLE.out hbw2.size))
  clear c1 hX2 hbw2 hb3 HC
  obtain ⟨c1, _⟩ := tree_cell hX3
  by_cases hE : E = 0
  · subst hE
    have HT0 := HT.out rfl
    have HT1 : Hid _ := HT0
    clear HT HT0 HN
    go_wp2_with fail
    refine Calls.mono (HT1.out _ hbw3) ?_
    rintro e w4 ⟨rfl, hb4⟩
    have hbw4 : Below X w w4 := hbw3.trans (hb4.mono (Nat.le_trans HLE.out hbw3.size))
    go_wp2_with fail
    refine Calls.mono (HG.out _ hbw4) ?_
    rintro e w5 ⟨rfl, hb5⟩
    go_wp2_with fail
    go_ret
    exact ⟨by simp, by rw [HXX.out]; exact hbw4.trans (hb5.mono (Nat.le_trans HLE.out hbw4.size))⟩
  · have hE' : (E == 0) = false := by simpa using hE
    have hS0 := HN.out hE
    subst hS0
    clear HT HN hE
    go_wp2_with fail
    refine Calls.mono (HG.out _ hbw3) ?_
    rintro e w5 ⟨rfl, hb5⟩
    go_wp2_with fail
    go_ret
    exact ⟨by simp, by rw [HXX.out]; exact hbw3.trans (hb5.mono (Nat.le_trans HLE.out hbw3.size))⟩

end Go.Proofs.YtclbbiocagkmcaaGreatDoor

/- A tree that came in, read out of memory. -/
namespace Go.Proofs.YtclbbiocagkmcaaGreatDoor
open Go.RowKit

theorem A_cells24 : Tryz.prog.cellsOf 24 = 1 := by kernel_rfl
theorem A_cells22 : Tryz.prog.cellsOf 22 = 1 := by kernel_rfl
theorem A_cells40 : Tryz.prog.cellsOf 43 = 1 := by kernel_rfl
theorem A_cells41 : Tryz.prog.cellsOf 44 = 1 := by kernel_rfl
theorem A_cells43 : Tryz.prog.cellsOf 46 = 5 := by kernel_rfl
theorem A_cells49 : Tryz.prog.cellsOf 50 = 5 := by kernel_rfl
theorem A_cells71 : Tryz.prog.cellsOf 57 = 2 := by kernel_rfl
theorem A_cells3 : Tryz.prog.cellsOf 3 = 1 := by kernel_rfl
theorem A_cells9 : Tryz.prog.cellsOf 9 = 1 := by kernel_rfl

theorem list2 {l : List Value} (h : l.length = 2) : ∃ a b, l = [a, b] := by
  match l, h with
  | [a, b], _ => exact ⟨a, b, rfl⟩
theorem list5 {l : List Value} (h : l.length = 5) : ∃ a b c d e, l = [a, b, c, d, e] := by
  match l, h with
  | [a, b, c, d, e], _ => exact ⟨a, b, c, d, e, rfl⟩

section
variable {H : Type} {enc : TypeId × Value → H} {w : World} {base : Nat} {spare : Nat → Bool} {held : Bool}

/-- A slice whose elements can be read. -/
theorem open_row {α : Type} {st e : TypeId} {k : Nat} (ht : Tryz.prog.underlying st = some (.slice e)) (hk : Tryz.prog.cellsOf e = k) (hk0 : 0 < k) (d : α) (In : Nat → Nat → α → Prop)
    (el : ∀ n cs' y b off, cs'.length = k → (∀ j, j < k → w.cell? ⟨b, off + j, none⟩ = cs'[j]?) → DataW.trod enc Tryz.prog w base spare held n e cs' = some y → ∃ a, In b off a)
    {fuel : Nat} {v : Value} {x : DataW H × List MemPlace} (h : DataW.trod enc Tryz.prog w base spare held fuel st [v] = some x) :
    ∃ (ao : Option Addr) (l : List α) (cap : Nat), v = .slice ao l.length cap ∧ l.length ≤ 9223372036854775807 ∧ (l = [] ∨ ∃ b off, ao = some ⟨b, off, none⟩ ∧ ∀ i, i < l.length → In b (off + i * k) (l.getD i d)) := by
  haveI : Inhabited α := ⟨d⟩
  rcases Deep.open_slice ht h with ⟨hv, _⟩ | ⟨a, len, cap, m, n, D, Pl, hv, hb, hl, hm, hmm, hx, hel⟩
  · have hv' : v = .slice none 0 0 := by simpa using hv
    exact ⟨none, [], 0, hv', by simp, .inl rfl⟩
  · have hv' : v = .slice (some a) len cap := by simpa using hv
    have hlm : len ≤ m := by rw [hmm]; split <;> omega
    by_cases h0 : len = 0
    · subst h0
      exact ⟨some a, [], cap, hv', by simp, .inl rfl⟩
    · obtain ⟨b, off, spot⟩ := a
      have hspot : spot = none := by
        obtain ⟨cs', h1, _⟩ := hel 0 (by omega)
        rw [hk] at h1
        obtain ⟨_, hlen, hcell⟩ := World.cells?_some h1
        have hc := hcell 0 hk0
        cases hcs : cs'[0]? with
        | none => rw [List.getElem?_eq_none_iff] at hcs; omega
        | some u =>
          rw [hcs] at hc
          simpa [Addr.add] using World.cell?_spot hc
      subst hspot
      have each : ∀ i, i < len → ∃ q : α, In b (off + i * k) q := by
        intro i hi
        obtain ⟨cs', h1, h2⟩ := hel i (by omega)
        rw [hk] at h1
        obtain ⟨_, hlen, hcell⟩ := World.cells?_some h1
        refine el n cs' _ b (off + i * k) hlen (fun j hj => ?_) h2
        have := hcell j hj
        rw [Deep.add_add, WideShapes.add_plain] at this
        rw [← this, Nat.add_assoc]
      obtain ⟨q, hq⟩ := Deep.choose_lt each
      refine ⟨some ⟨b, off, none⟩, (List.range len).map q, cap, by rw [hv']; simp, by unfold maxLen at hm; simp; omega, .inr ⟨b, off, rfl, fun i hi => ?_⟩⟩
      have hi' : i < len := by simpa using hi
      have ht : ((List.range len).map q).getD i d = q i := by
        rw [List.getD_eq_getElem?_getD, List.getElem?_map, List.getElem?_range hi']
        rfl
      rw [ht]
      exact hq i hi'

theorem trod_struct1 {t : TypeId} {f0 : Field} {fuel : Nat} {cs : List Value} {x : DataW H × List MemPlace} (ht : Tryz.prog.underlying t = some (.struct #[f0])) (h : DataW.trod enc Tryz.prog w base spare held fuel t cs = some x) :
    ∃ y0 n, cs.length = Tryz.prog.cellsOf t ∧ DataW.trod enc Tryz.prog w base spare held n f0.type ((cs.drop f0.offset).take (Tryz.prog.cellsOf f0.type)) = some y0 := by
  obtain ⟨xs, n, _, rfl, hl, hlen, hf⟩ := DataW.trod_struct ht h
  match xs, hlen with
  | [y0], _ => exact ⟨y0, n, hl, by simpa using hf 0 f0 rfl⟩
theorem trod_struct2 {t : TypeId} {f0 f1 : Field} {fuel : Nat} {cs : List Value} {x : DataW H × List MemPlace} (ht : Tryz.prog.underlying t = some (.struct #[f0, f1])) (h : DataW.trod enc Tryz.prog w base spare held fuel t cs = some x) :
    ∃ y0 y1 n, cs.length = Tryz.prog.cellsOf t ∧ DataW.trod enc Tryz.prog w base spare held n f0.type ((cs.drop f0.offset).take (Tryz.prog.cellsOf f0.type)) = some y0 ∧
      DataW.trod enc Tryz.prog w base spare held n f1.type ((cs.drop f1.offset).take (Tryz.prog.cellsOf f1.type)) = some y1 := by
  obtain ⟨xs, n, _, rfl, hl, hlen, hf⟩ := DataW.trod_struct ht h
  match xs, hlen with
  | [y0, y1], _ => exact ⟨y0, y1, n, hl, by simpa using hf 0 f0 rfl, by simpa using hf 1 f1 rfl⟩
theorem trod_struct5 {t : TypeId} {f0 f1 f2 f3 f4 : Field} {fuel : Nat} {cs : List Value} {x : DataW H × List MemPlace} (ht : Tryz.prog.underlying t = some (.struct #[f0, f1, f2, f3, f4])) (h : DataW.trod enc Tryz.prog w base spare held fuel t cs = some x) :
    ∃ y0 y1 y2 y3 y4 n, cs.length = Tryz.prog.cellsOf t ∧ DataW.trod enc Tryz.prog w base spare held n f0.type ((cs.drop f0.offset).take (Tryz.prog.cellsOf f0.type)) = some y0 ∧
      DataW.trod enc Tryz.prog w base spare held n f1.type ((cs.drop f1.offset).take (Tryz.prog.cellsOf f1.type)) = some y1 ∧ DataW.trod enc Tryz.prog w base spare held n f2.type ((cs.drop f2.offset).take (Tryz.prog.cellsOf f2.type)) = some y2 ∧
      DataW.trod enc Tryz.prog w base spare held n f3.type ((cs.drop f3.offset).take (Tryz.prog.cellsOf f3.type)) = some y3 ∧ DataW.trod enc Tryz.prog w base spare held n f4.type ((cs.drop f4.offset).take (Tryz.prog.cellsOf f4.type)) = some y4 := by
  obtain ⟨xs, n, _, rfl, hl, hlen, hf⟩ := DataW.trod_struct ht h
  match xs, hlen with
  | [y0, y1, y2, y3, y4], _ => exact ⟨y0, y1, y2, y3, y4, n, hl, by simpa using hf 0 f0 rfl, by simpa using hf 1 f1 rfl, by simpa using hf 2 f2 rfl, by simpa using hf 3 f3 rfl, by simpa using hf 4 f4 rfl⟩

theorem open_terms {fuel : Nat} {v : Value} {x : DataW H × List MemPlace} (h : DataW.trod enc Tryz.prog w base spare held fuel 43 [v] = some x) : ∃ l, TermsV w v l ∧ l.length ≤ 9223372036854775807 := by
  obtain ⟨ao, l, cap, hv, hmx, hl⟩ := open_row Tryz.underlying43 A_cells71 (by decide) (⟨[], 0⟩ : Tr.Term) (TermIn w) (fun n cs' y b off hlen hc h2 => by
    obtain ⟨y0, y1, k, _, g0, g1⟩ := trod_struct2 Tryz.underlying57 h2
    obtain ⟨v0, v1, rfl⟩ := list2 hlen
    simp [A_cells3, A_cells9] at g0 g1
    obtain ⟨k0, e0, _, _⟩ := DataW.trod_string Tryz.underlying9 g0
    obtain ⟨k1, e1, _, _⟩ := DataW.trod_int Tryz.underlying3 g1
    simp at e0 e1
    subst e0 e1
    exact ⟨⟨k0.data.toList, k1⟩, hc 0 (by decide), hc 1 (by decide)⟩) h
  exact ⟨l, ⟨ao, cap, hv, hl⟩, hmx⟩

theorem open_lits {fuel : Nat} {v : Value} {x : DataW H × List MemPlace} (h : DataW.trod enc Tryz.prog w base spare held fuel 44 [v] = some x) : ∃ l, LitsV w v l ∧ l.length ≤ 9223372036854775807 ∧ FitsB l := by
  obtain ⟨ao, l, cap, hv, hmx, hl⟩ := open_row Tryz.underlying44 A_cells49 (by decide) (⟨0, 0, 0, [], []⟩ : Tr.Lit) (fun b off x => LitIn w b off x ∧ x.terms.length ≤ 9223372036854775807) (fun n cs' y b off hlen hc h2 => by
    obtain ⟨y0, y1, y2, y3, y4, k, _, g0, g1, g2, g3, g4⟩ := trod_struct5 Tryz.underlying50 h2
    obtain ⟨v0, v1, v2, v3, v4, rfl⟩ := list5 hlen
    simp [A_cells3, A_cells9, A_cells40] at g0 g1 g2 g3 g4
    obtain ⟨k0, e0, _, _⟩ := DataW.trod_int Tryz.underlying3 g0
    obtain ⟨k1, e1, _, _⟩ := DataW.trod_int Tryz.underlying3 g1
    obtain ⟨k2, e2, _, _⟩ := DataW.trod_int Tryz.underlying3 g2
    obtain ⟨k3, e3, _, _⟩ := DataW.trod_string Tryz.underlying9 g3
    obtain ⟨l, hl, hm4⟩ := open_terms g4
    simp at e0 e1 e2 e3
    subst e0 e1 e2 e3
    exact ⟨⟨k0, k1, k2, k3.data.toList, l⟩, ⟨hc 0 (by decide), hc 1 (by decide), hc 2 (by decide), hc 3 (by decide), v4, hc 4 (by decide), hl⟩, hm4⟩) h
  refine ⟨l, ⟨ao, cap, hv, ?_⟩, hmx, ?_⟩
  · rcases hl with h | ⟨b, off, he, hc⟩
    · exact .inl h
    · exact .inr ⟨b, off, he, fun i hi => (hc i hi).1⟩
  · intro i hi
    rcases hl with h | ⟨b, off, he, hc⟩
    · rw [h] at hi; simp at hi
    · exact (hc i hi).2

theorem open_rules {fuel : Nat} {v : Value} {x : DataW H × List MemPlace} (h : DataW.trod enc Tryz.prog w base spare held fuel 22 [v] = some x) : ∃ l, RulesV w v l ∧ Fine l := by
  obtain ⟨ao, l, cap, hv, hmx, hl⟩ := open_row Tryz.underlying22 A_cells43 (by decide) (⟨0, [], [], 0, []⟩ : Tr.Rule) (fun b off x => RuleIn w b off x ∧ x.terms.length ≤ 9223372036854775807 ∧ x.body.length ≤ 9223372036854775807 ∧ FitsB x.body) (fun n cs' y b off hlen hc h2 => by
    obtain ⟨y0, y1, y2, y3, y4, k, _, g0, g1, g2, g3, g4⟩ := trod_struct5 Tryz.underlying46 h2
    obtain ⟨v0, v1, v2, v3, v4, rfl⟩ := list5 hlen
    simp [A_cells3, A_cells9, A_cells40, A_cells41] at g0 g1 g2 g3 g4
    obtain ⟨k0, e0, _, _⟩ := DataW.trod_int Tryz.underlying3 g0
    obtain ⟨k1, e1, _, _⟩ := DataW.trod_string Tryz.underlying9 g1
    obtain ⟨l2, hl2, hm2⟩ := open_terms g2
    obtain ⟨k3, e3, _, _⟩ := DataW.trod_int Tryz.underlying3 g3
    obtain ⟨l4, hl4, hm4, hf4⟩ := open_lits g4
    simp at e0 e1 e3
    subst e0 e1 e3
    exact ⟨⟨k0, k1.data.toList, l2, k3, l4⟩, ⟨hc 0 (by decide), hc 1 (by decide), ⟨v2, hc 2 (by decide), hl2⟩, hc 3 (by decide), v4, hc 4 (by decide), hl4⟩, hm2, hm4, hf4⟩) h
  refine ⟨l, ⟨ao, cap, hv, ?_⟩, hmx, ?_⟩
  · rcases hl with h | ⟨b, off, he, hc⟩
    · exact .inl h
    · exact .inr ⟨b, off, he, fun i hi => (hc i hi).1⟩
  · intro i hi
    rcases hl with h | ⟨b, off, he, hc⟩
    · rw [h] at hi; simp at hi
    · exact (hc i hi).2

theorem open_tree {fuel : Nat} {v : Value} {x : DataW H × List MemPlace} (h : DataW.trod enc Tryz.prog w base spare held fuel 24 [v] = some x) : ∃ l, RulesV w v l ∧ Fine l := by
  obtain ⟨y0, n, _, g0⟩ := trod_struct1 Tryz.underlying24 h
  exact open_rules (v := v) (by simpa [A_cells22] using g0)
end

end Go.Proofs.YtclbbiocagkmcaaGreatDoor

/- The library's table, out of the row's condition. -/
namespace Go.Proofs.YtclbbiocagkmcaaGreatDoor
open Go.RowKit

theorem pow_type : (Tryz.prog.globals[0]?).map (·.type) = some 141 := by kernel_rfl
theorem pow_global : Tryz.prog.globalNamed "internal/strconv.uint64pow10" = some 0 := by kernel_rfl
theorem pow_data : Rows.laid_internal_strconv_uint64pow10 (H := Unit) = Lib.tabData .u64 Lib.pow10Tab := by kernel_rfl
theorem pow_vars {W : World} {ps : List MemPlace} {rest : List (String × DataW Unit)} (h : DataW.LaidVars Tryz.prog W (("internal/strconv.uint64pow10", Rows.laid_internal_strconv_uint64pow10) :: rest) ps) : Pow W := by
  obtain ⟨g, t, cs, fuel, p, q, hg, ht, hvar, hd, _, _⟩ := h
  obtain rfl : g = 0 := Option.some.inj (hg.symm.trans pow_global)
  obtain rfl : t = 141 := Option.some.inj (ht.symm.trans pow_type)
  rw [pow_data] at hd
  have hc := Lib.cells_of_tab (e := 131) (n := 20) (k := .u64) (by kernel_rfl) (by kernel_rfl) (by kernel_rfl) (by kernel_rfl) hd
  unfold Pow Lib.TabIs
  rw [hvar, ← hc]
theorem pow_laid3 {W : World} {a b : String × DataW Unit} {rest : List (String × DataW Unit)} (h : laidMet Tryz.prog (a :: b :: ("internal/strconv.uint64pow10", Rows.laid_internal_strconv_uint64pow10) :: rest) W) : Pow W := by
  obtain ⟨ps, ⟨_, _, _, _, _, q, _, _, _, _, h, _⟩, _⟩ := h
  obtain ⟨_, _, _, _, _, q2, _, _, _, _, h, _⟩ := h
  exact pow_vars h

end Go.Proofs.YtclbbiocagkmcaaGreatDoor

/- A world in which the listed variables of the library read as the row says: the witness of the row's condition. -/
namespace Go.Proofs.YtclbbiocagkmcaaGreatDoor
open Go

/-- It is the settled world, with the listed variables laid. -/
def IsLaid (os : Os) (W : World) : Prop :=
  W = { World.holding Tryz.prog os ⟨#[], #[], []⟩ with heap := ((((World.holding Tryz.prog os ⟨#[], #[], []⟩).heap.modify 4 fun
      | .cells _ t frozen => .cells #[.int .u8 0, .int .u8 1, .int .u8 28, .int .u8 2, .int .u8 29, .int .u8 14, .int .u8 24, .int .u8 3, .int .u8 30, .int .u8 22, .int .u8 20, .int .u8 15, .int .u8 25, .int .u8 17, .int .u8 4, .int .u8 8, .int .u8 31, .int .u8 27, .int .u8 13, .int .u8 23, .int .u8 21, .int .u8 19, .int .u8 16, .int .u8 7, .int .u8 26, .int .u8 12, .int .u8 18, .int .u8 6, .int .u8 11, .int .u8 5, .int .u8 10, .int .u8 9] t frozen
      | o => o).modify 5 fun
      | .cells _ t frozen => .cells #[.int .u8 0, .int .u8 1, .int .u8 56, .int .u8 2, .int .u8 57, .int .u8 49, .int .u8 28, .int .u8 3, .int .u8 61, .int .u8 58, .int .u8 42, .int .u8 50, .int .u8 38, .int .u8 29, .int .u8 17, .int .u8 4, .int .u8 62, .int .u8 47, .int .u8 59, .int .u8 36, .int .u8 45, .int .u8 43, .int .u8 51, .int .u8 22, .int .u8 53, .int .u8 39, .int .u8 33, .int .u8 30, .int .u8 24, .int .u8 18, .int .u8 12, .int .u8 5, .int .u8 63, .int .u8 55, .int .u8 48, .int .u8 27, .int .u8 60, .int .u8 41, .int .u8 37, .int .u8 16, .int .u8 46, .int .u8 35, .int .u8 44, .int .u8 21, .int .u8 52, .int .u8 32, .int .u8 23, .int .u8 11, .int .u8 54, .int .u8 26, .int .u8 40, .int .u8 15, .int .u8 34, .int .u8 20, .int .u8 31, .int .u8 10, .int .u8 25, .int .u8 14, .int .u8 19, .int .u8 9, .int .u8 13, .int .u8 8, .int .u8 7, .int .u8 6] t frozen
      | o => o).modify 0 fun
      | .cells _ t frozen => .cells #[.int .u64 1, .int .u64 10, .int .u64 100, .int .u64 1000, .int .u64 10000, .int .u64 100000, .int .u64 1000000, .int .u64 10000000, .int .u64 100000000, .int .u64 1000000000, .int .u64 10000000000, .int .u64 100000000000, .int .u64 1000000000000, .int .u64 10000000000000, .int .u64 100000000000000, .int .u64 1000000000000000, .int .u64 10000000000000000, .int .u64 100000000000000000, .int .u64 1000000000000000000, .int .u64 10000000000000000000] t frozen
      | o => o) }
theorem isLaid (os : Os) : ∃ W, IsLaid os W := ⟨_, rfl⟩
set_option maxRecDepth 100000 in
theorem laid_met (os : Os) (W : World) (hW : IsLaid os W) (args : Array Value) : laidMet Tryz.prog Rows.showSameRow.laid (W.forCall (fun _ _ => 0) ⟨#[], args, []⟩).memory := by
  cases hW
  exact laidMet_of_run' 8 (by kernel_rfl) (by kernel_rfl)

end Go.Proofs.YtclbbiocagkmcaaGreatDoor

