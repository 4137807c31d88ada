/- Own texts, one behind the other (part 8). -/
import Derived.Test.YtgpaleifhcdjnaaGreatDoorBundleG
import Derived.Test.YtgpaleifhcdjnaaGreatDoorRows
import Derived.Test.YtgpaleifhcdjnaaGreatDoorCards
import Derived.Test.YtgpaleifhcdjnaaGreatDoorTie
import Derived.Deep.DeepCutAuto
import Derived.Lib.LaidTab
import Derived.LaidLaws
/- The document's texts: trees. -/
namespace Go.Proofs.YtgpaleifhcdjnaaGreatDoor
open Go.RowKit

namespace Sh
def pre (j : Nat) : List UInt8 := if j = 0 then [32, 58, 45, 32] else [44, 32]
def bodyT (b : List Tr.Lit) : Nat → List UInt8
  | 0 => []
  | j + 1 => bodyT b j ++ pre j ++ lit (Tr.litD b j)
theorem bodyT_lits (b : List Tr.Lit) : ∀ j, bodyT b (j + 1) = [32, 58, 45, 32] ++ lits b (j + 1)
  | 0 => by simp [bodyT, lits, pre, sep]
  | j + 1 => by
    rw [bodyT, bodyT_lits b j, lits]
    simp [pre, sep, lits]
theorem bodyT_tail (b : List Tr.Lit) : bodyT b b.length = tail b := by
  unfold tail
  cases h : b.length with
  | zero => simp [bodyT]
  | succ j => rw [bodyT_lits, if_pos (by omega)]
theorem bodyT_bound {b : List Tr.Lit} (h : Tr.litsOk b = true) (hm : Tr.litsMany b = false) : ∀ n, n ≤ b.length → (bodyT b n).length ≤ n * 20204
  | 0, _ => Nat.zero_le _
  | n + 1, hn => by
    have := bodyT_bound h hm n (by omega)
    have ht := (litsD_ok h hm (i := n) (by omega)).2
    have hs : (pre n).length ≤ 4 := by unfold pre; split <;> simp
    rw [bodyT, List.length_append, List.length_append]
    omega
theorem check_all {l : List Tr.Rule} (h : Tr.check l = 0) : l.length ≤ 12 ∧ ∀ i, i < l.length → Tr.ruleOk (Tr.ruleD l i) = true ∧ Tr.ruleMany (Tr.ruleD l i) = false := by
  unfold Tr.check at h
  cases hm : Tr.many l
  · rw [hm] at h
    simp only [Bool.false_eq_true, if_false] at h
    have ha : l.all Tr.ruleOk = true := by
      cases hb : l.all Tr.ruleOk
      · rw [hb] at h; simp at h
      · rfl
    unfold Tr.many at hm
    simp only [Bool.or_eq_false_iff, decide_eq_false_iff_not] at hm
    refine ⟨by omega, fun i hi => ?_⟩
    have hmem : Tr.ruleD l i ∈ l := by unfold Tr.ruleD; rw [List.getD_eq_getElem?_getD, List.getElem?_eq_getElem hi]; exact List.getElem_mem hi
    refine ⟨List.all_eq_true.1 ha _ hmem, ?_⟩
    have := List.any_eq_false.1 hm.2 _ hmem
    simpa using this
  · rw [hm] at h; simp at h
/-- A rule that Check has passed. -/
structure Good (r : Tr.Rule) : Prop where
  nm : r.name.length ≤ 5000
  ts : Tr.termsOk r.terms = true
  n3 : r.terms.length ≤ 3
  f0 : 0 ≤ r.fold
  f4 : r.fold ≤ 4
  ls : Tr.litsOk r.body = true
  lm : Tr.litsMany r.body = false
  b4 : r.body.length ≤ 4
theorem good {r : Tr.Rule} (h : Tr.ruleOk r = true) (hm : Tr.ruleMany r = false) : Good r := by
  unfold Tr.ruleMany at hm
  simp only [Bool.or_eq_false_iff, decide_eq_false_iff_not] at hm
  unfold Tr.ruleOk at h
  simp only [Bool.and_eq_true] at h
  obtain ⟨⟨⟨hn, ht⟩, hf⟩, hb⟩ := h
  have hff : 0 ≤ r.fold ∧ r.fold ≤ 4 := by
    unfold Tr.foldOk Tr.between at hf
    simp only [Bool.or_eq_true, Bool.and_eq_true, beq_iff_eq, decide_eq_true_eq] at hf
    omega
  refine ⟨?_, ht, by omega, hff.1, hff.2, hb, hm.2, by omega⟩
  unfold Tr.isName at hn
  rw [Bool.and_eq_true] at hn
  exact tok_len hn.1
/-- A literal that Check has passed. -/
theorem lit_kinds {x : Tr.Lit} (h : Tr.litOk x = true) : Tr.termsOk x.terms = true ∧ ((x.kind = 1 ∧ x.name.length ≤ 5000) ∨ (x.kind = 2 ∧ x.name.length ≤ 5000) ∨ (x.kind = 3 ∧ x.terms.length = 2 ∧ 1 ≤ x.op ∧ x.op ≤ 7) ∨ (x.kind = 4 ∧ x.terms.length = 3 ∧ 1 ≤ x.op ∧ x.op ≤ 7)) := by
  unfold Tr.litOk at h
  rw [Bool.and_eq_true] at h
  obtain ⟨ht, hk⟩ := h
  refine ⟨ht, ?_⟩
  by_cases h12 : x.kind = 1 ∨ x.kind = 2
  · rw [if_pos h12, Bool.and_eq_true] at hk
    have hnm : x.name.length ≤ 5000 := by
      have := hk.2
      unfold Tr.isName at this
      rw [Bool.and_eq_true] at this
      exact tok_len this.1
    rcases h12 with h | h
    · exact .inl ⟨h, hnm⟩
    · exact .inr (.inl ⟨h, hnm⟩)
  · rw [if_neg h12] at hk
    by_cases h3 : x.kind = 3
    · rw [if_pos h3] at hk
      simp only [Bool.and_eq_true, beq_iff_eq, Tr.between, decide_eq_true_eq] at hk
      exact .inr (.inr (.inl ⟨h3, by omega, by omega, by omega⟩))
    · rw [if_neg h3] at hk
      by_cases h4 : x.kind = 4
      · rw [if_pos h4] at hk
        simp only [Bool.and_eq_true, beq_iff_eq, Tr.between, decide_eq_true_eq] at hk
        exact .inr (.inr (.inr ⟨h4, by omega, by omega, by omega⟩))
      · rw [if_neg h4] at hk
        cases hk
end Sh

theorem reck_str (B a s c : List UInt8) : Value.string ({ data := B.toArray } ++ ({ data := a.toArray } ++ { data := #[32] } ++ { data := s.toArray } ++ { data := #[32] } ++ { data := c.toArray })) = strV (B ++ (a ++ ([32] ++ s ++ [32]) ++ c)) := by
  congr 1
  apply ByteArray.ext
  simp
theorem third_str (B c : List UInt8) : Value.string ({ data := B.toArray } ++ ({ data := #[32, 61, 32] } ++ { data := c.toArray })) = strV (B ++ ([32, 61, 32] ++ c)) := by
  congr 1

/-- What holds behind every operation may be weakened. -/
theorem wpAnyH_weaken {P : Program} {md : Region.Mode} {ops : Array Oper} {Q : Exit → Act → World → Prop} {S S' : World → Prop} (hS : ∀ w, S' w → S w) :
    ∀ (fuel : Nat) (listed : Array Bool) (a : Act) (w : World), wpAnyH P md ops Q S' fuel listed a w → wpAnyH P md ops Q S fuel listed a w
  | 0, _, _, _, h => h
  | fuel + 1, _, _, _, h => ⟨h.1, fun i hi => wpOp_mono (fun a' w' h' => ⟨hS _ h'.1, wpAnyH_weaken hS fuel _ a' w' h'.2⟩) (h.2 i hi)⟩

theorem row_cell (y : World) (arr : Array Value) (ty m : Nat) (v : Value) (h : arr[m]? = some v) : (y.alloc (.cells arr ty)).cell? ⟨y.heap.size, m, none⟩ = some v := by
  have e := heap_alloc_new y (.cells arr ty)
  simp only [World.cell?, e]; exact h

set_option maxRecDepth 100000 in
set_option maxHeartbeats 8000000 in
theorem treeText_any (l : List Tr.Rule) (v : Value) (w : World) (hV : RulesV w v l) (hC : Tr.check l = 0) :
    Calls Tryz.prog 25 #[.agg #[v]] w fun e w' => e = .returned (strV (Sh.rules l l.length)) ∧ Below w.heap.size w w' := by
  obtain ⟨ao, ca, rfl, hV'⟩ := hV
  obtain ⟨h12, hall⟩ := Sh.check_all hC
  have hok := (Sh.check_ok hC).2
  have hbd := Sh.rules_bound (fun i hi => (hok i hi).2)
  have hb1 : Below w.heap.size w (w.alloc (.cells #[.slice ao l.length ca] 36)) := (Below.refl _ _).alloc (Nat.le_refl _) _
  have hX1 := heap_alloc_new w (.cells #[.slice ao l.length ca] 36)
  clear hC
  generalize hN : l.length = N at *
  go_enter Tryz.func25, Tryz.ntmps25
  go_wp2_with fail
  generalize w.alloc (.cells #[.slice ao N ca] 36) = w1 at *
  have HXB : Hid (∀ y, Below w1.heap.size w1 y → y.cell? ⟨w.heap.size, 0, none⟩ = some (.slice ao N ca)) := fun y hy => (tree_cell ((hy.block _ (heap_lt hX1)).trans hX1)).1
  clear hX1
  go_loopw [3, 4] (fun s i wr => ∃ n : Nat, n ≤ N ∧ i = .int .i64 n ∧ s = strV (Sh.rules l n) ∧ Below w1.heap.size w1 wr) (fun _ i _ => N - (intOf i).toNat)
  case atStart => exact ⟨0, Nat.zero_le _, rfl, rfl, Below.refl _ _⟩
  case round =>
    rename World => wo
    obtain ⟨n, hn, rfl, rfl, hbo⟩ := hrel
    have c0 := HXB.out _ hbo
    have hbn := hbd n hn
    by_cases hlt : n < N
    · have hdk : decide (n < N) = true := decide_eq_true hlt
      rcases hV' with h0 | ⟨b, off, rfl, hc⟩
      · rw [h0] at hN; simp at hN; omega
      obtain ⟨a0, a1, ⟨va, a2, hTa⟩, a3, ua, a4, hLa⟩ := hc n (by omega)
      have hbw0 := hb1.trans (hbo.mono hb1.size)
      replace a0 := cell_below hbw0 a0
      replace a1 := cell_below hbw0 a1
      replace a2 := cell_below hbw0 a2
      replace a3 := cell_below hbw0 a3
      replace a4 := cell_below hbw0 a4
      replace hTa := termsV_below hTa hbw0
      replace hLa := litsV_below hLa hbw0
      have hg := Sh.good (hall n hlt).1 (hall n hlt).2
      have hST : Sh.rules l (n + 1) = Sh.rules l n ++ Sh.rule (Tr.ruleD l n) := by rw [Sh.rules]
      have hRU : Sh.rule (Tr.ruleD l n) = Sh.atom (Tr.ruleD l n).name (Tr.ruleD l n).terms (Tr.ruleD l n).fold ++ Sh.bodyT (Tr.ruleD l n).body (Tr.ruleD l n).body.length ++ [46, 10] := by rw [Sh.bodyT_tail]; rfl
      have HST : Hid (Sh.rules l (n + 1) = Sh.rules l n ++ Sh.atom (Tr.ruleD l n).name (Tr.ruleD l n).terms (Tr.ruleD l n).fold ++ Sh.bodyT (Tr.ruleD l n).body (Tr.ruleD l n).body.length ++ [46, 10]) := by
        show _ = _
        rw [hST, hRU]
        simp only [List.append_assoc]
      have HN : Hid (l.length = N) := hN
      clear hc hall hok hbd hST hRU hN
      generalize Tr.ruleD l n = r at *
      generalize Sh.rules l n = A0 at *
      obtain ⟨aot, cat, rfl, hTa'⟩ := hTa
      have hTa : TermsV wo (.slice aot r.terms.length cat) r.terms := ⟨aot, cat, rfl, hTa'⟩
      obtain ⟨aol, cal, rfl, hLa'⟩ := hLa
      clear hTa'
      have hb2 : Below wo.heap.size wo (wo.alloc (rulObj r (.slice aot r.terms.length cat) (.slice aol r.body.length cal))) := (Below.refl _ _).alloc (Nat.le_refl _) _
      have hX2 := heap_alloc_new wo (rulObj r (.slice aot r.terms.length cat) (.slice aol r.body.length cal))
      go_upto_region 6 with fail
      generalize wo.alloc (rulObj r (.slice aot r.terms.length cat) (.slice aol r.body.length cal)) = w2 at *
      generalize hXR : wo.heap.size = XR at *
      obtain ⟨x0, x1, x2, x3, x4⟩ := rul_cells hX2
      have HAT := atomText_any r.name r.terms _ r.fold w2 (termsV_below hTa (by rw [hXR]; exact hb2)) hg.n3 hg.ts hg.f0 hg.f4 hg.nm
      have hal := Sh.atom_bound (f := r.fold) hg.nm hg.ts hg.n3
      have hs1 : ¬ 9223372036854775807 < A0.length + (Sh.atom r.name r.terms r.fold).length := by omega
      clear a0 a1 a2 a3 a4
      generalize Sh.atom r.name r.terms r.fold = AT at *
      go_wp2_with fail
      refine HAT.mono ?_
      rintro e w3 ⟨rfl, hb3⟩
      have hX3 := (hb3.block _ (heap_lt hX2)).trans hX2
      have hbo3 : Below wo.heap.size wo w3 := by rw [hXR]; exact hb2.trans (hb3.mono (by rw [← hXR] at hb2 ⊢; exact hb2.size))
      have hbw3 := hbo.trans (hbo3.mono hbo.size)
      have hLa3 : LitsAt w3 aol r.body := litsAt_below hLa' hbo3
      have HXR : Hid (∀ y, Below w3.heap.size w3 y → y.cell? ⟨XR, 4, none⟩ = some (.slice aol r.body.length cal)) := fun y hy => (rul_cells ((hy.block _ (heap_lt hX3)).trans hX3)).2.2.2.2
      have hbb := Sh.bodyT_bound hg.ls hg.lm
      have h4 := hg.b4
      have hAA : (A0 ++ AT).length ≤ 2000000 := by rw [List.length_append]; omega
      have HRL : Hid (∀ y, Below w3.heap.size w3 y → Below w1.heap.size w1 y) := fun y hy => hbw3.trans (hy.mono hbw3.size)
      have hLD := fun j (hj : j < r.body.length) => List.all_eq_true.1 hg.ls _ (show Tr.litD r.body j ∈ r.body by unfold Tr.litD; rw [List.getD_eq_getElem?_getD, List.getElem?_eq_getElem hj]; exact List.getElem_mem hj)
      have hLM := fun j (hj : j < r.body.length) => List.any_eq_false.1 hg.lm _ (show Tr.litD r.body j ∈ r.body by unfold Tr.litD; rw [List.getD_eq_getElem?_getD, List.getElem?_eq_getElem hj]; exact List.getElem_mem hj)
      clear x0 x1 x2 x3 x4 HAT hX2 hX3 hb2 hb3 hLa' hTa hal hbo3 hbw3 hXR hg hbw0 hbo c0 hbn
      go_upto_region 7 with fail
      rw [str_app]
      generalize A0 ++ AT = A at *
      generalize hM : r.body.length = M at *
      go_wp2_with fail
      go_loopw [3, 6] (fun s k wr => ∃ j : Nat, j ≤ M ∧ k = .int .i64 j ∧ s = strV (A ++ Sh.bodyT r.body j) ∧ Below w3.heap.size w3 wr) (fun _ k _ => M - (intOf k).toNat)
      case atStart => exact ⟨0, Nat.zero_le _, rfl, by rw [show Sh.bodyT r.body 0 = [] from rfl, List.append_nil], Below.refl _ _⟩
      case round =>
        obtain ⟨j, hj, rfl, rfl, hbr⟩ := hrel
        have c1 := HXR.out _ hbr
        have hbj := hbb j hj
        have hAj : (A ++ Sh.bodyT r.body j).length ≤ 2100000 := by rw [List.length_append]; omega
        by_cases hjl : j < M
        · have hdj : decide (j < M) = true := decide_eq_true hjl
          have hb0 : Below w3.heap.size w3 wr := hbr
          rcases hLa3 with h0 | ⟨bl, offl, rfl, hc⟩
          · rw [h0] at hM; simp at hM; omega
          obtain ⟨l0, l1, l2, l3, vl, l4, hTl⟩ := hc j (by omega)
          replace l0 := cell_below hbr l0
          replace l1 := cell_below hbr l1
          replace l2 := cell_below hbr l2
          replace l3 := cell_below hbr l3
          replace l4 := cell_below hbr l4
          replace hTl := termsV_below hTl hbr
          obtain ⟨hto, hkinds⟩ := Sh.lit_kinds (hLD j (by omega))
          have hx3 : (Tr.litD r.body j).terms.length ≤ 3 := by
            have := hLM j (by omega)
            simp only [decide_eq_true_eq] at this
            omega
          have hBT : Sh.bodyT r.body (j + 1) = Sh.bodyT r.body j ++ Sh.pre j ++ Sh.lit (Tr.litD r.body j) := by rw [Sh.bodyT]
          have HBT : Hid (A ++ Sh.bodyT r.body (j + 1) = A ++ Sh.bodyT r.body j ++ Sh.pre j ++ Sh.lit (Tr.litD r.body j)) := by
            show _ = _
            rw [hBT]
            simp only [List.append_assoc]
          have HM : Hid (r.body.length = M) := hM
          clear hc hLD hLM hbb hBT hM hbj
          generalize Tr.litD r.body j = x at *
          generalize A ++ Sh.bodyT r.body j = B0 at *
          obtain ⟨aox, cax, rfl, hTl'⟩ := hTl
          have hb4 : Below wr.heap.size wr (wr.alloc (litObj x (.slice aox x.terms.length cax))) := (Below.refl _ _).alloc (Nat.le_refl _) _
          have hX4 := heap_alloc_new wr (litObj x (.slice aox x.terms.length cax))
          have hT4 : TermsV (wr.alloc (litObj x (.slice aox x.terms.length cax))) (.slice aox x.terms.length cax) x.terms := termsV_below ⟨aox, cax, rfl, hTl'⟩ hb4
          have hbw4 := hbr.trans (hb4.mono hbr.size)
          go_upto_if 42 with fail
          generalize wr.alloc (litObj x (.slice aox x.terms.length cax)) = w4 at *
          generalize wr.heap.size = XL at *
          clear l0 l1 l2 l3 l4 hTl' c1
          go_cut [3] (fun s wx => s = strV (B0 ++ Sh.pre j) ∧ Below w4.heap.size w4 wx)
          case first =>
            clear HBT HST hkinds
            by_cases hj0 : j = 0
            · subst hj0
              have hs2 : ¬ 9223372036854775807 < B0.length + 4 := by omega
              go_wp2_with fail
              go_meet
              exact ⟨str_app B0 [32, 58, 45, 32], Below.refl _ _⟩
            · have hj0' : ((j : Int) == 0) = false := by simpa using hj0
              have HP : Hid (Sh.pre j = [44, 32]) := by show _ = _; unfold Sh.pre; rw [if_neg hj0]
              have hs2 : ¬ 9223372036854775807 < B0.length + 2 := by omega
              go_wp2_with fail
              go_meet
              exact ⟨by rw [HP.out]; exact str_app B0 [44, 32], Below.refl _ _⟩
          case rest =>
            obtain ⟨rfl, hbc⟩ := hcut
            generalize wc = w5 at *
            have hX5 := (hbc.block _ (heap_lt hX4)).trans hX4
            have hT5 := termsV_below hT4 hbc
            have hbw5 := hbw4.trans (hbc.mono hbw4.size)
            have hpl : (Sh.pre j).length ≤ 4 := by unfold Sh.pre; split <;> simp
            have hB1 : (B0 ++ Sh.pre j).length ≤ 2200000 := by rw [List.length_append]; omega
            clear hX4 hT4 hbw4 hbc hb4 hbr hb0 hpl hAj
            generalize B0 ++ Sh.pre j = B1 at *
            obtain ⟨x0, x1, x2, x3, x4⟩ := lit_cells hX5
            have hkinds2 : (x.kind = 1 ∧ x.name.length ≤ 5000) ∨ (x.kind = 2 ∧ x.name.length ≤ 5000) ∨ ((x.kind = 3 ∨ (x.kind = 4 ∧ x.terms.length = 3)) ∧ 2 ≤ x.terms.length ∧ 1 ≤ x.op ∧ x.op ≤ 7) := by
              rcases hkinds with h | h | ⟨h1, h2, h3, h4⟩ | ⟨h1, h2, h3, h4⟩
              · exact .inl h
              · exact .inr (.inl h)
              · exact .inr (.inr ⟨.inl h1, by omega, h3, h4⟩)
              · exact .inr (.inr ⟨.inr ⟨h1, h2⟩, by omega, h3, h4⟩)
            clear hkinds
            rcases hkinds2 with ⟨hk, hnm⟩ | ⟨hk, hnm⟩ | ⟨hk, hl2, ho1, ho7⟩
            · have HL : Hid (Sh.lit x = Sh.atom x.name x.terms 0) := by show _ = _; unfold Sh.lit; rw [if_pos hk]
              have HA := atomText_any x.name x.terms _ 0 w5 hT5 hx3 hto (by decide) (by decide) hnm
              have hal := Sh.atom_bound (f := 0) hnm hto hx3
              have g2 : (x.kind == 2) = false := by rw [hk]; rfl
              have g12 : decide (x.kind ≤ 2) = true := by rw [hk]; rfl
              have hs3 : ¬ 9223372036854775807 < B1.length + (Sh.atom x.name x.terms 0).length := by omega
              clear hk hX5 hT5 hto HST
              generalize Sh.atom x.name x.terms 0 = AL at *
              go_wp2_with fail
              refine HA.mono ?_
              rintro e w6 ⟨rfl, hb6⟩
              go_wp2_with fail
              go_roundw
              case rel => exact ⟨j + 1, by omega, by go_num, by rw [HBT.out, HL.out]; first | rfl | exact str_app B1 AL, hbw5.trans (hb6.mono hbw5.size)⟩
              case measure => simp [intOf]; omega
            · have HL : Hid (Sh.lit x = [110, 111, 116, 32] ++ Sh.atom x.name x.terms 0) := by show _ = _; unfold Sh.lit; rw [if_neg (by omega), if_pos hk]
              have HA := atomText_any x.name x.terms _ 0 w5 hT5 hx3 hto (by decide) (by decide) hnm
              have hal := Sh.atom_bound (f := 0) hnm hto hx3
              have g2 : (x.kind == 2) = true := by rw [hk]; rfl
              have g12 : decide (x.kind ≤ 2) = true := by rw [hk]; rfl
              have hs4 : ¬ 9223372036854775807 < B1.length + 4 := by omega
              have hs3 : ¬ 9223372036854775807 < B1.length + 4 + (Sh.atom x.name x.terms 0).length := by omega
              clear hk hX5 hT5 hto HST
              generalize Sh.atom x.name x.terms 0 = AL at *
              go_wp2_with fail
              refine HA.mono ?_
              rintro e w6 ⟨rfl, hb6⟩
              go_wp2_with fail
              go_roundw
              case rel => exact ⟨j + 1, by omega, by go_num, by rw [HBT.out, HL.out, ← List.append_assoc, ← str_app (B1 ++ [110, 111, 116, 32]) AL, ← app_list B1 [110, 111, 116, 32]], hbw5.trans (hb6.mono hbw5.size)⟩
              case measure => simp [intOf]; omega
            · have g2 : (x.kind == 2) = false := by rcases hk with h | h <;> simp [h]
              have g12 : decide (x.kind ≤ 2) = false := by rcases hk with h | h <;> simp [h]
              obtain ⟨m, hm⟩ : ∃ m : Nat, x.op = (m : Int) := ⟨x.op.toNat, by omega⟩
              have hidx : (#[.string ⟨#[]⟩, .string ⟨#[60]⟩, .string ⟨#[60, 61]⟩, .string ⟨#[61]⟩, .string ⟨#[33, 61]⟩, .string ⟨#[43]⟩, .string ⟨#[45]⟩, .string ⟨#[42]⟩] : Array Value)[m]? = some (strV (Sh.sign x.op)) := by
                rw [hm]
                have hm7 : m = 1 ∨ m = 2 ∨ m = 3 ∨ m = 4 ∨ m = 5 ∨ m = 6 ∨ m = 7 := by omega
                rcases hm7 with rfl | rfl | rfl | rfl | rfl | rfl | rfl <;> rfl
              have hm8 : (m : Int) < 8 := by omega
              have hsl := Sh.sign_len x.op
              have HLx : Hid (Sh.lit x = Sh.term (Tr.termD x.terms 0) ++ ([32] ++ Sh.sign x.op ++ [32]) ++ Sh.term (Tr.termD x.terms 1) ++ Sh.third x) := by
                show _ = _
                unfold Sh.lit
                rw [if_neg (by rcases hk with h | h <;> omega), if_neg (by rcases hk with h | h <;> omega)]
                rfl
              obtain ⟨aot', cat', hv', hTA⟩ := hT5
              injection hv' with hv1 hv2 hv3
              subst hv1
              rcases hTA with h0 | ⟨bt, offt, rfl, hc⟩
              · rw [h0] at hl2; simp at hl2
              obtain ⟨p0, p1⟩ := hc 0 (by omega)
              obtain ⟨q0, q1⟩ := hc 1 (by omega)
              replace p0 : w5.cell? ⟨bt, offt, none⟩ = some (.string ⟨(Tr.termD x.terms 0).var.toArray⟩) := by simpa using p0
              replace p1 : w5.cell? ⟨bt, offt + 1, none⟩ = some (.int .i64 (Tr.termD x.terms 0).n) := by simpa using p1
              replace q0 : w5.cell? ⟨bt, offt + 2, none⟩ = some (.string ⟨(Tr.termD x.terms 1).var.toArray⟩) := q0
              replace q1 : w5.cell? ⟨bt, offt + 2 + 1, none⟩ = some (.int .i64 (Tr.termD x.terms 1).n) := q1
              have hok : ∀ i, i < x.terms.length → Tr.termOk (Tr.termD x.terms i) = true := fun i hi => List.all_eq_true.1 hto _ (by unfold Tr.termD; rw [List.getD_eq_getElem?_getD, List.getElem?_eq_getElem hi]; exact List.getElem_mem hi)
              have ht0 := (Sh.termsD_ok hto (i := 0) (by omega)).2
              have ht1 := (Sh.termsD_ok hto (i := 1) (by omega)).2
              have i0 : (0 : Int) < (x.terms.length : Int) := by omega
              have i1 : (1 : Int) < (x.terms.length : Int) := by omega
              have lift : ∀ {t : Tr.Term} (_ : Tr.termOk t = true) (yd : World), Below w5.heap.size w5 yd → Calls Tryz.prog 62 #[termVal t] yd fun e w' => e = .returned (strV (Sh.term t)) ∧ (Below w5.heap.size w5 w' ∧ w'.cell? ⟨XL, 2, none⟩ = some (.int .i64 x.op) ∧ w'.cell? ⟨XL, 4, none⟩ = some (.slice (some ⟨bt, offt, none⟩) x.terms.length cax) ∧ w'.cell? ⟨bt, offt, none⟩ = some (.string ⟨(Tr.termD x.terms 0).var.toArray⟩) ∧ w'.cell? ⟨bt, offt + 1, none⟩ = some (.int .i64 (Tr.termD x.terms 0).n) ∧ w'.cell? ⟨bt, offt + 2, none⟩ = some (.string ⟨(Tr.termD x.terms 1).var.toArray⟩) ∧ w'.cell? ⟨bt, offt + 2 + 1, none⟩ = some (.int .i64 (Tr.termD x.terms 1).n)) ∧ (∀ b o, b < yd.heap.size → w'.cell? ⟨b, o, none⟩ = yd.cell? ⟨b, o, none⟩) ∧ (∀ b, b < yd.heap.size → b < w'.heap.size) ∧ XL < w'.heap.size ∧ bt < w'.heap.size := by
                intro t htk yd hy
                refine (termText_any t htk yd).mono fun e w' ⟨he, hb⟩ => ?_
                have h2 := hy.trans (hb.mono hy.size)
                exact ⟨he, ⟨h2, cell_below h2 x2, cell_below h2 x4, cell_below h2 p0, cell_below h2 p1, cell_below h2 q0, cell_below h2 q1⟩, fun b o hb' => World.cell?_of_block (a := ⟨b, o, none⟩) (hb.block b hb'), fun b hb' => Nat.lt_of_lt_of_le hb' hb.size, World.block_lt_of_cell? w' _ (cell_below h2 x2), World.block_lt_of_cell? w' _ (cell_below h2 p0)⟩
              have HTT : Hid _ := fun (t : Tr.Term) (yd : World) (ht : t = Tr.termD x.terms 0 ∨ t = Tr.termD x.terms 1) (hy : Below w5.heap.size w5 yd) => lift (t := t) (by rcases ht with rfl | rfl; exact hok 0 (by omega); exact hok 1 (by omega)) yd hy
              have hbd : Below w5.heap.size w5 w5.drew := ⟨rfl, rfl, rfl, Nat.le_refl _, fun _ _ => rfl⟩
              have hs1 : ¬ 9223372036854775807 < (Sh.term (Tr.termD x.terms 0)).length + 1 := by omega
              have hs2 : ¬ 9223372036854775807 < (Sh.term (Tr.termD x.terms 0)).length + 1 + (Sh.sign x.op).length := by omega
              have hs3 : ¬ 9223372036854775807 < (Sh.term (Tr.termD x.terms 0)).length + 1 + (Sh.sign x.op).length + 1 := by omega
              have hs4 : ¬ 9223372036854775807 < (Sh.term (Tr.termD x.terms 0)).length + 1 + (Sh.sign x.op).length + 1 + (Sh.term (Tr.termD x.terms 1)).length := by omega
              have hs5 : ¬ 9223372036854775807 < B1.length + ((Sh.term (Tr.termD x.terms 0)).length + 1 + (Sh.sign x.op).length + 1 + (Sh.term (Tr.termD x.terms 1)).length) := by omega
              have hl1 : (B1 ++ (Sh.term (Tr.termD x.terms 0) ++ ([32] ++ Sh.sign x.op ++ [32]) ++ Sh.term (Tr.termD x.terms 1))).length ≤ 2300000 := by simp only [List.length_append, List.length_cons, List.length_nil]; omega
              have H2 : Hid (∀ h : 2 < x.terms.length, w5.cell? ⟨bt, offt + 4, none⟩ = some (.string ⟨(Tr.termD x.terms 2).var.toArray⟩) ∧ w5.cell? ⟨bt, offt + 4 + 1, none⟩ = some (.int .i64 (Tr.termD x.terms 2).n)) := fun h => hc 2 h
              have HOK2 : Hid (2 < x.terms.length → Tr.termOk (Tr.termD x.terms 2) = true ∧ (Sh.term (Tr.termD x.terms 2)).length ≤ 5000) := fun h => ⟨hok 2 h, (Sh.termsD_ok hto h).2⟩
              have HTH : Hid (x.kind = 4 → Sh.third x = [32, 61, 32] ++ Sh.term (Tr.termD x.terms 2)) := fun h => by unfold Sh.third; rw [if_pos h]
              have HTN : Hid (¬ x.kind = 4 → Sh.third x = []) := fun h => by unfold Sh.third; rw [if_neg h]
              have HK : Hid (x.kind = 3 ∨ (x.kind = 4 ∧ x.terms.length = 3)) := hk
              clear hc hv2 hv3 hto hx3 hk hok lift HST ho1 ho7 HM HN
              rw [hm] at x2 HTT
              clear hm
              generalize Sh.third x = TH at *
              generalize Sh.sign x.op = SG at *
              go_upto_region 18 with fail
              go_cut [3] (fun s wx => s = strV (B1 ++ (Sh.term (Tr.termD x.terms 0) ++ ([32] ++ SG ++ [32]) ++ Sh.term (Tr.termD x.terms 1))) ∧ Below w5.heap.size w5 wx)
              case first =>
                clear HBT HLx H2 HOK2 HTH HTN HK hl1
                generalize Tr.termD x.terms 0 = t0 at *
                generalize Tr.termD x.terms 1 = t1 at *
                have hbal : ∀ (y : World) (o : Obj), Below w5.heap.size w5 y → Below w5.heap.size w5 (y.alloc o) := fun y o hy => hy.alloc hy.size o
                have hbdr : ∀ (y : World), Below w5.heap.size w5 y → Below w5.heap.size w5 y.drew := fun y hy => ⟨hy.os, hy.tape, hy.output, hy.size, hy.block⟩
                have hbrf : Below w5.heap.size w5 w5 := Below.refl _ _
                have hl0 : 0 < x.terms.length := by omega
                have hXL5 : XL < w5.heap.size := World.block_lt_of_cell? w5 _ x2
                have hbt5 : bt < w5.heap.size := World.block_lt_of_cell? w5 _ p0
                generalize x.terms.length = LN at *
                have hS0 : ∀ y, Below w5.heap.size w5 y → (fun w' => Below w5.heap.size w5 w' ∧ w'.cell? ⟨XL, 2, none⟩ = some (.int .i64 m) ∧ w'.cell? ⟨XL, 4, none⟩ = some (.slice (some ⟨bt, offt, none⟩) LN cax) ∧ w'.cell? ⟨bt, offt, none⟩ = some (.string ⟨t0.var.toArray⟩) ∧ w'.cell? ⟨bt, offt + 1, none⟩ = some (.int .i64 t0.n) ∧ w'.cell? ⟨bt, offt + 2, none⟩ = some (.string ⟨t1.var.toArray⟩) ∧ w'.cell? ⟨bt, offt + 2 + 1, none⟩ = some (.int .i64 t1.n)) y := fun y hy => ⟨hy, cell_below hy x2, cell_below hy x4, cell_below hy p0, cell_below hy p1, cell_below hy q0, cell_below hy q1⟩
                refine wp_region_held_drew (S := (fun w' => Below w5.heap.size w5 w' ∧ w'.cell? ⟨XL, 2, none⟩ = some (.int .i64 m) ∧ w'.cell? ⟨XL, 4, none⟩ = some (.slice (some ⟨bt, offt, none⟩) LN cax) ∧ w'.cell? ⟨bt, offt, none⟩ = some (.string ⟨t0.var.toArray⟩) ∧ w'.cell? ⟨bt, offt + 1, none⟩ = some (.int .i64 t0.n) ∧ w'.cell? ⟨bt, offt + 2, none⟩ = some (.string ⟨t1.var.toArray⟩) ∧ w'.cell? ⟨bt, offt + 2 + 1, none⟩ = some (.int .i64 t1.n))) (by kernel_rfl) (hS0 _ hbd) (fun hHeld => ?_)
                refine wpAnyH_take (i := 0) (v := ?v0x1) rfl (by kernel_rfl) (by kernel_rfl) (by kernel_rfl) (fun _ _ _ h => h) (Or.inl ⟨by rfl, ?hy0x1⟩) (by assumption) ?_
                case hy0x1 =>
                  intro w hSw
                  (try dsimp only at hSw)
                  go_simp
                  try with_reducible rfl
                try simp only [Act.put, List.setIfInBounds_toArray]
                refine wpAnyH_take (i := 1) (v := ?v1x2) rfl (by kernel_rfl) (by kernel_rfl) (by kernel_rfl) (fun _ _ _ h => h) (Or.inl ⟨by rfl, ?hy1x2⟩) (by assumption) ?_
                case hy1x2 =>
                  intro w hSw
                  (try dsimp only at hSw)
                  go_simp
                  try with_reducible rfl
                try simp only [Act.put]
                refine wpAnyH_take (i := 2) (v := ?v2x3) rfl (by kernel_rfl) (by kernel_rfl) (by kernel_rfl) (fun _ _ _ h => h) (Or.inl ⟨by rfl, ?hy2x3⟩) (by assumption) ?_
                case hy2x3 =>
                  intro w hSw
                  (try dsimp only at hSw)
                  go_simp
                  try with_reducible rfl
                try simp only [Act.put]
                refine wpAnyH_take (i := 3) (v := ?v3x4) rfl (by kernel_rfl) (by kernel_rfl) (by kernel_rfl) (fun _ _ _ h => h) (Or.inl ⟨by rfl, ?hy3x4⟩) (by assumption) ?_
                case hy3x4 =>
                  intro w hSw
                  (try dsimp only at hSw)
                  go_simp
                  try with_reducible rfl
                try simp only [Act.put]
                refine wpAnyH_take (i := 4) (v := ?v4x5) rfl (by kernel_rfl) (by kernel_rfl) (by kernel_rfl) (fun _ _ _ h => h) (Or.inl ⟨by rfl, ?hy4x5⟩) (by assumption) ?_
                case hy4x5 =>
                  intro w hSw
                  (try dsimp only at hSw)
                  go_simp
                  try with_reducible rfl
                try simp only [Act.put]
                refine wpAnyH_take (i := 8) (v := ?v8x6) rfl (by kernel_rfl) (by kernel_rfl) (by kernel_rfl) (fun _ _ _ h => h) (Or.inl ⟨by rfl, ?hy8x6⟩) (by assumption) ?_
                case hy8x6 =>
                  intro w hSw
                  (try dsimp only at hSw)
                  go_simp
                  try with_reducible rfl
                try simp only [Act.put]
                refine wpAnyH_take (i := 9) (v := ?v9x7) rfl (by kernel_rfl) (by kernel_rfl) (by kernel_rfl) (fun _ _ _ h => h) (Or.inl ⟨by rfl, ?hy9x7⟩) (by assumption) ?_
                case hy9x7 =>
                  intro w hSw
                  (try dsimp only at hSw)
                  go_simp
                  try with_reducible rfl
                try simp only [Act.put]
                refine wpAnyH_take (i := 14) (v := ?v14x8) rfl (by kernel_rfl) (by kernel_rfl) (by kernel_rfl) (fun _ _ _ h => h) (Or.inl ⟨by rfl, ?hy14x8⟩) (by assumption) ?_
                case hy14x8 =>
                  intro w hSw
                  (try dsimp only at hSw)
                  go_simp
                  try with_reducible rfl
                try simp only [Act.put]
                refine wpAnyH_take (i := 15) (v := ?v15x9) rfl (by kernel_rfl) (by kernel_rfl) (by kernel_rfl) (fun _ _ _ h => h) (Or.inl ⟨by rfl, ?hy15x9⟩) (by assumption) ?_
                case hy15x9 =>
                  intro w hSw
                  (try dsimp only at hSw)
                  go_simp
                  try with_reducible rfl
                try simp only [Act.put]
                refine wpAnyH_take (i := 16) (v := ?v16x10) rfl (by kernel_rfl) (by kernel_rfl) (by kernel_rfl) (fun _ _ _ h => h) (Or.inl ⟨by rfl, ?hy16x10⟩) (by assumption) ?_
                case hy16x10 =>
                  intro w hSw
                  (try dsimp only at hSw)
                  go_simp
                  try with_reducible rfl
                try simp only [Act.put]
                refine wpAnyH_take (i := 17) (v := ?v17x11) rfl (by kernel_rfl) (by kernel_rfl) (by kernel_rfl) (fun _ _ _ h => h) (Or.inl ⟨by rfl, ?hy17x11⟩) (by assumption) ?_
                case hy17x11 =>
                  intro w hSw
                  (try dsimp only at hSw)
                  go_simp
                  try with_reducible rfl
                try simp only [Act.put]
                refine wpAnyH_ready (rs := [5, 7]) (by kernel_rfl) (by simp) ?_
                refine AllReadyH.cons rfl (fun K hK => ?_) ?_
                · go_simp
                  go_at_call 62
                  refine Calls.mono (HTT.out _ _ (Or.inl rfl) hHeld.1) ?_
                  rintro e y2 ⟨rfl, ⟨h1, h2, h3, h4, h5, h6, h7⟩, h8, h9, h10, h11⟩
                  dsimp only
                  refine hK.out _ _ (hS0 _ h1) (fun hHeld => ?_)
                  clear hK K
                  try simp only [Act.put, List.setIfInBounds_toArray, List.set_cons_zero, List.set_cons_succ]
                  refine wpAnyH_take (i := 6) (v := ?v6x12) rfl (by kernel_rfl) (by kernel_rfl) (by kernel_rfl) (fun _ _ _ h => h) (Or.inl ⟨by rfl, ?hy6x12⟩) (by assumption) ?_
                  case hy6x12 =>
                    intro w hSw
                    (try dsimp only at hSw)
                    go_simp
                    try with_reducible rfl
                  try simp only [Act.put, List.setIfInBounds_toArray]
                  refine wpAnyH_ready (rs := [7, 18]) (by kernel_rfl) (by simp) ?_
                  refine AllReadyH.cons rfl (fun K hK => ?_) ?_
                  · go_simp
                    have hnew := row_cell y2 _ 9 m _ hidx
                    refine hK.out _ _ (hS0 _ (hbal _ _ h1)) (fun hHeld0 => ?_)
                    clear hK K
                    refine wpAnyH_weaken (S' := (fun w' => Below w5.heap.size w5 w' ∧ w'.cell? ⟨XL, 2, none⟩ = some (.int .i64 m) ∧ w'.cell? ⟨XL, 4, none⟩ = some (.slice (some ⟨bt, offt, none⟩) LN cax) ∧ w'.cell? ⟨bt, offt, none⟩ = some (.string ⟨t0.var.toArray⟩) ∧ w'.cell? ⟨bt, offt + 1, none⟩ = some (.int .i64 t0.n) ∧ w'.cell? ⟨bt, offt + 2, none⟩ = some (.string ⟨t1.var.toArray⟩) ∧ w'.cell? ⟨bt, offt + 2 + 1, none⟩ = some (.int .i64 t1.n) ∧ w'.cell? ⟨y2.heap.size, m, none⟩ = some (strV SG))) (fun _ h => ⟨h.1, h.2.1, h.2.2.1, h.2.2.2.1, h.2.2.2.2.1, h.2.2.2.2.2.1, h.2.2.2.2.2.2.1⟩) _ _ _ _ ?_
                    have hHeld : (fun w' => Below w5.heap.size w5 w' ∧ w'.cell? ⟨XL, 2, none⟩ = some (.int .i64 m) ∧ w'.cell? ⟨XL, 4, none⟩ = some (.slice (some ⟨bt, offt, none⟩) LN cax) ∧ w'.cell? ⟨bt, offt, none⟩ = some (.string ⟨t0.var.toArray⟩) ∧ w'.cell? ⟨bt, offt + 1, none⟩ = some (.int .i64 t0.n) ∧ w'.cell? ⟨bt, offt + 2, none⟩ = some (.string ⟨t1.var.toArray⟩) ∧ w'.cell? ⟨bt, offt + 2 + 1, none⟩ = some (.int .i64 t1.n) ∧ w'.cell? ⟨y2.heap.size, m, none⟩ = some (strV SG)) _ := ⟨hHeld0.1, hHeld0.2.1, hHeld0.2.2.1, hHeld0.2.2.2.1, hHeld0.2.2.2.2.1, hHeld0.2.2.2.2.2.1, hHeld0.2.2.2.2.2.2, hnew⟩
                    clear hHeld0
                    try simp only [Act.put, List.setIfInBounds_toArray, List.set_cons_zero, List.set_cons_succ]
                    refine wpAnyH_take (i := 10) (v := ?v10x13) rfl (by kernel_rfl) (by kernel_rfl) (by kernel_rfl) (fun _ _ _ h => h) (Or.inl ⟨by rfl, ?hy10x13⟩) (by assumption) ?_
                    case hy10x13 =>
                      intro w hSw
                      (try dsimp only at hSw)
                      go_simp
                      try with_reducible rfl
                    try simp only [Act.put, List.setIfInBounds_toArray]
                    refine wpAnyH_take (i := 11) (v := ?v11x14) rfl (by kernel_rfl) (by kernel_rfl) (by kernel_rfl) (fun _ _ _ h => h) (Or.inl ⟨by rfl, ?hy11x14⟩) (by assumption) ?_
                    case hy11x14 =>
                      intro w hSw
                      (try dsimp only at hSw)
                      go_simp
                      try with_reducible rfl
                    try simp only [Act.put]
                    refine wpAnyH_take (i := 12) (v := ?v12x15) rfl (by kernel_rfl) (by kernel_rfl) (by kernel_rfl) (fun _ _ _ h => h) (Or.inl ⟨by rfl, ?hy12x15⟩) (by assumption) ?_
                    case hy12x15 =>
                      intro w hSw
                      (try dsimp only at hSw)
                      go_simp
                      try with_reducible rfl
                    try simp only [Act.put]
                    refine wpAnyH_take (i := 13) (v := ?v13x16) rfl (by kernel_rfl) (by kernel_rfl) (by kernel_rfl) (fun _ _ _ h => h) (Or.inl ⟨by rfl, ?hy13x16⟩) (by assumption) ?_
                    case hy13x16 =>
                      intro w hSw
                      (try dsimp only at hSw)
                      go_simp
                      try with_reducible rfl
                    try simp only [Act.put]
                    refine wpAnyH_ready (rs := [18]) (by kernel_rfl) (by simp) ?_
                    refine AllReadyH.cons rfl (fun K hK => ?_) AllReadyH.nil
                    go_simp
                    go_at_call 62
                    refine Calls.mono (HTT.out _ _ (Or.inr rfl) hHeld.1) ?_
                    rintro e y3 ⟨rfl, ⟨h1, h2, h3, h4, h5, h6, h7⟩, h8, h9, h10, h11⟩
                    dsimp only
                    refine hK.out _ _ ⟨h1, h2, h3, h4, h5, h6, h7, (h8 _ _ (World.block_lt_of_cell? _ _ hHeld.2.2.2.2.2.2.2)).trans hHeld.2.2.2.2.2.2.2⟩ (fun hHeld => ?_)
                    clear hK K
                    try simp only [Act.put, List.setIfInBounds_toArray, List.set_cons_zero, List.set_cons_succ]
                    refine wpAnyH_take (i := 19) (v := ?v19x17) rfl (by kernel_rfl) (by kernel_rfl) (by kernel_rfl) (fun _ _ _ h => h) (Or.inl ⟨by rfl, ?hy19x17⟩) (by assumption) ?_
                    case hy19x17 =>
                      intro w hSw
                      (try dsimp only at hSw)
                      go_simp
                      try with_reducible rfl
                    try simp only [Act.put, List.setIfInBounds_toArray]
                    refine wpAnyH_take (i := 20) (v := ?v20x18) rfl (by kernel_rfl) (by kernel_rfl) (by kernel_rfl) (fun _ _ _ h => h) (Or.inl ⟨by rfl, ?hy20x18⟩) (by assumption) ?_
                    case hy20x18 =>
                      intro w hSw
                      (try dsimp only at hSw)
                      go_simp
                      try with_reducible rfl
                    try simp only [Act.put]
                    refine wpAnyH_take (i := 21) (v := ?v21x19) rfl (by kernel_rfl) (by kernel_rfl) (by kernel_rfl) (fun _ _ _ h => h) (Or.inl ⟨by rfl, ?hy21x19⟩) (by assumption) ?_
                    case hy21x19 =>
                      intro w hSw
                      (try dsimp only at hSw)
                      go_simp
                      try with_reducible rfl
                    try simp only [Act.put]
                    refine wpAnyH_done (by kernel_rfl) ?_ _
                    go_wp2_with fail
                    go_meet
                    exact ⟨reck_str _ _ _ _, hHeld.1⟩
                  · refine AllReadyH.cons rfl (fun K hK => ?_) AllReadyH.nil
                    go_simp
                    go_at_call 62
                    refine Calls.mono (HTT.out _ _ (Or.inr rfl) hHeld.1) ?_
                    rintro e y3 ⟨rfl, ⟨h1, h2, h3, h4, h5, h6, h7⟩, h8, h9, h10, h11⟩
                    dsimp only
                    refine hK.out _ _ (hS0 _ h1) (fun hHeld => ?_)
                    clear hK K
                    try simp only [Act.put, List.setIfInBounds_toArray, List.set_cons_zero, List.set_cons_succ]
                    refine wpAnyH_ready (rs := [7]) (by kernel_rfl) (by simp) ?_
                    refine AllReadyH.cons rfl (fun K hK => ?_) AllReadyH.nil
                    go_simp
                    have hnew := row_cell y3 _ 9 m _ hidx
                    refine hK.out _ _ (hS0 _ (hbal _ _ h1)) (fun hHeld0 => ?_)
                    clear hK K
                    refine wpAnyH_weaken (S' := (fun w' => Below w5.heap.size w5 w' ∧ w'.cell? ⟨XL, 2, none⟩ = some (.int .i64 m) ∧ w'.cell? ⟨XL, 4, none⟩ = some (.slice (some ⟨bt, offt, none⟩) LN cax) ∧ w'.cell? ⟨bt, offt, none⟩ = some (.string ⟨t0.var.toArray⟩) ∧ w'.cell? ⟨bt, offt + 1, none⟩ = some (.int .i64 t0.n) ∧ w'.cell? ⟨bt, offt + 2, none⟩ = some (.string ⟨t1.var.toArray⟩) ∧ w'.cell? ⟨bt, offt + 2 + 1, none⟩ = some (.int .i64 t1.n) ∧ w'.cell? ⟨y3.heap.size, m, none⟩ = some (strV SG))) (fun _ h => ⟨h.1, h.2.1, h.2.2.1, h.2.2.2.1, h.2.2.2.2.1, h.2.2.2.2.2.1, h.2.2.2.2.2.2.1⟩) _ _ _ _ ?_
                    have hHeld : (fun w' => Below w5.heap.size w5 w' ∧ w'.cell? ⟨XL, 2, none⟩ = some (.int .i64 m) ∧ w'.cell? ⟨XL, 4, none⟩ = some (.slice (some ⟨bt, offt, none⟩) LN cax) ∧ w'.cell? ⟨bt, offt, none⟩ = some (.string ⟨t0.var.toArray⟩) ∧ w'.cell? ⟨bt, offt + 1, none⟩ = some (.int .i64 t0.n) ∧ w'.cell? ⟨bt, offt + 2, none⟩ = some (.string ⟨t1.var.toArray⟩) ∧ w'.cell? ⟨bt, offt + 2 + 1, none⟩ = some (.int .i64 t1.n) ∧ w'.cell? ⟨y3.heap.size, m, none⟩ = some (strV SG)) _ := ⟨hHeld0.1, hHeld0.2.1, hHeld0.2.2.1, hHeld0.2.2.2.1, hHeld0.2.2.2.2.1, hHeld0.2.2.2.2.2.1, hHeld0.2.2.2.2.2.2, hnew⟩
                    clear hHeld0
                    try simp only [Act.put, List.setIfInBounds_toArray, List.set_cons_zero, List.set_cons_succ]
                    refine wpAnyH_take (i := 10) (v := ?v10x20) rfl (by kernel_rfl) (by kernel_rfl) (by kernel_rfl) (fun _ _ _ h => h) (Or.inl ⟨by rfl, ?hy10x20⟩) (by assumption) ?_
                    case hy10x20 =>
                      intro w hSw
                      (try dsimp only at hSw)
                      go_simp
                      try with_reducible rfl
                    try simp only [Act.put, List.setIfInBounds_toArray]
                    refine wpAnyH_take (i := 11) (v := ?v11x21) rfl (by kernel_rfl) (by kernel_rfl) (by kernel_rfl) (fun _ _ _ h => h) (Or.inl ⟨by rfl, ?hy11x21⟩) (by assumption) ?_
                    case hy11x21 =>
                      intro w hSw
                      (try dsimp only at hSw)
                      go_simp
                      try with_reducible rfl
                    try simp only [Act.put]
                    refine wpAnyH_take (i := 12) (v := ?v12x22) rfl (by kernel_rfl) (by kernel_rfl) (by kernel_rfl) (fun _ _ _ h => h) (Or.inl ⟨by rfl, ?hy12x22⟩) (by assumption) ?_
                    case hy12x22 =>
                      intro w hSw
                      (try dsimp only at hSw)
                      go_simp
                      try with_reducible rfl
                    try simp only [Act.put]
                    refine wpAnyH_take (i := 13) (v := ?v13x23) rfl (by kernel_rfl) (by kernel_rfl) (by kernel_rfl) (fun _ _ _ h => h) (Or.inl ⟨by rfl, ?hy13x23⟩) (by assumption) ?_
                    case hy13x23 =>
                      intro w hSw
                      (try dsimp only at hSw)
                      go_simp
                      try with_reducible rfl
                    try simp only [Act.put]
                    refine wpAnyH_take (i := 19) (v := ?v19x24) rfl (by kernel_rfl) (by kernel_rfl) (by kernel_rfl) (fun _ _ _ h => h) (Or.inl ⟨by rfl, ?hy19x24⟩) (by assumption) ?_
                    case hy19x24 =>
                      intro w hSw
                      (try dsimp only at hSw)
                      go_simp
                      try with_reducible rfl
                    try simp only [Act.put]
                    refine wpAnyH_take (i := 20) (v := ?v20x25) rfl (by kernel_rfl) (by kernel_rfl) (by kernel_rfl) (fun _ _ _ h => h) (Or.inl ⟨by rfl, ?hy20x25⟩) (by assumption) ?_
                    case hy20x25 =>
                      intro w hSw
                      (try dsimp only at hSw)
                      go_simp
                      try with_reducible rfl
                    try simp only [Act.put]
                    refine wpAnyH_take (i := 21) (v := ?v21x26) rfl (by kernel_rfl) (by kernel_rfl) (by kernel_rfl) (fun _ _ _ h => h) (Or.inl ⟨by rfl, ?hy21x26⟩) (by assumption) ?_
                    case hy21x26 =>
                      intro w hSw
                      (try dsimp only at hSw)
                      go_simp
                      try with_reducible rfl
                    try simp only [Act.put]
                    refine wpAnyH_done (by kernel_rfl) ?_ _
                    go_wp2_with fail
                    go_meet
                    exact ⟨reck_str _ _ _ _, hHeld.1⟩
                · refine AllReadyH.cons rfl (fun K hK => ?_) AllReadyH.nil
                  go_simp
                  have hnew := row_cell w5.drew _ 9 m _ hidx
                  refine hK.out _ _ (hS0 _ (hbal _ _ hbd)) (fun hHeld0 => ?_)
                  clear hK K
                  refine wpAnyH_weaken (S' := (fun w' => Below w5.heap.size w5 w' ∧ w'.cell? ⟨XL, 2, none⟩ = some (.int .i64 m) ∧ w'.cell? ⟨XL, 4, none⟩ = some (.slice (some ⟨bt, offt, none⟩) LN cax) ∧ w'.cell? ⟨bt, offt, none⟩ = some (.string ⟨t0.var.toArray⟩) ∧ w'.cell? ⟨bt, offt + 1, none⟩ = some (.int .i64 t0.n) ∧ w'.cell? ⟨bt, offt + 2, none⟩ = some (.string ⟨t1.var.toArray⟩) ∧ w'.cell? ⟨bt, offt + 2 + 1, none⟩ = some (.int .i64 t1.n) ∧ w'.cell? ⟨w5.heap.size, m, none⟩ = some (strV SG))) (fun _ h => ⟨h.1, h.2.1, h.2.2.1, h.2.2.2.1, h.2.2.2.2.1, h.2.2.2.2.2.1, h.2.2.2.2.2.2.1⟩) _ _ _ _ ?_
                  have hHeld : (fun w' => Below w5.heap.size w5 w' ∧ w'.cell? ⟨XL, 2, none⟩ = some (.int .i64 m) ∧ w'.cell? ⟨XL, 4, none⟩ = some (.slice (some ⟨bt, offt, none⟩) LN cax) ∧ w'.cell? ⟨bt, offt, none⟩ = some (.string ⟨t0.var.toArray⟩) ∧ w'.cell? ⟨bt, offt + 1, none⟩ = some (.int .i64 t0.n) ∧ w'.cell? ⟨bt, offt + 2, none⟩ = some (.string ⟨t1.var.toArray⟩) ∧ w'.cell? ⟨bt, offt + 2 + 1, none⟩ = some (.int .i64 t1.n) ∧ w'.cell? ⟨w5.heap.size, m, none⟩ = some (strV SG)) _ := ⟨hHeld0.1, hHeld0.2.1, hHeld0.2.2.1, hHeld0.2.2.2.1, hHeld0.2.2.2.2.1, hHeld0.2.2.2.2.2.1, hHeld0.2.2.2.2.2.2, hnew⟩
                  clear hHeld0
                  try simp only [Act.put, List.setIfInBounds_toArray, List.set_cons_zero, List.set_cons_succ]
                  refine wpAnyH_take (i := 10) (v := ?v10x27) rfl (by kernel_rfl) (by kernel_rfl) (by kernel_rfl) (fun _ _ _ h => h) (Or.inl ⟨by rfl, ?hy10x27⟩) (by assumption) ?_
                  case hy10x27 =>
                    intro w hSw
                    (try dsimp only at hSw)
                    go_simp
                    try with_reducible rfl
                  try simp only [Act.put, List.setIfInBounds_toArray]
                  refine wpAnyH_take (i := 11) (v := ?v11x28) rfl (by kernel_rfl) (by kernel_rfl) (by kernel_rfl) (fun _ _ _ h => h) (Or.inl ⟨by rfl, ?hy11x28⟩) (by assumption) ?_
                  case hy11x28 =>
                    intro w hSw
                    (try dsimp only at hSw)
                    go_simp
                    try with_reducible rfl
                  try simp only [Act.put]
                  refine wpAnyH_ready (rs := [5]) (by kernel_rfl) (by simp) ?_
                  refine AllReadyH.cons rfl (fun K hK => ?_) AllReadyH.nil
                  go_simp
                  go_at_call 62
                  refine Calls.mono (HTT.out _ _ (Or.inl rfl) hHeld.1) ?_
                  rintro e y2 ⟨rfl, ⟨h1, h2, h3, h4, h5, h6, h7⟩, h8, h9, h10, h11⟩
                  dsimp only
                  refine hK.out _ _ ⟨h1, h2, h3, h4, h5, h6, h7, (h8 _ _ (World.block_lt_of_cell? _ _ hHeld.2.2.2.2.2.2.2)).trans hHeld.2.2.2.2.2.2.2⟩ (fun hHeld => ?_)
                  clear hK K
                  try simp only [Act.put, List.setIfInBounds_toArray, List.set_cons_zero, List.set_cons_succ]
                  refine wpAnyH_take (i := 6) (v := ?v6x29) rfl (by kernel_rfl) (by kernel_rfl) (by kernel_rfl) (fun _ _ _ h => h) (Or.inl ⟨by rfl, ?hy6x29⟩) (by assumption) ?_
                  case hy6x29 =>
                    intro w hSw
                    (try dsimp only at hSw)
                    go_simp
                    try with_reducible rfl
                  try simp only [Act.put, List.setIfInBounds_toArray]
                  refine wpAnyH_take (i := 12) (v := ?v12x30) rfl (by kernel_rfl) (by kernel_rfl) (by kernel_rfl) (fun _ _ _ h => h) (Or.inl ⟨by rfl, ?hy12x30⟩) (by assumption) ?_
                  case hy12x30 =>
                    intro w hSw
                    (try dsimp only at hSw)
                    go_simp
                    try with_reducible rfl
                  try simp only [Act.put]
                  refine wpAnyH_take (i := 13) (v := ?v13x31) rfl (by kernel_rfl) (by kernel_rfl) (by kernel_rfl) (fun _ _ _ h => h) (Or.inl ⟨by rfl, ?hy13x31⟩) (by assumption) ?_
                  case hy13x31 =>
                    intro w hSw
                    (try dsimp only at hSw)
                    go_simp
                    try with_reducible rfl
                  try simp only [Act.put]
                  refine wpAnyH_ready (rs := [18]) (by kernel_rfl) (by simp) ?_
                  refine AllReadyH.cons rfl (fun K hK => ?_) AllReadyH.nil
                  go_simp
                  go_at_call 62
                  refine Calls.mono (HTT.out _ _ (Or.inr rfl) hHeld.1) ?_
                  rintro e y3 ⟨rfl, ⟨h1, h2, h3, h4, h5, h6, h7⟩, h8, h9, h10, h11⟩
                  dsimp only
                  refine hK.out _ _ ⟨h1, h2, h3, h4, h5, h6, h7, (h8 _ _ (World.block_lt_of_cell? _ _ hHeld.2.2.2.2.2.2.2)).trans hHeld.2.2.2.2.2.2.2⟩ (fun hHeld => ?_)
                  clear hK K
                  try simp only [Act.put, List.setIfInBounds_toArray, List.set_cons_zero, List.set_cons_succ]
                  refine wpAnyH_take (i := 19) (v := ?v19x32) rfl (by kernel_rfl) (by kernel_rfl) (by kernel_rfl) (fun _ _ _ h => h) (Or.inl ⟨by rfl, ?hy19x32⟩) (by assumption) ?_
                  case hy19x32 =>
                    intro w hSw
                    (try dsimp only at hSw)
                    go_simp
                    try with_reducible rfl
                  try simp only [Act.put, List.setIfInBounds_toArray]
                  refine wpAnyH_take (i := 20) (v := ?v20x33) rfl (by kernel_rfl) (by kernel_rfl) (by kernel_rfl) (fun _ _ _ h => h) (Or.inl ⟨by rfl, ?hy20x33⟩) (by assumption) ?_
                  case hy20x33 =>
                    intro w hSw
                    (try dsimp only at hSw)
                    go_simp
                    try with_reducible rfl
                  try simp only [Act.put]
                  refine wpAnyH_take (i := 21) (v := ?v21x34) rfl (by kernel_rfl) (by kernel_rfl) (by kernel_rfl) (fun _ _ _ h => h) (Or.inl ⟨by rfl, ?hy21x34⟩) (by assumption) ?_
                  case hy21x34 =>
                    intro w hSw
                    (try dsimp only at hSw)
                    go_simp
                    try with_reducible rfl
                  try simp only [Act.put]
                  refine wpAnyH_done (by kernel_rfl) ?_ _
                  go_wp2_with fail
                  go_meet
                  exact ⟨reck_str _ _ _ _, hHeld.1⟩
              case rest =>
                obtain ⟨rfl, hbc6⟩ := hcut
                generalize wc = w6 at *
                have hX6 := (hbc6.block _ (heap_lt hX5)).trans hX5
                have hbw6 := hbw5.trans (hbc6.mono hbw5.size)
                have HFIN : Hid (A ++ Sh.bodyT r.body (j + 1) = B1 ++ (Sh.term (Tr.termD x.terms 0) ++ ([32] ++ SG ++ [32]) ++ Sh.term (Tr.termD x.terms 1)) ++ TH) := by
                  show _ = _
                  rw [HBT.out, HLx.out]
                  simp only [List.append_assoc]
                clear x0 x1 x2 x3 x4 hX5 HBT HLx HTT hs1 hs2 hs3 hs4 hs5 hidx
                obtain ⟨x0, x1, x2, x3, x4⟩ := lit_cells hX6
                generalize B1 ++ (Sh.term (Tr.termD x.terms 0) ++ ([32] ++ SG ++ [32]) ++ Sh.term (Tr.termD x.terms 1)) = B2 at *
                rcases HK.out with hk3 | ⟨hk4, hl3⟩
                · have hTH := HTN.out (by omega)
                  have HTH0 : Hid _ := hTH
                  have g4 : (x.kind == 4) = false := by rw [hk3]; rfl
                  clear hTH hk3 HTN HTH H2 HOK2 HK
                  go_wp2_with fail
                  go_roundw
                  case rel => exact ⟨j + 1, by omega, by go_num, by rw [HFIN.out, HTH0.out, List.append_nil], hbw6⟩
                  case measure => simp [intOf]; omega
                · have hTH := HTH.out hk4
                  have HTH0 : Hid _ := hTH
                  have g4 : (x.kind == 4) = true := by rw [hk4]; rfl
                  obtain ⟨d0, d1⟩ := H2.out (by omega)
                  replace d0 := cell_below hbc6 d0
                  replace d1 := cell_below hbc6 d1
                  obtain ⟨ht2, ht2l⟩ := HOK2.out (by omega)
                  have HT2 : Hid _ := termText_any _ ht2 w6
                  have hs6 : ¬ 9223372036854775807 < 3 + (Sh.term (Tr.termD x.terms 2)).length := by omega
                  have hs7 : ¬ 9223372036854775807 < B2.length + (3 + (Sh.term (Tr.termD x.terms 2)).length) := by omega
                  have i2 : (2 : Int) < (x.terms.length : Int) := by omega
                  clear hTH hk4 HTN HTH H2 HOK2 HK ht2
                  generalize Sh.term (Tr.termD x.terms 2) = T2 at *
                  generalize Tr.termD x.terms 2 = t2 at *
                  go_wp2_with fail
                  refine Calls.mono HT2.out ?_
                  rintro e w7 ⟨rfl, hb7⟩
                  go_wp2_with fail
                  go_roundw
                  case rel => exact ⟨j + 1, by omega, by go_num, by rw [HFIN.out, HTH0.out]; exact third_str _ _, hbw6.trans (hb7.mono hbw6.size)⟩
                  case measure => simp [intOf]; omega
        · have hdj : decide (j < M) = false := decide_eq_false hjl
          obtain rfl : j = M := by omega
          have hs2 : ¬ 9223372036854775807 < (A ++ Sh.bodyT r.body j).length + 2 := by omega
          clear hbb hLD hLM hLa3 HN hM hbj
          generalize A ++ Sh.bodyT r.body j = B at *
          go_wp2_with fail
          go_roundw
          case rel => exact ⟨n + 1, by omega, by go_num, by rw [HST.out]; exact str_app B [46, 10], HRL.out _ hbr⟩
          case measure => simp [intOf]; omega
    · have hdk : decide (n < N) = false := decide_eq_false hlt
      obtain rfl : n = N := by omega
      clear hN hV' hbd hall hok
      go_wp2_with fail
      go_ret
      exact ⟨rfl, hb1.trans (hbo.mono hb1.size)⟩

end Go.Proofs.YtgpaleifhcdjnaaGreatDoor

/- RestTexts: the walk of the statement's function. -/
namespace Go.Proofs.YtgpaleifhcdjnaaGreatDoor
open Go.RowKit

set_option maxRecDepth 100000 in
set_option maxHeartbeats 4000000 in
theorem law_restTexts (s : ByteArray) (w : World) (hp : Pow w) :
    Calls Tryz.prog 6 #[.string s] w fun e w' => e = .returned (.bool true) ∧ Below w.heap.size w w' := by
  have HG : Hid (∀ y, Below w.heap.size w y → Calls Tryz.prog 19 #[] y fun e w' => e = .returned (.bool true) ∧ Below y.heap.size y w') := fun y hy => showBegun_any y (hp.below hy)
  have HT : Hid (∀ y, Calls Tryz.prog 18 #[] y fun e w' => e = .returned (.bool true) ∧ Below y.heap.size y w') := treeBegun_any
  have HK : Hid (∀ y, Calls Tryz.prog 17 #[] y fun e w' => e = .returned (.bool true) ∧ Below y.heap.size y w') := begun_any
  have HO : Hid (∀ y, Calls Tryz.prog 20 #[.string s] y fun e w' => ∃ ao cap, e = .returned (.tuple #[.agg #[.slice ao (Pr.parse s.data.toList).1.length cap], .int .i64 (Pr.parse s.data.toList).2.1, .int .i64 (Pr.parse s.data.toList).2.2]) ∧ RulesV w' (.slice ao (Pr.parse s.data.toList).1.length cap) (Pr.parse s.data.toList).1 ∧ Below y.heap.size y w') :=
    fun y => (ParseOf_any s y).mono fun _ _ ⟨ao, cap, he, hR, hb⟩ => ⟨ao, cap, he, hR.toV, hb⟩
  have HP : Hid (∀ y, Calls Tryz.prog 22 #[.string s] y (ParseTop (Pr.parse s.data.toList) y)) := Parse_any s
  have HC : Hid (∀ y, Calls Tryz.prog 21 #[.string s] y fun e w' => ∃ ao n cap, ∃ a b : Int, e = .returned (.tuple #[.slice ao n cap, .int .i64 a, .int .i64 b]) ∧ Wr y.heap.size w' ao n 3 2 ∧ n ≤ 5000 ∧ Below y.heap.size y w') :=
    fun y => (Scan_any s y).mono fun _ _ ⟨ao, cap, he, hown, hb⟩ => ⟨ao, _, cap, _, _, he, wr_own hown rfl, Tk.scan_length _, hb⟩
  have F4 : Hid (Fine (Pr.parse s.data.toList).1) := fine_parse s
  have FC : Hid ((Pr.parse s.data.toList).2.2 = 0 → Tr.check (Pr.parse s.data.toList).1 = 0) := parse_checked _
  have HPW : Hid (∀ y, Below w.heap.size w y → Pow y) := fun y hy => hp.below hy
  clear hp
  unfold ParseTop at HP
  generalize Pr.parse s.data.toList = P at *
  go_enter Tryz.func6, Tryz.ntmps6
  go_wp2_with fail
  refine Calls.mono (HK.out _) ?_
  rintro e w1 ⟨rfl, hb1⟩
  clear HK
  go_wp2_with fail
  refine Calls.mono (HT.out _) ?_
  rintro e w2 ⟨rfl, hb2⟩
  have hw2 := hb1.trans (hb2.mono hb1.size)
  clear HT hb1 hb2
  go_wp2_with fail
  refine Calls.mono (HG.out _ hw2) ?_
  rintro e w3 ⟨rfl, hb3⟩
  have hw3 := hw2.trans (hb3.mono hw2.size)
  clear HG hw2 hb3
  go_wp2_with fail
  refine Calls.mono (HO.out _) ?_
  rintro e w4 ⟨aoW, capW, rfl, hRW, hb4⟩
  have hw4 := hw3.trans (hb4.mono hw3.size)
  clear HO hw3 hb4
  have hw5 := hw4.alloc hw4.size (.cells #[.slice aoW P.1.length capW] 36)
  have hR5 := rulesV_below hRW ((Below.refl _ _).alloc (Nat.le_refl _) (.cells #[.slice aoW P.1.length capW] 36))
  have hX5 := heap_alloc_new w4 (.cells #[.slice aoW P.1.length capW] 36)
  clear hw4 hRW
  go_wp2_with fail
  generalize w4.alloc (.cells #[.slice aoW P.1.length capW] 36) = w5 at *
  generalize w4.heap.size = XW at *
  go_loopw [6] (fun i wr => ∃ k : Nat, k ≤ 2 ∧ i = .int .i64 k ∧ Below w5.heap.size w5 wr) (fun i _ => 2 - (intOf i).toNat)
  case atStart => exact ⟨0, by omega, rfl, Below.refl _ _⟩
  case round =>
    obtain ⟨k, hk, rfl, hbel⟩ := hrel
    by_cases hlt : k < 2
    · have hXr := (hbel.block _ (heap_lt hX5)).trans hX5
      have hRr := rulesV_below hR5 hbel
      have hwr := hw5.trans (hbel.mono hw5.size)
      have HBEL : Hid (Below w5.heap.size w5 wr) := hbel
      have g0 : decide ((k : Int) < 2) = true := decide_eq_true (by omega)
      clear hbel
      go_wp2_with fail
      refine Calls.mono (HC.out _) ?_
      rintro e w6 ⟨aoL, nL, capL, a6, b6, rfl, hWL, hnL, hb6⟩
      have hX6 := (hb6.block _ (heap_lt hXr)).trans hXr
      have hR6 := rulesV_below hRr hb6
      have HWL : Hid (Wr wr.heap.size w6 aoL nL 3 2) := hWL
      clear hXr hRr hWL HC
      go_wp2_with fail
      refine Calls.mono (HP.out _) ?_
      rintro e w7 ⟨aoT, capT, rfl, hRT, hb7⟩
      have hb67 := hb6.trans (hb7.mono hb6.size)
      have hRTm : RulesP wr.heap.size w7 (.slice aoT P.1.length capT) P.1 := hRT.mono hb6.size
      have HRT : Hid (RulesP wr.heap.size w7 (.slice aoT P.1.length capT) P.1) := hRTm
      have hX7 := (hb7.block _ (heap_lt hX6)).trans hX6
      have hR7 := rulesV_below hR6 hb7
      have hb8 : Below w7.heap.size w7 (w7.alloc (.cells #[.slice aoT P.1.length capT] 36)) := (Below.refl _ _).alloc (Nat.le_refl _) _
      have hT8 := heap_alloc_new w7 (.cells #[.slice aoT P.1.length capT] 36)
      have hX8 := (hb8.block _ (heap_lt hX7)).trans hX7
      have hR8 := rulesV_below hR7 hb8
      have hV8 := rulesV_below hRT.toV hb8
      have hb78 := hb67.trans (hb8.mono hb67.size)
      have HB78 : Hid (Below w7.heap.size w7 (w7.alloc (.cells #[.slice aoT P.1.length capT] 36))) := hb8
      have HB67 : Hid (Below w6.heap.size w6 w7) := hb7
      clear hX6 hR6 hRT hRTm HP hb6 hb7 hb8 hX7 hR7 hb67
      have g1 : (P.2.2 != P.2.2) = false := by simp
      obtain ⟨cX, _⟩ := tree_cell hX8
      obtain ⟨cT, _⟩ := tree_cell hT8
      go_wp2_with fail
      refine Calls.mono (sameTree_any P.1 P.1 true _ _ _ hV8 hR8 F4.out) ?_
      rintro e w9 ⟨he, hb9⟩
      rw [Tr.treeEq_refl] at he
      subst he
      have hX9 := (hb9.block _ (heap_lt hX8)).trans hX8
      have hT9 := (hb9.block _ (heap_lt hT8)).trans hT8
      have hR9 := rulesV_below hR8 hb9
      have hV9 := rulesV_below hV8 hb9
      have hb19 := hb78.trans (hb9.mono hb78.size)
      have HB9 : Hid (Below w7.heap.size w7 w9) := HB78.out.trans (hb9.mono HB78.out.size)
      clear cX cT hX8 hT8 hR8 hV8 hb78 hb9 HB78
      obtain ⟨cX, _⟩ := tree_cell hX9
      obtain ⟨cT, _⟩ := tree_cell hT9
      have hp9 := HPW.out _ (hwr.trans (hb19.mono hwr.size))
      go_wp2_with fail
      refine Calls.mono (Show_any P.1 _ _ hV9 hp9) ?_
      rintro e w10 ⟨rfl, hb10⟩
      have hX10 := (hb10.block _ (heap_lt hX9)).trans hX9
      have hT10 := (hb10.block _ (heap_lt hT9)).trans hT9
      have hR10 := rulesV_below hR9 hb10
      have hb110 := hb19.trans (hb10.mono hb19.size)
      have HB10 : Hid (Below w7.heap.size w7 w10) := HB9.out.trans (hb10.mono HB9.out.size)
      clear cX cT hX9 hT9 hR9 hV9 hb19 hb10 HB9 hp9
      obtain ⟨cX, _⟩ := tree_cell hX10
      obtain ⟨cT, _⟩ := tree_cell hT10
      go_upto_region 12 with fail
      go_cut [75] (fun v wx => v = .bool false ∧ wx.heap[w7.heap.size]? = some (.cells #[.slice aoT P.1.length capT] 36) ∧ Below w7.heap.size w7 wx ∧ Below wr.heap.size wr wx)
      case first =>
        by_cases hE : P.2.2 = 0
        · have hC := FC.out hE
          have g2 : (P.2.2 == 0) = true := by simpa using hE
          have g3 : (Tr.check P.1 == 0) = true := by simpa using hC
          have hs : Sh.shown P.1 = Sh.rules P.1 P.1.length := by unfold Sh.shown; rw [if_pos hC]
          have HTX : Hid (∀ y, RulesV y (.slice aoW P.1.length capW) P.1 → Calls Tryz.prog 25 #[.agg #[.slice aoW P.1.length capW]] y fun e w' => e = .returned (strV (Sh.shown P.1)) ∧ Below y.heap.size y w') := by
            intro y hy
            rw [hs]
            exact treeText_any P.1 _ y hy hC
          clear hs hC hE
          go_wp2_with fail
          refine Calls.mono (HTX.out _ hR10) ?_
          rintro e w11 ⟨rfl, hb11⟩
          have hT11 := (hb11.block _ (heap_lt hT10)).trans hT10
          go_wp2_with fail
          go_meet
          exact ⟨by simp, hT11, HB10.out.trans (hb11.mono HB10.out.size), hb110.trans (hb11.mono hb110.size)⟩
        · have g2 : (P.2.2 == 0) = false := by simpa using hE
          cases g3 : (Tr.check P.1 == 0)
          · go_wp2_with fail
            go_meet
            exact ⟨rfl, hT10, HB10.out, hb110⟩
          · go_wp2_with fail
            go_meet
            exact ⟨rfl, hT10, HB10.out, hb110⟩
      case rest =>
        obtain ⟨rfl, hTx, hb7x, hbx⟩ := hcut
        generalize wc = wx at *
        have hb6x := HB67.out.trans (hb7x.mono HB67.out.size)
        have hLx := HWL.out.below hb6x
        obtain ⟨hN, hRW, hPn⟩ := (HRT.out.below hb7x).wr F4.out
        have HF : Hid (∀ y, Sl wr.heap.size wx y → Below w5.heap.size w5 y) := fun y hy => HBEL.out.trans ((hbx.trans hy.bel).mono HBEL.out.size)
        obtain ⟨cTx, _⟩ := tree_cell hTx
        clear cX cT hX10 hT10 hR10 hb110 HB10 hb6x hb7x hbx HB67 HWL HRT HBEL hTx hwr HPW F4 FC hX5 hR5
        generalize w7.heap.size = XT at *
        generalize wr.heap.size = B at *
        have hS0 := Sl.refl B wx
        go_wp2_with fail
        go_loopw [14] (fun i wq => ∃ j : Nat, j ≤ nL ∧ i = .int .i64 j ∧ Sl B wx wq) (fun i _ => nL - (intOf i).toNat)
        case atStart => exact ⟨0, Nat.zero_le _, rfl, hS0⟩
        case round =>
          obtain ⟨j, hj, rfl, hS⟩ := hrel
          clear hS0
          by_cases hjl : j < nL
          · obtain ⟨b, rfl, ⟨v, hc⟩, hf, hbs, hset⟩ := hLx.at hS j hjl
            clear hLx hN hRW
            go_wp2_with fail
            go_roundw
            case rel => exact ⟨j + 1, by omega, by go_num, hset _⟩
            case measure => simp [intOf]; omega
          · clear hLx
            go_wp2_with fail
            go_loopw [15] (fun i wq => ∃ m : Nat, m ≤ P.1.length ∧ i = .int .i64 m ∧ Sl B wx wq) (fun i _ => P.1.length - (intOf i).toNat)
            case atStart => exact ⟨0, Nat.zero_le _, rfl, hS⟩
            case round =>
              clear hS
              obtain ⟨m, hm, rfl, hS⟩ := hrel
              have cq := hS.slice cTx
              by_cases hml : m < P.1.length
              · obtain ⟨b, rfl, ⟨v, hc⟩, hf, hbs, hset⟩ := hN.at hS m hml
                have hS1 := hset (.string ⟨#[63]⟩)
                rcases hRW with h0 | ⟨b', hb', hBb, hR⟩
                · omega
                obtain rfl : b = b' := by simpa using hb'
                obtain ⟨a1, n1, c1, a2, n2, c2, x1, hW1, hn1, x2, hW2, hn2⟩ := hR m hml
                clear hN hR hb' hset
                go_wp2_with fail
                go_loopw [16] (fun i wz => ∃ q : Nat, q ≤ n1 ∧ i = .int .i64 q ∧ Sl B wx wz) (fun i _ => n1 - (intOf i).toNat)
                case atStart => exact ⟨0, Nat.zero_le _, rfl, hS1⟩
                case round =>
                  clear hS hS1 cq hc hf hbs
                  obtain ⟨q, hq, rfl, hS⟩ := hrel
                  have cq := hS.slice cTx
                  have d1 := hS.slice x1
                  have hbs : b < wr.heap.size := World.block_lt_of_cell? _ _ d1
                  by_cases hql : q < n1
                  · obtain ⟨b1, rfl, ⟨v1, hc1⟩, hf1, hbs1, hset⟩ := hW1.at hS q hql
                    clear hW1 hW2
                    simp only [Nat.add_zero] at hc1 hf1 hset
                    go_wp2_with fail
                    go_roundw
                    case rel => exact ⟨q + 1, by omega, by go_num, hset _⟩
                    case measure => simp [intOf]; omega
                  · clear hW1
                    go_wp2_with fail
                    go_loopw [17] (fun i wz => ∃ q : Nat, q ≤ n2 ∧ i = .int .i64 q ∧ Sl B wx wz) (fun i _ => n2 - (intOf i).toNat)
                    case atStart => exact ⟨0, Nat.zero_le _, rfl, hS⟩
                    case round =>
                      clear hS cq d1 hbs hql hq
                      obtain ⟨p, hp, rfl, hS⟩ := hrel
                      have cq := hS.slice cTx
                      have d2 := hS.slice x2
                      have hbs : b < wr.heap.size := World.block_lt_of_cell? _ _ d2
                      by_cases hpl : p < n2
                      · obtain ⟨b2, rfl, ⟨v2, hc2⟩, hf2, hbs2, hset⟩ := hW2.at hS p hpl
                        clear hW2
                        simp only [Nat.add_zero] at hc2 hf2 hset
                        go_wp2_with fail
                        go_roundw
                        case rel => exact ⟨p + 1, by omega, by go_num, hset _⟩
                        case measure => simp [intOf]; omega
                      · clear hW2
                        go_wp2_with fail
                        go_roundw
                        case rel => exact ⟨m + 1, by omega, by go_num, hS⟩
                        case measure => simp [intOf]; omega
              · clear hN hRW
                have hfin := HF.out _ hS
                go_wp2_with fail
                go_roundw
                case rel => exact ⟨k + 1, by omega, by go_num, hfin⟩
                case measure => simp [intOf]; omega
    · have g0 : decide ((k : Int) < 2) = false := decide_eq_false (by omega)
      have hfin := hw5.trans (hbel.mono hw5.size)
      go_wp2_with fail
      go_ret
      exact ⟨rfl, hfin⟩

end Go.Proofs.YtgpaleifhcdjnaaGreatDoor

/- The library's table, out of the row's condition. -/
namespace Go.Proofs.YtgpaleifhcdjnaaGreatDoor
open Go.RowKit

theorem pow_type : (Tryz.prog.globals[1]?).map (·.type) = some 209 := by kernel_rfl
theorem pow_global : Tryz.prog.globalNamed "internal/strconv.uint64pow10" = some 1 := by kernel_rfl
theorem pow_data : Rows.laid_internal_strconv_uint64pow10 (H := Unit) = Lib.tabData .u64 Lib.pow10Tab := by kernel_rfl
theorem pow_vars {W : World} {ps : List MemPlace} {rest : List (String × DataW Unit)} (h : DataW.LaidVars Tryz.prog W (("internal/strconv.uint64pow10", Rows.laid_internal_strconv_uint64pow10) :: rest) ps) : Pow W := by
  obtain ⟨g, t, cs, fuel, p, q, hg, ht, hvar, hd, _, _⟩ := h
  obtain rfl : g = 1 := Option.some.inj (hg.symm.trans pow_global)
  obtain rfl : t = 209 := Option.some.inj (ht.symm.trans pow_type)
  rw [pow_data] at hd
  have hc := Lib.cells_of_tab (e := 196) (n := 20) (k := .u64) (by kernel_rfl) (by kernel_rfl) (by kernel_rfl) (by kernel_rfl) hd
  unfold Pow Lib.TabIs
  rw [hvar, ← hc]
theorem pow_laid3 {W : World} {a b : String × DataW Unit} {rest : List (String × DataW Unit)} (h : laidMet Tryz.prog (a :: b :: ("internal/strconv.uint64pow10", Rows.laid_internal_strconv_uint64pow10) :: rest) W) : Pow W := by
  obtain ⟨ps, ⟨_, _, _, _, _, q, _, _, _, _, h, _⟩, _⟩ := h
  obtain ⟨_, _, _, _, _, q2, _, _, _, _, h, _⟩ := h
  exact pow_vars h

end Go.Proofs.YtgpaleifhcdjnaaGreatDoor

/- A world in which the listed variables of the library read as the row says: the witness of the row's condition. -/
namespace Go.Proofs.YtgpaleifhcdjnaaGreatDoor
open Go

/-- It is the settled world, with the listed variables laid. -/
def IsLaid (os : Os) (W : World) : Prop :=
  W = { World.holding Tryz.prog os ⟨#[.cells #[.string ⟨#[118, 97, 108, 117, 101, 32, 111, 117, 116, 32, 111, 102, 32, 114, 97, 110, 103, 101]⟩] 223, .cells #[.string ⟨#[105, 110, 118, 97, 108, 105, 100, 32, 115, 121, 110, 116, 97, 120]⟩] 223], #[], []⟩ with heap := ((((((World.holding Tryz.prog os ⟨#[.cells #[.string ⟨#[118, 97, 108, 117, 101, 32, 111, 117, 116, 32, 111, 102, 32, 114, 97, 110, 103, 101]⟩] 223, .cells #[.string ⟨#[105, 110, 118, 97, 108, 105, 100, 32, 115, 121, 110, 116, 97, 120]⟩] 223], #[], []⟩).heap.modify 4 fun
      | .cells _ t frozen => .cells #[.int .u8 0, .int .u8 1, .int .u8 28, .int .u8 2, .int .u8 29, .int .u8 14, .int .u8 24, .int .u8 3, .int .u8 30, .int .u8 22, .int .u8 20, .int .u8 15, .int .u8 25, .int .u8 17, .int .u8 4, .int .u8 8, .int .u8 31, .int .u8 27, .int .u8 13, .int .u8 23, .int .u8 21, .int .u8 19, .int .u8 16, .int .u8 7, .int .u8 26, .int .u8 12, .int .u8 18, .int .u8 6, .int .u8 11, .int .u8 5, .int .u8 10, .int .u8 9] t frozen
      | o => o).modify 5 fun
      | .cells _ t frozen => .cells #[.int .u8 0, .int .u8 1, .int .u8 56, .int .u8 2, .int .u8 57, .int .u8 49, .int .u8 28, .int .u8 3, .int .u8 61, .int .u8 58, .int .u8 42, .int .u8 50, .int .u8 38, .int .u8 29, .int .u8 17, .int .u8 4, .int .u8 62, .int .u8 47, .int .u8 59, .int .u8 36, .int .u8 45, .int .u8 43, .int .u8 51, .int .u8 22, .int .u8 53, .int .u8 39, .int .u8 33, .int .u8 30, .int .u8 24, .int .u8 18, .int .u8 12, .int .u8 5, .int .u8 63, .int .u8 55, .int .u8 48, .int .u8 27, .int .u8 60, .int .u8 41, .int .u8 37, .int .u8 16, .int .u8 46, .int .u8 35, .int .u8 44, .int .u8 21, .int .u8 52, .int .u8 32, .int .u8 23, .int .u8 11, .int .u8 54, .int .u8 26, .int .u8 40, .int .u8 15, .int .u8 34, .int .u8 20, .int .u8 31, .int .u8 10, .int .u8 25, .int .u8 14, .int .u8 19, .int .u8 9, .int .u8 13, .int .u8 8, .int .u8 7, .int .u8 6] t frozen
      | o => o).modify 1 fun
      | .cells _ t frozen => .cells #[.int .u64 1, .int .u64 10, .int .u64 100, .int .u64 1000, .int .u64 10000, .int .u64 100000, .int .u64 1000000, .int .u64 10000000, .int .u64 100000000, .int .u64 1000000000, .int .u64 10000000000, .int .u64 100000000000, .int .u64 1000000000000, .int .u64 10000000000000, .int .u64 100000000000000, .int .u64 1000000000000000, .int .u64 10000000000000000, .int .u64 100000000000000000, .int .u64 1000000000000000000, .int .u64 10000000000000000000] t frozen
      | o => o).modify 3 fun
      | .cells _ t frozen => .cells #[.iface 221 (.pointer (some ⟨(World.holding Tryz.prog default ⟨#[], #[], []⟩).heap.size + 0, 0, none⟩))] t frozen
      | o => o).modify 2 fun
      | .cells _ t frozen => .cells #[.iface 221 (.pointer (some ⟨(World.holding Tryz.prog default ⟨#[], #[], []⟩).heap.size + 1, 0, none⟩))] t frozen
      | o => o) }
theorem isLaid (os : Os) : ∃ W, IsLaid os W := ⟨_, rfl⟩
set_option maxRecDepth 100000 in
theorem laid_met (os : Os) (W : World) (hW : IsLaid os W) (args : Array Value) : laidMet Tryz.prog Rows.restTextsRow.laid (W.forCall (fun _ _ => 0) ⟨#[], args, []⟩).memory := by
  cases hW
  exact laidMet_of_run' 8 (by kernel_rfl) (by kernel_rfl)

end Go.Proofs.YtgpaleifhcdjnaaGreatDoor

