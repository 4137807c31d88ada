/- Own texts, one behind the other (part 5). -/
import Derived.Test.YthenjegmigeieaaGreatBundleD
import Derived.Test.YthenjegmigeieaaGreatRows
import Derived.Defers
import Derived.Recover
import Derived.RegionTactic
import Derived.ChangeAlike
import Derived.Deep.Slices
import Derived.Orders
/- Package scope: a program, whole. -/
namespace Go.Proofs.YthenjegmigeieaaGreat
open Go.RowKit

/-- What stands while check goes on. -/
structure CB (w : World) (o : Obj) (M : Nat) (ns : List (List UInt8)) (wr : World) : Prop where
  bel : Below w.heap.size w wr
  box : wr.heap[w.heap.size]? = some o
  num : NumAt wr M ns
  lt : w.heap.size < M
theorem CB.below {w wr w2 : World} {o : Obj} {M : Nat} {ns : List (List UInt8)} (h : CB w o M ns wr) (hb : Below wr.heap.size wr w2) : CB w o M ns w2 :=
  ⟨h.bel.trans (hb.mono h.bel.size), (hb.block _ (heap_lt h.box)).trans h.box, h.num.below hb, h.lt⟩
theorem CB.of {w wr w2 : World} {o : Obj} {M : Nat} {ns ns' : List (List UInt8)} (h : CB w o M ns wr) (hg : wr.grownBy w2 (some M)) (hn : NumAt w2 M ns') : CB w o M ns' w2 := by
  have hlt := h.lt
  have hs := h.bel.size
  exact ⟨⟨hg.os.trans h.bel.os, hg.tape.trans h.bel.tape, hg.output.trans h.bel.output, Nat.le_trans hs hg.size, fun k hk => (hg.block k (Nat.lt_of_lt_of_le hk hs) (fun e => by injection e; omega)).trans (h.bel.block k hk)⟩,
    (hg.block _ (heap_lt h.box) (fun e => by injection e; omega)).trans h.box, hn, hlt⟩
theorem CB.start (w : World) (o : Obj) : CB w o (w.heap.size + 1) [] ((w.alloc o).alloc (.map #[] 0)) := by
  have h := two_blocks (w := w) (o1 := o) (o2 := .map #[] 0) (Below.refl _ _)
  have hn := numAt_made (w.alloc o)
  rw [show (w.alloc o).heap.size = w.heap.size + 1 by simp] at hn
  exact ⟨below_two w _ _, h.1, hn, by omega⟩
theorem strs_at {w : World} {ao : Option Addr} {l : List (List UInt8)} (h : StrsAt w ao l) (n : Nat) (hn : n < l.length) : ∃ b off, ao = some ⟨b, off, none⟩ ∧ w.cell? ⟨b, off + n, none⟩ = some (.string ⟨(Sc.strD l n).toArray⟩) := by
  rcases h with h | ⟨b, off, ha, hc⟩
  · rw [h] at hn; exact absurd hn (by simp)
  · exact ⟨b, off, ha, hc n hn⟩
theorem prules_at {w : World} {ao : Option Addr} {l : List Sc.Rule} (h : PRulesAt w ao l) (n : Nat) (hn : n < l.length) : ∃ b off, ao = some ⟨b, off, none⟩ ∧ PRuleIn w b (off + n * 5) (Sc.ruleD l n) := by
  rcases h with h | ⟨b, off, ha, hc⟩
  · rw [h] at hn; exact absurd hn (by simp)
  · exact ⟨b, off, ha, hc n hn⟩
theorem pred_drop (ar : List Int) (ns : List (List UInt8)) (j : Nat) (h : j < ns.length) : Sc.first (Sc.predErr ar ns) ((List.range ns.length).drop j) = Sc.thn (Sc.predErr ar ns j) (Sc.first (Sc.predErr ar ns) ((List.range ns.length).drop (j + 1))) := by
  rw [Sc.first_drop _ 0 _ j (by simpa using h)]
  congr 2
  simp [h]
theorem take_step (ns : List (List UInt8)) (j : Nat) (h : j < ns.length) : ns.take j ++ [Sc.strD ns j] = ns.take (j + 1) := by
  rw [List.take_succ_eq_append_getElem h]
  simp [Sc.strD, List.getD_eq_getElem?_getD, h]
theorem idx_lt {x : List UInt8} {l : List (List UInt8)} (h : l.contains x = true) : l.idxOf x < l.length := List.idxOf_lt_length_iff.mpr (by simpa using h)

set_option maxRecDepth 100000 in
set_option maxHeartbeats 4000000 in
theorem scCheck_any (p : Sc.Prog) (va vn vr : Value) (w : World) (hP : ProgV w va vn vr p) (hF : ProgFit p) :
    Calls Tryz.prog 128 #[progVal va vn vr] w fun e w' => e = finE (Sc.check p) ∧ Below w.heap.size w w' := by
  obtain ⟨ar, ns, rs⟩ := p
  obtain ⟨hA, hN, hL⟩ := hP
  have HA : Hid (IntsV w va ar) := hA
  obtain ⟨ao, cap, rfl, hA⟩ := hA
  obtain ⟨an, cn, rfl, hN⟩ := hN
  obtain ⟨al, cl, rfl, hL⟩ := hL
  have hA : IntsAt w ao ar := hA
  have hN : StrsAt w an ns := hN
  have hL : PRulesAt w al rs := hL
  have HFR : Hid (∀ i, i < rs.length → RuleFit (Sc.ruleD rs i)) := hF.rs
  clear hF
  have hmm := @run_makeMap Tryz.prog
  have hb0 : Below w.heap.size w (w.alloc (.cells #[.slice ao ar.length cap, .slice an ns.length cn, .slice al rs.length cl] 26)) := (Below.refl _ _).alloc (Nat.le_refl _) _
  have HE0 : Hid (Sc.check ⟨ar, ns, rs⟩ = if 10 < ar.length ∨ 12 < rs.length then 2 else if ¬ ns.length = ar.length then 1 else Sc.thn (Sc.first (Sc.predErr ar ns) (List.range ns.length)) (Sc.first (Sc.ruleErr ar) rs)) := rfl
  by_cases h1 : 10 < ar.length
  · have HV : Hid (Sc.check ⟨ar, ns, rs⟩ = 2) := by show _ = _; rw [HE0.out, if_pos (.inl h1)]
    have g1 : decide (10 < ar.length) = true := decide_eq_true h1
    have g1' : decide ((10 : Int) < (ar.length : Int)) = true := decide_eq_true (by omega)
    clear HE0 hA hN hL
    go_enter Tryz.func128, Tryz.ntmps128
    go_wp2_with fail
    refine (refuse_yes 2 _).mono ?_
    rintro e w1 ⟨rfl, hb1⟩
    go_wp2_with fail
    exact ⟨rfl, by rw [HV.out]; rfl, hb0.trans (hb1.mono hb0.size)⟩
  have g1 : decide (10 < ar.length) = false := decide_eq_false h1
  have g1' : decide ((10 : Int) < (ar.length : Int)) = false := decide_eq_false (by omega)
  by_cases h2 : 12 < rs.length
  · have HV : Hid (Sc.check ⟨ar, ns, rs⟩ = 2) := by show _ = _; rw [HE0.out, if_pos (.inr h2)]
    have g2 : decide (12 < rs.length) = true := decide_eq_true h2
    have g2' : decide ((12 : Int) < (rs.length : Int)) = true := decide_eq_true (by omega)
    clear HE0 hA hN hL
    go_enter Tryz.func128, Tryz.ntmps128
    go_wp2_with fail
    refine (refuse_yes 2 _).mono ?_
    rintro e w1 ⟨rfl, hb1⟩
    go_wp2_with fail
    exact ⟨rfl, by rw [HV.out]; rfl, hb0.trans (hb1.mono hb0.size)⟩
  have g2 : decide (12 < rs.length) = false := decide_eq_false h2
  have g2' : decide ((12 : Int) < (rs.length : Int)) = false := decide_eq_false (by omega)
  rw [if_neg (fun h => h.elim h1 h2)] at HE0
  by_cases h3 : ns.length = ar.length
  rotate_left
  · have HV : Hid (Sc.check ⟨ar, ns, rs⟩ = 1) := by show _ = _; rw [HE0.out, if_pos h3]
    have g3 : ((ns.length : Int) != (ar.length : Int)) = true := by simp; omega
    have g3' : (ns.length != ar.length) = true := by simp; omega
    clear HE0 hA hN hL
    go_enter Tryz.func128, Tryz.ntmps128
    go_wp2_with fail
    refine (refuse_no 2 _).mono ?_
    rintro e w1 ⟨rfl, rfl⟩
    go_wp2_with fail
    refine (refuse_yes 1 _).mono ?_
    rintro e w1 ⟨rfl, hb1⟩
    go_wp2_with fail
    exact ⟨rfl, by rw [HV.out]; rfl, hb0.trans (hb1.mono hb0.size)⟩
  rw [if_neg (fun h => h h3)] at HE0
  have H3 : Hid (ns.length = ar.length) := h3
  have g3 : ((ns.length : Int) != (ar.length : Int)) = false := by simp; omega
  have g3' : (ns.length != ar.length) = false := by simp; omega
  have hst := CB.start w (.cells #[.slice ao ar.length cap, .slice an ns.length cn, .slice al rs.length cl] 26)
  have H10 : Hid (ns.length ≤ 10) := by show _ ≤ _; omega
  clear h3
  go_enter Tryz.func128, Tryz.ntmps128
  go_wp2_with fail
  refine (refuse_no 2 _).mono ?_
  rintro e w1 ⟨rfl, rfl⟩
  go_wp2_with fail
  refine (refuse_no 1 _).mono ?_
  rintro e w1 ⟨rfl, rfl⟩
  go_wp2_with fail
  generalize w.heap.size + 1 = M at *
  go_loopw [30] (fun i wr => ∃ j : Nat, j ≤ ns.length ∧ i = .int .i64 j ∧ CB w (.cells #[.slice ao ar.length cap, .slice an ns.length cn, .slice al rs.length cl] 26) M (ns.take j) wr ∧ Sc.first (Sc.predErr ar ns) (List.range ns.length) = Sc.first (Sc.predErr ar ns) ((List.range ns.length).drop j)) (fun i _ => ns.length - (intOf i).toNat)
  case atStart => exact ⟨0, Nat.zero_le _, rfl, hst, rfl⟩
  case round =>
    clear hst
    obtain ⟨j, hj, rfl, hR, hfj⟩ := hrel
    have HFJ : Hid _ := hfj
    clear hfj
    have c0 : wr.cell? ⟨w.heap.size, 0, none⟩ = some (.slice ao ar.length cap) := by rw [Lib.cell_of_heap hR.box]; rfl
    by_cases hjl : j < ns.length
    · obtain ⟨b, off, rfl, p0⟩ := strs_at hN j hjl
      have hja : j < ar.length := by rw [← H3.out]; exact hjl
      obtain ⟨b2, off2, rfl, p1⟩ := ints_at hA j hja
      have q0 := cell_below hR.bel p0
      have q1 := cell_below hR.bel p1
      have HFD : Hid (Sc.first (Sc.predErr ar ns) (List.range ns.length) = Sc.thn (Sc.predErr ar ns j) (Sc.first (Sc.predErr ar ns) ((List.range ns.length).drop (j + 1)))) := HFJ.out.trans (pred_drop ar ns j hjl)
      have HPE : Hid (Sc.predErr ar ns j = Sc.thn (if Tr.between (Sc.intD ar j) 0 3 then 0 else 3) (Sc.thn (if Tr.isName (Sc.strD ns j) then 0 else 1) (if (ns.take j).contains (Sc.strD ns j) then 6 else 0))) := rfl
      have HTS : Hid (ns.take j ++ [Sc.strD ns j] = ns.take (j + 1)) := take_step ns j hjl
      clear p0 p1 hA hN hL HFJ
      generalize Sc.intD ar j = a at *
      generalize Sc.strD ns j = s at *
      by_cases h4 : a < 0
      · have HV : Hid (Sc.check ⟨ar, ns, rs⟩ = 3) := by show _ = _; rw [HE0.out, HFD.out, HPE.out, if_neg (by simp [Tr.between]; omega)]; rfl
        have g4 : decide (a < 0) = true := decide_eq_true h4
        clear HE0 HFD HPE
        go_wp2_with fail
        refine (refuse_yes 3 _).mono ?_
        rintro e w1 ⟨rfl, hb1⟩
        go_wp2_with fail
        exact ⟨rfl, by rw [HV.out]; rfl, hR.bel.trans (hb1.mono hR.bel.size)⟩
      have g4 : decide (a < 0) = false := decide_eq_false h4
      by_cases h4b : 3 < a
      · have HV : Hid (Sc.check ⟨ar, ns, rs⟩ = 3) := by show _ = _; rw [HE0.out, HFD.out, HPE.out, if_neg (by simp [Tr.between]; omega)]; rfl
        have g4b : decide (3 < a) = true := decide_eq_true h4b
        clear HE0 HFD HPE
        go_wp2_with fail
        refine (refuse_yes 3 _).mono ?_
        rintro e w1 ⟨rfl, hb1⟩
        go_wp2_with fail
        exact ⟨rfl, by rw [HV.out]; rfl, hR.bel.trans (hb1.mono hR.bel.size)⟩
      have g4b : decide (3 < a) = false := decide_eq_false h4b
      rw [if_pos (show Tr.between a 0 3 = true by simp [Tr.between]; omega), Sc.thn_zero] at HPE
      go_wp2_with fail
      refine (refuse_no 3 _).mono ?_
      rintro e w1 ⟨rfl, rfl⟩
      go_wp2_with fail
      refine Calls.mono (scName_any s _) ?_
      rintro e w2 ⟨he, hb2⟩
      have hR2 := hR.below hb2
      cases h5 : Tr.isName s
      · rw [h5] at he
        subst he
        have HV : Hid (Sc.check ⟨ar, ns, rs⟩ = 1) := by show _ = _; rw [HE0.out, HFD.out, HPE.out, h5]; rfl
        clear HE0 HFD HPE
        go_wp2_with fail
        refine (refuse_yes 1 _).mono ?_
        rintro e w1 ⟨rfl, hb1⟩
        go_wp2_with fail
        exact ⟨rfl, by rw [HV.out]; rfl, hR2.bel.trans (hb1.mono hR2.bel.size)⟩
      rw [h5] at he
      subst he
      have h12 : s.length ≤ 5000 := by
        have : Tk.isTok 1 s = true := by
          unfold Tr.isName at h5
          simp at h5
          exact h5.1
        have := Tk.isTok_len _ _ this
        omega
      rw [h5, if_pos rfl, Sc.thn_zero] at HPE
      clear hR hb2 q0 q1 c0 h5
      go_wp2_with fail
      refine (refuse_no 1 _).mono ?_
      rintro e w1 ⟨rfl, rfl⟩
      go_wp2_with fail
      refine Calls.mono (of_any M (ns.take j) s _ hR2.num h12 (by have := H10.out; rw [List.length_take]; omega)) ?_
      rintro e w3 ⟨rfl, hn3, hg3⟩
      have hlt : (ns.take j).length = j := by rw [List.length_take]; omega
      cases h6 : (ns.take j).contains s
      · rw [h6, if_neg (by simp), HTS.out] at hn3
        have hR3 := hR2.of hg3 hn3
        have hix : (ns.take j).idxOf s = j := by rw [idx_none (by simpa using h6), hlt]
        rw [hix]
        have g6 : ((j : Int) != (j : Int)) = false := by simp
        have HV : Hid (Sc.first (Sc.predErr ar ns) (List.range ns.length) = Sc.first (Sc.predErr ar ns) ((List.range ns.length).drop (j + 1))) := by show _ = _; rw [HFD.out, HPE.out, h6]; rfl
        clear HFD HPE hn3 hg3 hR2 hix h6 hlt HTS
        go_wp2_with fail
        refine (refuse_no 6 _).mono ?_
        rintro e w1 ⟨rfl, rfl⟩
        go_wp2_with fail
        go_roundw
        case rel => exact ⟨j + 1, by omega, by go_num, hR3, HV.out⟩
        case measure => simp [intOf]; omega
      · rw [h6, if_pos rfl] at hn3
        have hR3 := hR2.of hg3 hn3
        have hix := idx_lt h6
        rw [hlt] at hix
        have g6 : (((ns.take j).idxOf s : Int) != (j : Int)) = true := by simp; omega
        have HV : Hid (Sc.check ⟨ar, ns, rs⟩ = 6) := by show _ = _; rw [HE0.out, HFD.out, HPE.out, h6]; rfl
        clear HFD HPE hn3 hg3 hR2 h6 HE0 HTS
        generalize (ns.take j).idxOf s = ix at *
        have g6' : (ix != j) = true := by simp; omega
        go_wp2_with fail
        refine (refuse_yes 6 _).mono ?_
        rintro e w1 ⟨rfl, hb1⟩
        go_wp2_with fail
        exact ⟨rfl, by rw [HV.out]; rfl, hR3.bel.trans (hb1.mono hR3.bel.size)⟩
    · have hz : Sc.first (Sc.predErr ar ns) (List.range ns.length) = 0 := by rw [HFJ.out, List.drop_of_length_le (by simp; omega)]; rfl
      rw [hz, Sc.thn_zero] at HE0
      generalize hj0 : j = j0 at *
      clear hj0
      have c2 : wr.cell? ⟨w.heap.size, 2, none⟩ = some (.slice al rs.length cl) := by rw [Lib.cell_of_heap hR.box]; rfl
      clear HFJ hz hA hN
      go_wp2_with fail
      go_loopw [64] (fun i wr => ∃ j : Nat, j ≤ rs.length ∧ i = .int .i64 j ∧ CB w (.cells #[.slice ao ar.length cap, .slice an ns.length cn, .slice al rs.length cl] 26) M (ns.take j0) wr ∧ Sc.first (Sc.ruleErr ar) rs = Sc.first (Sc.ruleErr ar) (rs.drop j)) (fun i _ => rs.length - (intOf i).toNat)
      case atStart => exact ⟨0, Nat.zero_le _, rfl, hR, rfl⟩
      case round =>
        clear hR c0 c2
        obtain ⟨j, hj, rfl, hR, hfj⟩ := hrel
        have HFJ : Hid _ := hfj
        clear hfj
        by_cases hjl : j < rs.length
        · obtain ⟨b, off, rfl, p0, ⟨vt, p1, hT⟩, p2, ⟨vb, p3, hB⟩, p4⟩ := prules_at hL j hjl
          have HT : Hid (PTermsV w vt (Sc.ruleD rs j).terms) := hT
          have HB : Hid (PLitsV w vb (Sc.ruleD rs j).body) := hB
          obtain ⟨at_, ct, rfl, _, _⟩ := hT
          obtain ⟨ab, cb, rfl, _⟩ := hB
          have q0 := cell_below hR.bel p0
          have q1 := cell_below hR.bel p1
          have q2 := cell_below hR.bel p2
          have q3 := cell_below hR.bel p3
          have q4 := cell_below hR.bel p4
          have HFD : Hid (Sc.first (Sc.ruleErr ar) rs = Sc.thn (Sc.ruleErr ar (Sc.ruleD rs j)) (Sc.first (Sc.ruleErr ar) (rs.drop (j + 1)))) := HFJ.out.trans (Sc.first_drop _ _ _ j hjl)
          have HFI : Hid (RuleFit (Sc.ruleD rs j)) := HFR.out j hjl
          have hb1 : Below wr.heap.size wr (wr.alloc (.cells #[.int .i64 (Sc.ruleD rs j).pred, .slice at_ (Sc.ruleD rs j).terms.length ct, .int .i64 (Sc.ruleD rs j).fold, .slice ab (Sc.ruleD rs j).body.length cb, .int .i64 (Sc.ruleD rs j).vars] 40)) := (Below.refl _ _).alloc (Nat.le_refl _) _
          have hR1 := hR.below hb1
          clear p0 p1 p2 p3 p4 HFJ hL hb1
          generalize hx : Sc.ruleD rs j = x at *
          clear hx
          have c0 : (wr.alloc (.cells #[.int .i64 x.pred, .slice at_ x.terms.length ct, .int .i64 x.fold, .slice ab x.body.length cb, .int .i64 x.vars] 40)).cell? ⟨w.heap.size, 0, none⟩ = some (.slice ao ar.length cap) := by rw [Lib.cell_of_heap hR1.box]; rfl
          have c1 : (wr.alloc (.cells #[.int .i64 x.pred, .slice at_ x.terms.length ct, .int .i64 x.fold, .slice ab x.body.length cb, .int .i64 x.vars] 40)).cell? ⟨w.heap.size, 1, none⟩ = some (.slice an ns.length cn) := by rw [Lib.cell_of_heap hR1.box]; rfl
          have c2 : (wr.alloc (.cells #[.int .i64 x.pred, .slice at_ x.terms.length ct, .int .i64 x.fold, .slice ab x.body.length cb, .int .i64 x.vars] 40)).cell? ⟨w.heap.size, 2, none⟩ = some (.slice (some ⟨b, off, none⟩) rs.length cl) := by rw [Lib.cell_of_heap hR1.box]; rfl
          go_wp2_with fail
          refine Calls.mono (checkRule_any ar _ _ _ x _ _ _ (intsV_below HA.out hR1.bel) (ptermsV_below HT.out hR1.bel) (plitsV_below HB.out hR1.bel) HFI.out) ?_
          rintro e w2 ⟨he, hb2⟩
          by_cases h9 : Sc.ruleErr ar x = 0
          rotate_left
          · have HV : Hid (Sc.check ⟨ar, ns, rs⟩ = Sc.ruleErr ar x) := by show _ = _; rw [HE0.out, HFD.out, Sc.thn_ne _ h9]
            rw [finE_ne h9] at he
            subst he
            clear HE0 HFD
            go_wp2_with fail
            exact ⟨rfl, by rw [HV.out, finE_ne h9], hR1.bel.trans (hb2.mono hR1.bel.size)⟩
          rw [h9, finE_zero] at he
          subst he
          have hR2 := hR1.below hb2
          have HV : Hid (Sc.first (Sc.ruleErr ar) rs = Sc.first (Sc.ruleErr ar) (rs.drop (j + 1))) := by show _ = _; rw [HFD.out, h9, Sc.thn_zero]
          clear HFD HT HB HFI hb2 h9 hR1 q0 q1 q2 q3 q4 c0 c1 c2
          go_wp2_with fail
          go_roundw
          case rel => exact ⟨j + 1, by omega, by go_num, hR2, HV.out⟩
          case measure => simp [intOf]; omega
        · have HV : Hid (Sc.check ⟨ar, ns, rs⟩ = 0) := by show _ = _; rw [HE0.out, HFJ.out, List.drop_of_length_le (by omega)]; rfl
          clear HE0 hL
          go_wp2_with fail
          exact ⟨rfl, .tuple #[], by simp [results, Tryz.results128], by rw [HV.out]; rfl, hR.bel⟩

end Go.Proofs.YthenjegmigeieaaGreat

/- Package scope: what is caught. -/
namespace Go.Proofs.YthenjegmigeieaaGreat
open Go.RowKit

set_option maxRecDepth 100000 in
set_option maxHeartbeats 400000 in
theorem catchS_idle (pf : Addr) (w : World) :
    CallsD Tryz.prog 172 #[.pointer (some pf)] .returning w fun e u' w' => e = .returned (.tuple #[]) ∧ u' = .returning ∧ w' = w := by
  refine callsD_of_wpS Tryz.func172 rfl fun c₀ cs hu => ?_
  apply wpS_seq
  apply wpS_region
  simp [wpOpsS, go_sem, recoverD, hu, Tryz.ntmps172, Exit.thenS]
  refine wpS_of_wp ?_
  go_wp2
  refine ⟨rfl, .returning, ?_, .tuple #[], ?_, rfl, rfl, rfl⟩
  · rw [← hu]
  · simp [results, Tryz.results172]

set_option maxRecDepth 100000 in
set_option maxHeartbeats 400000 in
theorem catchS_panicking (bf : Nat) (g0 g1 : Value) (a c : Int) (older : List PanicEntry) (w : World)
    (hg0 : w.cell? ⟨bf, 0, none⟩ = some g0) (hg1 : w.cell? ⟨bf, 1, none⟩ = some g1) (fg0 : w.frozen? ⟨bf, 0, none⟩ = false) (fg1 : w.frozen? ⟨bf, 1, none⟩ = false) :
    CallsD Tryz.prog 172 #[.pointer (some ⟨bf, 0, none⟩)] (.panicking ({ v := .iface 168 (.agg #[.int .i64 a, .int .i64 c]), recovered := false } :: older)) w fun e u' w' =>
      e = .returned (.tuple #[]) ∧ u' = .panicking ({ v := .iface 168 (.agg #[.int .i64 a, .int .i64 c]), recovered := true } :: older) ∧
      w'.cell? ⟨bf, 0, none⟩ = some (.int .i64 a) ∧ w'.cell? ⟨bf, 1, none⟩ = some (.int .i64 c) ∧ w.grownBy w' (some bf) ∧ w'.heap.size = w.heap.size := by
  have hta : ∀ w : World, (Instr.typeAssert (.iface 168 (.agg #[.int .i64 a, .int .i64 c])) 20 168 false).run Tryz.prog w = .ok (.agg #[.int .i64 a, .int .i64 c]) w := fun _ => by kernel_rfl
  refine callsD_of_wpS Tryz.func172 rfl fun c₀ cs hu => ?_
  apply wpS_seq
  apply wpS_region
  simp [wpOpsS, go_sem, recoverD, hu, Tryz.ntmps172, Exit.thenS]
  refine wpS_of_wp ?_
  go_wp2
  refine ⟨rfl, _, rfl, .tuple #[], ?_, rfl, rfl, ?_, ?_, ?_, ?_⟩
  · simp [results, Tryz.results172]
  · simp [go_sem, hg0]
  · simp [go_sem, hg1]
  · exact grownBy_trans (grownBy_set _ _) (grownBy_set _ _)
  · simp

theorem enters142 : Enters 142 := enters_of Tryz.func142 (by kernel_rfl) rfl
/-- How what is caught ends. -/
def endE (a c : Int) : Ending := if c = 0 then goneOn else gaveF a c

/-- caught: the fault with which something gave up. -/
def CaughtEnd (a c : Int) (row : Option Nat) (Z : World → Prop) (w : World) (e : Ending) (w' : World) : Prop :=
  e = .returned (.agg #[.int .i64 (if c = 0 then 0 else a), .int .i64 c]) ∧ w.grownBy w' row ∧ Z w'

theorem grow_trans {w u v : World} {row : Option Nat} (o : Obj) (hu : (w.alloc o).grownBy u row) (hv : u.grownBy v (some w.heap.size)) : w.grownBy v row := by
  have hs : (w.alloc o).heap.size = w.heap.size + 1 := by simp
  refine ⟨hv.os.trans hu.os, hv.tape.trans hu.tape, hv.output.trans hu.output, Nat.le_trans (by rw [← Nat.succ_le_succ_iff]; have := hu.size; omega) hv.size, fun k hk hne => ?_⟩
  have h1 := hu.block k (by omega) hne
  have h2 := hv.block k (by have := hu.size; omega) (fun e => by injection e; omega)
  rw [h2, h1]
  exact ((Below.refl _ _).alloc (Nat.le_refl _) o).block k hk

set_option maxRecDepth 100000 in
set_option maxHeartbeats 1000000 in
theorem caught_any (G : Nat) (caps : Array Value) (row : Option Nat) (a c : Int) (Z : World → Prop) (w : World) (hE : Enters G) (hrow : ∀ k, row = some k → k < w.heap.size)
    (hZ : ∀ u v : World, Z u → v.heap.size = u.heap.size → (∀ k, ¬ k = w.heap.size → v.heap[k]? = u.heap[k]?) → Z v)
    (hdo : Calls Tryz.prog G caps (w.alloc (.cells #[.int .i64 0, .int .i64 0] 168)) fun e w' => e = endE a c ∧ (w.alloc (.cells #[.int .i64 0, .int .i64 0] 168)).grownBy w' row ∧ Z w') :
    Calls Tryz.prog 126 #[.func (.func G) #[] caps] w (CaughtEnd a c row Z w) := by
  have hmf : ∀ (fn : Fn) (first cap : Array Value) (w : World), (Instr.makeFunc fn first cap).run Tryz.prog w = .ok (.func fn first cap) w := fun _ _ _ _ => rfl
  have he := hE
  unfold Enters at he
  have hBx := heap_alloc_new w (.cells #[.int .i64 0, .int .i64 0] 168)
  go_enter_defers Tryz.func126, Tryz.ntmps126
  go_wp2_with fail
  refine Calls.mono hdo ?_
  rintro e w1 ⟨rfl, hg, hz⟩
  have hB1 := (hg.block _ (heap_lt hBx) (fun e => Nat.lt_irrefl _ (hrow _ e.symm))).trans hBx
  have g0 : w1.cell? ⟨w.heap.size, 0, none⟩ = some (.int .i64 0) := by rw [Lib.cell_of_heap hB1]; rfl
  have g1 : w1.cell? ⟨w.heap.size, 1, none⟩ = some (.int .i64 0) := by rw [Lib.cell_of_heap hB1]; rfl
  have f0 : w1.frozen? ⟨w.heap.size, 0, none⟩ = false := Lib.frozen_of_heap hB1 0
  have f1 : w1.frozen? ⟨w.heap.size, 1, none⟩ = false := Lib.frozen_of_heap hB1 1
  clear hdo hBx hB1 he hmf
  unfold endE
  by_cases hc : c = 0
  · subst hc
    rw [if_pos rfl]
    go_wp2_with fail
    refine leaves_cons (f := 172) (args := #[.pointer (some ⟨w.heap.size, 0, none⟩)]) (by simp) (by simp [go_sem]) ?_
    refine (catchS_idle _ _).mono ?_
    rintro e u' w2 ⟨rfl, rfl, rfl⟩
    refine ⟨.agg #[.int .i64 0, .int .i64 0], by simp [results, Tryz.results126, go_sem, g0, g1], rfl, ?_, ?_⟩
    · exact grow_trans _ hg (grownBy_trans (grownBy_set _ _) (grownBy_set _ _))
    · exact hZ _ _ hz (by simp) (fun k hk => by rw [Below.heap_setCell _ _ _ _ hk, Below.heap_setCell _ _ _ _ hk])
  · rw [if_neg hc]
    go_wp2_with fail
    refine leaves_cons (f := 172) (args := #[.pointer (some ⟨w.heap.size, 0, none⟩)]) (by simp) (by simp [go_sem]) ?_
    refine (catchS_panicking w.heap.size _ _ a c [] w1 g0 g1 f0 f1).mono ?_
    rintro e u' w2 ⟨rfl, rfl, k1, k2, hg2, hs2⟩
    refine ⟨.agg #[.int .i64 a, .int .i64 c], by simp [results, Tryz.results126, go_sem, k1, k2], by rw [if_neg hc], ?_, ?_⟩
    · exact grow_trans _ hg hg2
    · refine hZ _ _ hz hs2 (fun k hk => ?_)
      rcases Nat.lt_or_ge k w1.heap.size with h | h
      · exact hg2.block k h (fun e => by injection e with e; exact hk e)
      · rw [Array.getElem?_eq_none h, Array.getElem?_eq_none (by omega)]

theorem below_of_grown {w w' : World} (h : w.grownBy w' none) : Below w.heap.size w w' := ⟨h.os, h.tape, h.output, h.size, fun k hk => h.block k hk (fun e => by cases e)⟩
theorem fldF (a b : Value) (w : World) : (Instr.field 168 (.agg #[a, b]) 1).run Tryz.prog w = .ok b w := by kernel_rfl
set_option maxRecDepth 100000 in
set_option maxHeartbeats 400000 in
theorem check1_any (p : Sc.Prog) (va vn vr : Value) (X : Nat) (w : World) (hX : w.heap[X]? = some (.cells #[va, vn, vr] 26)) (hP : ProgV w va vn vr p) (hF : ProgFit p) :
    Calls Tryz.prog 142 #[.pointer (some ⟨X, 0, none⟩)] w fun e w' => e = finE (Sc.check p) ∧ Below w.heap.size w w' := by
  have c0 : w.cell? ⟨X, 0, none⟩ = some va := by rw [Lib.cell_of_heap hX]; rfl
  have c1 : w.cell? ⟨X, 1, none⟩ = some vn := by rw [Lib.cell_of_heap hX]; rfl
  have c2 : w.cell? ⟨X, 2, none⟩ = some vr := by rw [Lib.cell_of_heap hX]; rfl
  go_enter Tryz.func142, Tryz.ntmps142
  go_wp2_with fail
  refine Calls.mono (scCheck_any p va vn vr _ hP hF) ?_
  rintro e w1 ⟨rfl, hb⟩
  by_cases h : Sc.check p = 0
  · rw [h, finE_zero]
    go_wp2_with fail
    exact ⟨rfl, .tuple #[], by simp [results, Tryz.results142], by rw [h]; rfl, hb⟩
  · rw [finE_ne h]
    go_wp2_with fail
    exact ⟨rfl, (finE_ne h).symm, hb⟩

set_option maxRecDepth 100000 in
set_option maxHeartbeats 400000 in
theorem ScCheck_any (p : Sc.Prog) (va vn vr : Value) (w : World) (hP : ProgV w va vn vr p) (hF : ProgFit p) :
    Calls Tryz.prog 97 #[progVal va vn vr] w fun e w' => e = .returned (.int .i64 (Sc.check p)) ∧ Below w.heap.size w w' := by
  obtain ⟨a0, n0, rfl, _⟩ := id hP.ar
  obtain ⟨a1, n1, rfl, _⟩ := id hP.nm
  obtain ⟨a2, n2, rfl, _⟩ := id hP.rl
  have hmf : ∀ (fn : Fn) (first cap : Array Value) (w : World), (Instr.makeFunc fn first cap).run Tryz.prog w = .ok (.func fn first cap) w := fun _ _ _ _ => rfl
  have hb0 : ∀ (u : World) (o : Obj), Below u.heap.size u (u.alloc o) := fun u o => (Below.refl _ _).alloc (Nat.le_refl _) o
  have hX := heap_alloc_new w (.cells #[.slice a0 p.arity.length n0, .slice a1 p.names.length n1, .slice a2 p.rules.length n2] 26)
  have hP1 := hP.below (hb0 w (.cells #[.slice a0 p.arity.length n0, .slice a1 p.names.length n1, .slice a2 p.rules.length n2] 26))
  have HB := hb0 w (.cells #[.slice a0 p.arity.length n0, .slice a1 p.names.length n1, .slice a2 p.rules.length n2] 26)
  go_enter Tryz.func97, Tryz.ntmps97
  go_wp2_with fail
  generalize w.alloc (.cells #[.slice a0 p.arity.length n0, .slice a1 p.names.length n1, .slice a2 p.rules.length n2] 26) = w1 at *
  refine Calls.mono (caught_any 142 _ none 0 (Sc.check p) (fun _ => True) w1 enters142 (fun _ e => by cases e) (fun _ _ _ _ _ => trivial) ?_) ?_
  · refine Calls.mono (check1_any p _ _ _ w.heap.size _ (((hb0 w1 _).block _ (heap_lt hX)).trans hX) (hP1.below (hb0 w1 _)) hF) ?_
    rintro e w2 ⟨rfl, hb⟩
    exact ⟨rfl, grownBy_of_below hb _, trivial⟩
  · rintro e w2 ⟨rfl, hg, _⟩
    have hbb := HB.trans ((below_of_grown hg).mono HB.size)
    go_wp2_with fail
    simp only [fldF]
    go_wp2_with fail
    go_ret
    exact ⟨rfl, hbb⟩

end Go.Proofs.YthenjegmigeieaaGreat

/- Package strata: raise. -/
namespace Go.Proofs.YthenjegmigeieaaGreat
open Go.RowKit Go.Shelf

attribute [local go_sem] Oper.semAt_some

namespace St
/-- A rule whose head, and all that it hangs on, are there. -/
structure RuleIn (n : Nat) (r : Sc.Rule) : Prop where
  h0 : 0 ≤ r.pred
  h1 : r.pred < (n : Int)
  hb : Bound n r.body
  hl : r.body.length ≤ 4
def edgesOf (l : List Sc.Rule) : List Fx.Edge := l.flatMap ruleE
theorem edgesOf_snoc (l : List Sc.Rule) (r : Sc.Rule) : edgesOf (l ++ [r]) = edgesOf l ++ ruleE r := by unfold edgesOf; rw [List.flatMap_append]; simp
theorem ruleE_length (r : Sc.Rule) : (ruleE r).length ≤ r.body.length := by unfold ruleE; rw [List.length_map]; exact List.length_filter_le _ _
theorem ruleE_one {r : Sc.Rule} : ∀ e, e ∈ ruleE r → e.2.2 ≤ 1 := fun e he => by
  unfold ruleE at he
  obtain ⟨x, _, rfl⟩ := List.mem_map.mp he
  rcases strict01 r x with h | h <;> simp [h]
end St

/-- Where raise stands: the row of levels, the two boxes; all else is as it was. -/
structure RSt (w : World) (LB n cap : Nat) (W : World) (cur : List Int) (fl : Bool) : Prop where
  gr : w.grownBy W (some LB)
  row : W.heap[LB]? = some (.cells (intRow cur) 3)
  box : W.heap[w.heap.size]? = some (.cells #[.slice (some ⟨LB, 0, none⟩) n cap] 22)
  flag : W.heap[w.heap.size + 1]? = some (.cells #[.bool fl] 4)

theorem box_cell {W : World} {b : Nat} {v : Value} {t : TypeId} (h : W.heap[b]? = some (.cells #[v] t)) : W.cell? ⟨b, 0, none⟩ = some v := by rw [Lib.cell_of_heap h]; rfl
/-- The boxes of one rule, laid. -/
structure RMem (wr W2 : World) (rb : Obj) : Prop where
  bel : Below wr.heap.size wr W2
  qb : W2.heap[wr.heap.size]? = some rb
  rb : W2.heap[wr.heap.size + 1]? = some rb
  sz : W2.heap.size = wr.heap.size + 2
theorem raise_mem (wr W2 : World) (rb : Obj) (h2 : W2 = (wr.alloc rb).alloc rb) : RMem wr W2 rb := by
  subst h2
  have b1 := (Below.refl wr.heap.size wr).alloc (Nat.le_refl _) rb
  have p1 := heap_alloc_new wr rb
  have s1 : (wr.alloc rb).heap.size = wr.heap.size + 1 := by simp
  generalize wr.alloc rb = x1 at *
  have b2 := (Below.refl x1.heap.size x1).alloc (Nat.le_refl _) rb
  have p2 := heap_alloc_new x1 rb
  refine ⟨b1.trans (b2.mono b1.size), (b2.block _ (by omega)).trans p1, by rw [← s1]; exact p2, by simp [s1]⟩

/-- What a pair says. -/
def edgeOf {n : Nat} (h : Nat) (p : HP n) : Fx.Edge := (h, p.1.1.toNat, p.1.2)
/-- Between two rounds of the loop over what a rule hangs on. -/
structure RIn (w wr W2 : World) (LB n cap : Nat) (rb : Obj) (ds : List Deferred) (l : List Int) (E : List Fx.Edge) (h : Nat) {np : Nat} (pre : List (HP np)) (W : World) : Prop where
  st : RSt w LB n cap W (Fx.round (E ++ pre.map (edgeOf h)) l) (decide (Fx.round (E ++ pre.map (edgeOf h)) l ≠ l))
  qb : W.heap[wr.heap.size]? = some rb
  mks : MarksL (w.heap.size + 2) W ds
  sz : W2.heap.size ≤ W.heap.size
theorem RIn_start {w wr W2 : World} {LB n cap : Nat} {rb : Obj} {ds : List Deferred} {l : List Int} {E : List Fx.Edge} {h np : Nat} (hS : RSt w LB n cap wr (Fx.round E l) (decide (Fx.round E l ≠ l))) (hM : MarksL (w.heap.size + 2) wr ds) (hW : RMem wr W2 rb) : RIn w wr W2 LB n cap rb ds l E h ([] : List (HP np)) W2 := by
  have h1 := Nat.lt_of_lt_of_le (Array.getElem?_eq_some_iff.mp hS.flag).1 (Nat.le_refl _)
  refine ⟨?_, hW.qb, hM.keep fun D _ _ hD => (hW.bel.block D (Array.getElem?_eq_some_iff.mp hD).1).trans hD, Nat.le_refl _⟩
  rw [List.map_nil, List.append_nil]
  refine ⟨⟨hW.bel.os.trans hS.gr.os, hW.bel.tape.trans hS.gr.tape, hW.bel.output.trans hS.gr.output, Nat.le_trans hS.gr.size hW.bel.size, fun j hj hn => (hW.bel.block j (Nat.lt_of_lt_of_le hj hS.gr.size)).trans (hS.gr.block j hj hn)⟩, (hW.bel.block _ (Array.getElem?_eq_some_iff.mp hS.row).1).trans hS.row, (hW.bel.block _ (Array.getElem?_eq_some_iff.mp hS.box).1).trans hS.box, (hW.bel.block _ h1).trans hS.flag⟩
theorem RIn_own {w wr W2 : World} {LB n cap : Nat} {rb : Obj} {ds : List Deferred} {l : List Int} {np : Nat} {c0 : List Int} {f0 : Bool} (hS : RSt w LB n cap wr c0 f0) (hM : MarksL (w.heap.size + 2) wr ds) (hW : RMem wr W2 rb) (E : List Fx.Edge) (h : Nat) :
    OwnFrom W2.heap.size (fun (pre : List (HP np)) W => RIn w wr W2 LB n cap rb ds l E h pre W) := by
  intro pre A B row hI hg hr
  have hsz := hW.sz
  have hgs := hS.gr.size
  have hfl := (Array.getElem?_eq_some_iff.mp hS.flag).1
  have hrw := (Array.getElem?_eq_some_iff.mp hS.row).1
  have keep : ∀ j, j < W2.heap.size → B.heap[j]? = A.heap[j]? := fun j hj => hg.block j (Nat.lt_of_lt_of_le hj hI.sz) (fun e => by have := (hr j e.symm).1; omega)
  refine ⟨⟨⟨hg.os.trans hI.st.gr.os, hg.tape.trans hI.st.gr.tape, hg.output.trans hI.st.gr.output, Nat.le_trans hI.st.gr.size hg.size, fun j hj hn => (keep j (by omega)).trans (hI.st.gr.block j hj hn)⟩, (keep _ (by omega)).trans hI.st.row, (keep _ (by omega)).trans hI.st.box, (keep _ (by omega)).trans hI.st.flag⟩, (keep _ (by omega)).trans hI.qb, hI.mks.keep fun D _ hm hD => ?_, Nat.le_trans hI.sz hg.size⟩
  have := (Array.getElem?_eq_some_iff.mp (hM.mem D hm)).1
  exact (keep D (by omega)).trans hD

theorem round_pre {np : Nat} (E : List Fx.Edge) (h : Nat) (pre : List (HP np)) (x : HP np) : E ++ (pre ++ [x]).map (edgeOf h) = (E ++ pre.map (edgeOf h)) ++ [edgeOf h x] := by rw [List.map_append, List.append_assoc]; rfl
section
variable {w wr W2 W : World} {LB n cap : Nat} {rb : Obj} {ds : List Deferred} {l : List Int} {E : List Fx.Edge} {h np : Nat} {pre : List (HP np)}
theorem RIn_no (hI : RIn w wr W2 LB n cap rb ds l E h pre W) (x : HP np) (hh : h < l.length) (hno : ¬ (Fx.round (E ++ pre.map (edgeOf h)) l).getD h 0 < (Fx.round (E ++ pre.map (edgeOf h)) l).getD x.1.1.toNat 0 + x.1.2) : RIn w wr W2 LB n cap rb ds l E h (pre ++ [x]) W := by
  refine ⟨?_, hI.qb, hI.mks, hI.sz⟩
  rw [round_pre, Fx.rose_snoc _ _ _ hh, Fx.round_snoc]
  have h1 : Fx.step (Fx.round (E ++ pre.map (edgeOf h)) l) (edgeOf h x) = Fx.round (E ++ pre.map (edgeOf h)) l := by unfold Fx.step; exact if_neg hno
  have h2 : decide ((Fx.round (E ++ pre.map (edgeOf h)) l).getD (edgeOf h x).1 0 < (Fx.round (E ++ pre.map (edgeOf h)) l).getD (edgeOf h x).2.1 0 + (edgeOf h x).2.2) = false := decide_eq_false hno
  rw [h1, h2, Bool.or_false]
  exact hI.st
theorem RIn_yes (hI : RIn w wr W2 LB n cap rb ds l E h pre W) (x : HP np) (hh : h < l.length) (hLw : LB < w.heap.size) (hwr : w.heap.size + 2 ≤ wr.heap.size) (hyes : (Fx.round (E ++ pre.map (edgeOf h)) l).getD h 0 < (Fx.round (E ++ pre.map (edgeOf h)) l).getD x.1.1.toNat 0 + x.1.2) :
    RIn w wr W2 LB n cap rb ds l E h (pre ++ [x]) ((W.setCell ⟨LB, h, none⟩ (.int .i64 ((Fx.round (E ++ pre.map (edgeOf h)) l).getD x.1.1.toNat 0 + x.1.2))).setCell ⟨w.heap.size + 1, 0, none⟩ (.bool true)) := by
  have other : ∀ j, ¬ j = LB → ¬ j = w.heap.size + 1 → ((W.setCell ⟨LB, h, none⟩ (.int .i64 ((Fx.round (E ++ pre.map (edgeOf h)) l).getD x.1.1.toNat 0 + x.1.2))).setCell ⟨w.heap.size + 1, 0, none⟩ (.bool true)).heap[j]? = W.heap[j]? := fun j h1 h2 => by rw [heap_set_other h2, heap_set_other h1]
  have h2 : decide ((Fx.round (E ++ pre.map (edgeOf h)) l).getD (edgeOf h x).1 0 < (Fx.round (E ++ pre.map (edgeOf h)) l).getD (edgeOf h x).2.1 0 + (edgeOf h x).2.2) = true := decide_eq_true hyes
  have h1 : Fx.step (Fx.round (E ++ pre.map (edgeOf h)) l) (edgeOf h x) = (Fx.round (E ++ pre.map (edgeOf h)) l).set h ((Fx.round (E ++ pre.map (edgeOf h)) l).getD x.1.1.toNat 0 + x.1.2) := by unfold Fx.step; exact if_pos hyes
  refine ⟨?_, (other _ (by omega) (by omega)).trans hI.qb, hI.mks.keep fun D hD hm hd => (other D (by omega) (by omega)).trans hd, ?_⟩
  · rw [round_pre, Fx.rose_snoc _ _ _ hh, Fx.round_snoc, h1, h2, Bool.or_true]
    refine ⟨⟨hI.st.gr.os, hI.st.gr.tape, hI.st.gr.output, ?_, fun j hj hn => ?_⟩, ?_, (other _ (by omega) (by omega)).trans hI.st.box, ?_⟩
    · have := hI.st.gr.size; simpa using this
    · have hjl : ¬ j = LB := fun e => hn (by rw [e])
      exact (other j hjl (by omega)).trans (hI.st.gr.block j hj hn)
    · rw [heap_set_other (by omega)]
      exact intRow_set hI.st.row _ _
    · have hf : (W.setCell ⟨LB, h, none⟩ (.int .i64 ((Fx.round (E ++ pre.map (edgeOf h)) l).getD x.1.1.toNat 0 + x.1.2))).heap[w.heap.size + 1]? = some (.cells #[.bool _] 4) := (heap_set_other (by omega)).trans hI.st.flag
      rw [Lib.heap_setCell_same hf]
      rfl
  · have := hI.sz; simpa using this
end
theorem edgesOf_length : ∀ (l : List Sc.Rule), (∀ r, r ∈ l → r.body.length ≤ 4) → (St.edgesOf l).length ≤ 4 * l.length
  | [], _ => Nat.zero_le _
  | r :: l, h => by
    have ih := edgesOf_length l (fun x hx => h x (List.mem_cons_of_mem _ hx))
    have h1 := h r List.mem_cons_self
    have h2 := St.ruleE_length r
    unfold St.edgesOf at ih ⊢
    rw [List.flatMap_cons, List.length_append, List.length_cons]
    omega
theorem edgesOf_one (l : List Sc.Rule) : ∀ e, e ∈ St.edgesOf l → e.2.2 ≤ 1 := fun e he => by
  obtain ⟨r, _, h⟩ := List.mem_flatMap.mp he
  exact St.ruleE_one e h

set_option maxRecDepth 100000 in
set_option maxHeartbeats 4000000 in
theorem raise_any (wp w : World) (rules : List Sc.Rule) (vr : Value) (l : List Int) (LB cap : Nat) (K : Int) (hV : PRulesV wp vr rules) (hB : Below wp.heap.size wp w) (hLB : wp.heap.size ≤ LB) (hrow : w.heap[LB]? = some (.cells (intRow l) 3))
    (hR : ∀ r, r ∈ rules → St.RuleIn l.length r) (hn : rules.length ≤ 12) (hk0 : ∀ i : Nat, 0 ≤ l.getD i 0) (hk1 : ∀ i : Nat, l.getD i 0 ≤ K) (hK : K ≤ 1000000) :
    Calls Tryz.prog 122 #[.slice (some ⟨LB, 0, none⟩) l.length cap, vr] w fun e w' => e = .returned (.bool (decide (Fx.round (St.edgesOf rules) l ≠ l))) ∧ w'.heap[LB]? = some (.cells (intRow (Fx.round (St.edgesOf rules) l)) 3) ∧ w.grownBy w' (some LB) := by
  obtain ⟨ar, cr, rfl, hA⟩ := hV
  have HA : Hid (PRulesAt wp ar rules) := hA
  have hLw : LB < w.heap.size := (Array.getElem?_eq_some_iff.mp hrow).1
  refine (callsIn_wide (n := 3)).1 ?_
  refine callsIn_of_wp_marks Tryz.func122 rfl trivial ?_ rfl
  simp only [Tryz.ntmps122, List.size_toArray, List.length_cons, List.length_nil, Nat.reduceAdd, Nat.reduceSub, Array.replicate_succ, Array.replicate_zero, List.push_toArray, List.append_toArray, List.nil_append, List.cons_append]
  have hSt : RSt w LB l.length cap ((w.alloc (.cells #[.slice (some ⟨LB, 0, none⟩) l.length cap] 22)).alloc (.cells #[.bool false] 4)) l false := by
    have b1 := (Below.refl w.heap.size w).alloc (Nat.le_refl _) (.cells #[.slice (some ⟨LB, 0, none⟩) l.length cap] 22)
    have p1 := heap_alloc_new w (.cells #[.slice (some ⟨LB, 0, none⟩) l.length cap] 22)
    have s1 : (w.alloc (.cells #[.slice (some ⟨LB, 0, none⟩) l.length cap] 22)).heap.size = w.heap.size + 1 := by simp
    generalize w.alloc (.cells #[.slice (some ⟨LB, 0, none⟩) l.length cap] 22) = x1 at *
    have b2 := (Below.refl x1.heap.size x1).alloc (Nat.le_refl _) (.cells #[.bool false] 4)
    have p2 := heap_alloc_new x1 (.cells #[.bool false] 4)
    have b12 := b1.trans (b2.mono b1.size)
    refine ⟨⟨b12.os, b12.tape, b12.output, b12.size, fun j hj _ => b12.block j hj⟩, (b12.block _ hLw).trans hrow, (b2.block _ (by omega)).trans p1, ?_⟩
    rw [s1] at p2
    exact p2
  have HST : Hid _ := hSt
  have HRR : Hid _ := hR
  have HROW : Hid _ := hrow
  have HK0 : Hid ((∀ i : Nat, 0 ≤ l.getD i 0) ∧ ∀ i : Nat, l.getD i 0 ≤ K) := ⟨hk0, hk1⟩
  clear hSt hR hrow hA hk0 hk1
  gi_wp2
  refine wpIn_loop (fun a wr => ∃ (k : Nat) (ds : List Deferred) (x7 x8 x9 x10 x14 x15 x16 x17 x18 x19 x20 x21 x22 x23 x24 x25 x26 x27 x28 x29 x30 x31 x32 x33 x34 x35 x36 x37 x38 x39 : Value), k ≤ rules.length ∧ a = { tmps := #[.slice (some ⟨LB, 0, none⟩) l.length cap, .slice ar rules.length cr, .pointer (some ⟨w.heap.size, 0, none⟩), undef, .bool false, .pointer (some ⟨w.heap.size + 1, 0, none⟩), undef, x7, x8, x9, x10, .slice ar rules.length cr, .int .i64 rules.length, .int .i64 k, x14, x15, x16, x17, x18, x19, x20, x21, x22, x23, x24, x25, x26, x27, x28, x29, x30, x31, x32, x33, x34, x35, x36, x37, x38, x39, undef], defers := ds } ∧ RSt w LB l.length cap wr (Fx.round (St.edgesOf (rules.take k)) l) (decide (Fx.round (St.edgesOf (rules.take k)) l ≠ l)) ∧ MarksL (w.heap.size + 2) wr ds) (fun a _ => rules.length - (intOf (a.tmps.getD 13 undef)).toNat) ?h0 ?round
  case h0 => exact ⟨0, [], _, _, _, _, _, _, _, _, _, _, _, _, _, _, _, _, _, _, _, _, _, _, _, _, _, _, _, _, _, _, Nat.zero_le _, rfl, by simpa [St.edgesOf, Fx.round] using HST.out, trivial⟩
  case round =>
    clear HST
    rintro a wr ⟨k, ds, x7, x8, x9, x10, x14, x15, x16, x17, x18, x19, x20, x21, x22, x23, x24, x25, x26, x27, x28, x29, x30, x31, x32, x33, x34, x35, x36, x37, x38, x39, hk, rfl, hS, hM⟩
    have hBw : Below wp.heap.size wp wr := ⟨hS.gr.os.trans hB.os, hS.gr.tape.trans hB.tape, hS.gr.output.trans hB.output, Nat.le_trans hB.size hS.gr.size, fun j hj => (hS.gr.block j (Nat.lt_of_lt_of_le hj hB.size) (fun e => by injection e with e; omega)).trans (hB.block j hj)⟩
    have HS : Hid _ := hS
    have HM : Hid _ := hM
    have HBW : Hid _ := hBw
    clear hS hM
    by_cases hlt : k < rules.length
    · obtain ⟨b, off, rfl, p0, ⟨vt, p1, hT⟩, p2, ⟨vb, p3, hLL⟩, p4⟩ := prules_at HA.out k hlt
      obtain ⟨at_, ct, rfl, _⟩ := hT
      obtain ⟨ab, cb, rfl, hLL⟩ := hLL
      have HLL : Hid _ := hLL
      have HRI : Hid (St.RuleIn l.length (Sc.ruleD rules k)) := HRR.out _ (by unfold Sc.ruleD; rw [List.getD_eq_getElem?_getD, List.getElem?_eq_getElem hlt]; exact List.getElem_mem hlt)
      have HTK : Hid (rules.take (k + 1) = rules.take k ++ [Sc.ruleD rules k]) := by
        show _ = _
        rw [List.take_add_one]
        congr 1
        unfold Sc.ruleD
        rw [List.getD_eq_getElem?_getD, List.getElem?_eq_getElem hlt]
        rfl
      have q0 := cell_below hBw p0
      have q1 := cell_below hBw p1
      have q2 := cell_below hBw p2
      have q3 := cell_below hBw p3
      have q4 := cell_below hBw p4
      clear p0 p1 p2 p3 p4 hLL hBw
      generalize Sc.ruleD rules k = r at *
      gi_wp2
      refine ⟨trivial, ?_⟩
      refine (hangs_in Fence.wide _ trivial rfl r _ _ _ _ _).mono ?_
      rintro e w' ⟨rfl, rfl⟩
      gi_wp2
      clear q0 q1 q2 q3 q4
      obtain ⟨W2, hW2⟩ : ∃ W2, W2 = ((wr.alloc (.cells #[.int .i64 r.pred, .slice at_ r.terms.length ct, .int .i64 r.fold, .slice ab r.body.length cb, .int .i64 r.vars] 40)).alloc (.cells #[.int .i64 r.pred, .slice at_ r.terms.length ct, .int .i64 r.fold, .slice ab r.body.length cb, .int .i64 r.vars] 40)) := ⟨_, rfl⟩
      have HW := raise_mem wr W2 (.cells #[.int .i64 r.pred, .slice at_ r.terms.length ct, .int .i64 r.fold, .slice ab r.body.length cb, .int .i64 r.vars] 40) hW2
      rw [← hW2]
      clear hW2
      have HW : Hid _ := HW
      have hRp := HRI.out.h0
      have hRq := HRI.out.h1
      obtain ⟨pr, hpr⟩ : ∃ pr : Nat, Hid (r.pred = pr) := ⟨r.pred.toNat, show _ = _ by omega⟩
      clear hRp hRq
      refine wpIn_rangeFunc_ownG (n := 3) rfl (by omega) (gf := 204) (lb := #[.pointer (some ⟨wr.heap.size + 1, 0, none⟩)]) ?hg trivial (enters_of Tryz.func204 (by kernel_rfl) rfl)
        (hangs_stops Fence.wide 2 trivial rfl (by omega) (wr.heap.size + 1) wp l.length r _ ab cb HLL.out (Nat.le_trans HRI.out.hl (by decide)) HRI.out.hb W2 (HBW.out.trans (HW.out.bel.mono HBW.out.size)) HW.out.rb) (fun h k => HK.trans h k)
        (fun W j o o' hl h h1 h2 => HK.put (Nat.le_trans HBW.out.size HW.out.bel.size) W j o o' hl h h1 h2) (Below.refl _ _) (fun _ => rfl)
        (fun pre W => RIn w wr W2 LB l.length cap (.cells #[.int .i64 r.pred, .slice at_ r.terms.length ct, .int .i64 r.fold, .slice ab r.body.length cb, .int .i64 r.vars] 40) ds l (St.edgesOf (rules.take k)) pr pre W) (fun _ _ _ => False) (RIn_own HS.out HM.out HW.out _ _) (fun _ _ _ _ _ h _ _ => h) (RIn_start HS.out HM.out HW.out)
        (fun x => { tmps := #[.slice (some ⟨LB, 0, none⟩) l.length cap, .slice (some ⟨b, off, none⟩) rules.length cr, .pointer (some ⟨w.heap.size, 0, none⟩), undef, .bool false, .pointer (some ⟨w.heap.size + 1, 0, none⟩), undef, .pointer (some ⟨wr.heap.size, 0, none⟩), .int .i64 x.1.1, .int .i64 x.1.2, x10, .slice (some ⟨b, off, none⟩) rules.length cr, .int .i64 rules.length, .int .i64 k, .bool true, .pointer (some ⟨b, off + k * 5, none⟩), .agg #[.int .i64 r.pred, .slice at_ r.terms.length ct, .int .i64 r.fold, .slice ab r.body.length cb, .int .i64 r.vars], .agg #[.int .i64 r.pred, .slice at_ r.terms.length ct, .int .i64 r.fold, .slice ab r.body.length cb, .int .i64 r.vars], .func (.func 204) #[] #[.pointer (some ⟨wr.heap.size + 1, 0, none⟩)], .int .i64 x.1.1, .int .i64 x.1.2, x21, x22, x23, x24, x25, x26, x27, x28, x29, x30, x31, x32, x33, x34, x35, x36, x37, x38, x39, undef], defers := [] }) ?assign ?body ?done ?stop
      case hg => rfl
      case assign =>
        intro l x W K hK
        gi_wp2
        exact hK
      case stop =>
        rintro D c pre W _ _ h _
        exact h.elim
      case done =>
        rintro D ys W hD rfl hI hK
        have hsz := HW.out.sz
        have HE : Hid (Fx.round (St.edgesOf (rules.take (k + 1))) l = Fx.round (St.edgesOf (rules.take k) ++ (St.pairs l.length r r.body).map (edgeOf pr)) l) := by
          show _ = _
          have hpt : r.pred.toNat = pr := by have := hpr.out; omega
          rw [← hpt]
          rw [HTK.out, St.edgesOf_snoc]
          congr 2
          exact (St.pairs_edges HRI.out.hb).symm
        gi_wp2
        refine ⟨⟨k + 1, _, _, _, _, _, _, _, _, _, _, _, _, _, _, _, _, _, _, _, _, _, _, _, _, _, _, _, _, _, _, _, hlt, rfl, ?_, ?_⟩, ?_⟩
        · rw [HE.out]
          exact hI.st
        · refine ⟨⟨D, ?_, rfl, hK, fun d' hd' e => ?_⟩, hI.mks⟩
          · have := (Array.getElem?_eq_some_iff.mp HS.out.flag).1
            omega
          · subst e
            have := (Array.getElem?_eq_some_iff.mp (HM.out.mem D hd')).1
            omega
        · simp [intOf]
          omega
      case body =>
        rintro l0 pre ⟨⟨pq, m⟩, h0, h1, hm⟩ W hI hpl
        dsimp only at h0 h1 hm
        obtain ⟨q, hq⟩ : ∃ q : Nat, pq = q := ⟨pq.toNat, by omega⟩
        subst hq
        have hpn : pr < l.length := by have := HRI.out.h1; have := hpr.out; omega
        have hq1 : q < l.length := by omega
        have HI : Hid _ := hI
        have hwz := (Array.getElem?_eq_some_iff.mp HS.out.flag).1
        have hgz := HBW.out.size
        have c0 : W.cell? ⟨w.heap.size, 0, none⟩ = some (.slice (some ⟨LB, 0, none⟩) l.length cap) := by rw [Lib.cell_of_heap hI.st.box]; rfl
        have c1 : W.cell? ⟨wr.heap.size, 0, none⟩ = some (.int .i64 pr) := by rw [Lib.cell_of_heap hI.qb, ← hpr.out]; rfl
        have hcl : (Fx.round (St.edgesOf (rules.take k) ++ pre.map (edgeOf pr)) l).length = l.length := Fx.round_length _ _
        have c2 := intRow_cell hI.st.row (i := q) (by omega)
        have c3 := intRow_cell hI.st.row (i := pr) (by omega)
        have f3 := Lib.frozen_of_heap hI.st.row pr
        have HFL : Hid _ := fun (v : Value) => (heap_set_other (w := W) (b := LB) (c := w.heap.size + 1) (i := pr) (v := v) (by omega)).trans hI.st.flag
        have hlo : ∀ i : Nat, 0 ≤ (Fx.round (St.edgesOf (rules.take k) ++ pre.map (edgeOf pr)) l).getD i 0 := fun i => Int.le_trans (HK0.out.1 i) ((Fx.round_le _ l).2 i)
        have hel : (St.edgesOf (rules.take k)).length ≤ 4 * rules.length := Nat.le_trans (edgesOf_length _ (fun r hr => (HRR.out r (List.mem_of_mem_take hr)).hl)) (by rw [List.length_take]; omega)
        have hhi : ∀ i : Nat, (Fx.round (St.edgesOf (rules.take k) ++ pre.map (edgeOf pr)) l).getD i 0 ≤ K + (4 * 12 + 4) := fun i => by
          have h9 := Fx.round_bound (St.edgesOf (rules.take k) ++ pre.map (edgeOf pr)) (l := l) (K := K) HK0.out.2 (fun e he => by
            rcases List.mem_append.mp he with h | h
            · exact edgesOf_one _ e h
            · obtain ⟨y, _, rfl⟩ := List.mem_map.mp h
              show y.1.2 ≤ 1
              rcases y.2.2.2 with h | h <;> omega) i
          rw [List.length_append, List.length_map] at h9
          have := HRI.out.hl
          omega
        have hlq := hlo q
        have hhq := hhi q
        have HYES : Hid (∀ A Bv : Int, A = (Fx.round (St.edgesOf (rules.take k) ++ pre.map (edgeOf pr)) l).getD q 0 → Bv = (Fx.round (St.edgesOf (rules.take k) ++ pre.map (edgeOf pr)) l).getD pr 0 → Bv < A + m → RIn w wr W2 LB l.length cap (.cells #[.int .i64 r.pred, .slice at_ r.terms.length ct, .int .i64 r.fold, .slice ab r.body.length cb, .int .i64 r.vars] 40) ds l (St.edgesOf (rules.take k)) pr (pre ++ [⟨((q : Int), m), h0, h1, hm⟩]) ((W.setCell ⟨LB, pr, none⟩ (.int .i64 (A + m))).setCell ⟨w.heap.size + 1, 0, none⟩ (.bool true))) := fun A Bv hA hB hy => by
          subst hA hB
          exact RIn_yes HI.out ⟨((q : Int), m), h0, h1, hm⟩ hpn hLw (by omega) hy
        have HNO : Hid (∀ A Bv : Int, A = (Fx.round (St.edgesOf (rules.take k) ++ pre.map (edgeOf pr)) l).getD q 0 → Bv = (Fx.round (St.edgesOf (rules.take k) ++ pre.map (edgeOf pr)) l).getD pr 0 → ¬ Bv < A + m → RIn w wr W2 LB l.length cap (.cells #[.int .i64 r.pred, .slice at_ r.terms.length ct, .int .i64 r.fold, .slice ab r.body.length cb, .int .i64 r.vars] 40) ds l (St.edgesOf (rules.take k)) pr (pre ++ [⟨((q : Int), m), h0, h1, hm⟩]) W) := fun A Bv hA hB hy => by
          subst hA hB
          exact RIn_no HI.out ⟨((q : Int), m), h0, h1, hm⟩ hpn hy
        obtain ⟨A, hA⟩ : ∃ A : Int, A = (Fx.round (St.edgesOf (rules.take k) ++ pre.map (edgeOf pr)) l).getD q 0 := ⟨_, rfl⟩
        obtain ⟨Bv, hBv⟩ : ∃ Bv : Int, Bv = (Fx.round (St.edgesOf (rules.take k) ++ pre.map (edgeOf pr)) l).getD pr 0 := ⟨_, rfl⟩
        replace HYES : Hid _ := HYES.out A Bv hA hBv
        replace HNO : Hid _ := HNO.out A Bv hA hBv
        rw [← hA] at c2 hlq hhq
        rw [← hBv] at c3
        have hm0 : 0 ≤ m := by omega
        have hm1 : m ≤ 1 := by omega
        have HKL : Hid (wp.heap.size ≤ LB ∧ LB < w.heap.size ∧ w.heap.size + 2 ≤ wr.heap.size) := ⟨hLB, hLw, by omega⟩
        have hwp : wp.heap.size ≤ w.heap.size := by omega
        clear hI hlo hhi hel hcl hA hBv hwz hgz
        by_cases hy : Bv < A + m
        · have hyd : decide (Bv < A + m) = true := decide_eq_true hy
          replace HYES : Hid _ := HYES.out hy
          have c6 := box_cell (HFL.out (.int .i64 (A + m)))
          have f6 := Lib.frozen_of_heap (HFL.out (.int .i64 (A + m))) 0
          clear HNO hy
          gi_wp2
          refine ⟨((KeepsOthers.setCell _ _ _).trans (KeepsOthers.setCell _ _ _)).from _, ⟨((Below.refl _ W).setCell (p := ⟨LB, pr, none⟩) HKL.out.1 _).setCell (p := ⟨w.heap.size + 1, 0, none⟩) (Nat.le_succ_of_le hwp) _, fun o _ hR => ?_⟩, HYES.out⟩
          have h9 := HKL.out
          rw [heap_set_other (by omega), heap_set_other (by omega)]
          exact hR
        · have hyd : decide (Bv < A + m) = false := decide_eq_false hy
          replace HNO : Hid _ := HNO.out hy
          clear HYES hy
          gi_wp2
          exact ⟨KeepsFrom.refl _ _, HK.refl _ _ _, HNO.out⟩
    · obtain rfl : k = rules.length := by omega
      have c5 : wr.cell? ⟨w.heap.size + 1, 0, none⟩ = some (.bool (decide (Fx.round (St.edgesOf (rules.take rules.length)) l ≠ l))) := by rw [Lib.cell_of_heap HS.out.flag]; rfl
      rw [List.take_length] at *
      obtain ⟨fb, hfb⟩ : ∃ fb, fb = decide (Fx.round (St.edgesOf rules) l ≠ l) := ⟨_, rfl⟩
      rw [← hfb] at c5
      have HFB : Hid _ := hfb
      clear hfb
      gi_wp2
      have hrw := (Array.getElem?_eq_some_iff.mp HROW.out).1
      refine marks_leave (B := w.heap.size + 2) (v := .bool fb) (fun w => results_tmp (t := 4) rfl _ _ w) ds wr HM.out (fun w' hb => ⟨by rw [HFB.out], ?_, ?_⟩)
      · exact (hb.block LB (by omega)).trans HS.out.row
      · exact ⟨hb.os.trans HS.out.gr.os, hb.tape.trans HS.out.gr.tape, hb.output.trans HS.out.gr.output, Nat.le_trans HS.out.gr.size hb.size, fun j hj hn => (hb.block j (by omega)).trans (HS.out.gr.block j hj hn)⟩

end Go.Proofs.YthenjegmigeieaaGreat

/- Package strata: Levels. -/
namespace Go.Proofs.YthenjegmigeieaaGreat
open Go.RowKit

namespace St
theorem thn_zero_iff {a b : Int} (h : Sc.thn a b = 0) : a = 0 ∧ b = 0 := by
  unfold Sc.thn at h
  split at h
  · exact ⟨by assumption, h⟩
  · exact absurd h (by assumption)
/-- What passes Check: so few rules, each with a head and with all that it hangs on. -/
theorem check_in {p : Sc.Prog} (h : Sc.check p = 0) : p.arity.length ≤ 10 ∧ p.rules.length ≤ 12 ∧ ∀ r, r ∈ p.rules → RuleIn p.arity.length r := by
  unfold Sc.check at h
  split at h
  · omega
  · rename_i h1
    split at h
    · omega
    · refine ⟨by omega, by omega, fun r hr => ?_⟩
      have h2 := first_zero (thn_zero_iff h).2 r hr
      unfold Sc.ruleErr at h2
      split at h2
      · rename_i hp
        obtain ⟨_, h2⟩ := thn_zero_iff h2
        obtain ⟨_, h2⟩ := thn_zero_iff h2
        obtain ⟨_, h2⟩ := thn_zero_iff h2
        obtain ⟨_, h2⟩ := thn_zero_iff h2
        obtain ⟨_, h2⟩ := thn_zero_iff h2
        obtain ⟨h4, h2⟩ := thn_zero_iff h2
        obtain ⟨h5, _⟩ := thn_zero_iff h2
        have hpp : 0 ≤ r.pred ∧ r.pred ≤ (p.arity.length : Int) - 1 := by
          unfold Sc.isPred Tr.between at hp
          simpa using hp
        refine ⟨hpp.1, by omega, fun x hx hk => ?_, ?_⟩
        · have h6 := first_zero h5 x hx
          obtain ⟨h6, _⟩ := thn_zero_iff h6
          unfold Sc.litErr at h6
          rw [if_pos (of_decide_eq_true hk)] at h6
          split at h6
          · omega
          · split at h6
            · rename_i h7
              unfold Sc.isPred Tr.between at h7
              have h8 : 0 ≤ x.pred ∧ x.pred ≤ (p.arity.length : Int) - 1 := by simpa using h7
              omega
            · omega
        · by_cases h9 : 4 < r.body.length
          · rw [if_pos h9] at h4; omega
          · omega
      · omega
/-- What Levels answers. -/
def levErr (p : Sc.Prog) : Int := if Sc.check p = 0 then (if flat p then 0 else 4) else Sc.check p
def levOut (p : Sc.Prog) : List Int := if Sc.check p = 0 ∧ flat p = true then level p else []
theorem levErr_bad {p : Sc.Prog} (h : ¬ Sc.check p = 0) : levErr p = Sc.check p ∧ levOut p = [] := by
  unfold levErr levOut
  rw [if_neg h, if_neg (fun k => h k.1)]
  exact ⟨rfl, rfl⟩
theorem levErr_flat {p : Sc.Prog} (h : Sc.check p = 0) (hf : flat p = true) : levErr p = 0 ∧ levOut p = level p := by
  unfold levErr levOut
  rw [if_pos h, if_pos hf, if_pos ⟨h, hf⟩]
  exact ⟨rfl, rfl⟩
theorem levErr_not {p : Sc.Prog} (h : Sc.check p = 0) (hf : flat p = false) : levErr p = 4 ∧ levOut p = [] := by
  unfold levErr levOut
  rw [if_pos h, if_neg (by simp [hf]), if_neg (by simp [hf])]
  exact ⟨rfl, rfl⟩
/-- Settled early is settled for good. -/
theorem level_early {p : Sc.Prog} {k : Nat} (hk : k ≤ p.arity.length) (h : Fx.round (edges p) (Fx.iter (edges p) k (zeros p.arity.length)) = Fx.iter (edges p) k (zeros p.arity.length)) : level p = Fx.iter (edges p) k (zeros p.arity.length) ∧ flat p = true := by
  have h1 : level p = Fx.iter (edges p) k (zeros p.arity.length) := by
    unfold level
    obtain ⟨d, hd⟩ : ∃ d, p.arity.length = k + d := ⟨p.arity.length - k, by omega⟩
    rw [hd, Fx.iter_add, ← hd, Fx.iter_fix h]
  refine ⟨h1, decide_eq_true ?_⟩
  rw [h1, h]
theorem iter_bound (E : List Fx.Edge) (hE : ∀ e, e ∈ E → e.2.2 ≤ 1) (n : Nat) : ∀ (k i : Nat), (Fx.iter E k (zeros n)).getD i 0 ≤ (k * E.length : Nat)
  | 0, i => by rw [show Fx.iter E 0 (zeros n) = zeros n from rfl, zeros_getD]; omega
  | k + 1, i => by
    rw [Fx.iter_succ]
    have := Fx.round_bound E (iter_bound E hE n k) hE i
    rw [Nat.add_mul]
    omega
theorem iter_nonneg (E : List Fx.Edge) (n k i : Nat) : 0 ≤ (Fx.iter E k (zeros n)).getD i 0 := by
  have := (Fx.iter_le E k (zeros n)).2 i
  rw [zeros_getD] at this
  exact this
end St

theorem made_ints (n : Nat) : madeCells #[Value.int .i64 0] n = intRow (St.zeros n) := by
  unfold intRow St.zeros
  apply Array.ext
  · simp [size_madeCells]
  · intro i h1 h2
    simp [madeCells, Nat.mod_one]
theorem intRow_ints {w : World} {b : Nat} {l : List Int} (cap : Nat) (h : w.heap[b]? = some (.cells (intRow l) 3)) : IntsV w (.slice (some ⟨b, 0, none⟩) l.length cap) l := by
  refine ⟨_, _, rfl, .inr ⟨b, 0, rfl, fun i hi => ?_⟩⟩
  rw [Nat.zero_add]
  exact intRow_cell h hi

theorem below_row {w wr w5 : World} {LB : Nat} (hb : Below w.heap.size w wr) (hg : wr.grownBy w5 (some LB)) (h : w.heap.size ≤ LB) : Below w.heap.size w w5 :=
  ⟨hg.os.trans hb.os, hg.tape.trans hb.tape, hg.output.trans hb.output, Nat.le_trans hb.size hg.size, fun j hj => (hg.block j (Nat.lt_of_lt_of_le hj hb.size) (fun e => by injection e with e; omega)).trans (hb.block j hj)⟩
theorem _root_.Go.World.grownBy.trans_row {a b c : World} {LB : Nat} (h : a.grownBy b (some LB)) (k : b.grownBy c (some LB)) : a.grownBy c (some LB) :=
  ⟨k.os.trans h.os, k.tape.trans h.tape, k.output.trans h.output, Nat.le_trans h.size k.size, fun j hj hn => (k.block j (Nat.lt_of_lt_of_le hj h.size) hn).trans (h.block j hj hn)⟩

set_option maxRecDepth 100000 in
set_option maxHeartbeats 1000000 in
theorem Levels_any (p : Sc.Prog) (va vn vr : Value) (w : World) (hP : ProgV w va vn vr p) (hF : ProgFit p) :
    Calls Tryz.prog 80 #[progVal va vn vr] w fun e w' => ∃ v, e = .returned (.tuple #[v, .int .i64 (St.levErr p)]) ∧ IntsV w' v (St.levOut p) ∧ Below w.heap.size w w' := by
  obtain ⟨a0, n0, rfl, _⟩ := id hP.ar
  obtain ⟨a1, n1, rfl, _⟩ := id hP.nm
  obtain ⟨a2, n2, rfl, _⟩ := id hP.rl
  have hb0 : Below w.heap.size w (w.alloc (.cells #[.slice a0 p.arity.length n0, .slice a1 p.names.length n1, .slice a2 p.rules.length n2] 26)) := (Below.refl _ _).alloc (Nat.le_refl _) _
  have hX := heap_alloc_new w (.cells #[.slice a0 p.arity.length n0, .slice a1 p.names.length n1, .slice a2 p.rules.length n2] 26)
  have HP : Hid _ := hP
  have HF : Hid _ := hF
  clear hP hF
  go_enter Tryz.func80, Tryz.ntmps80
  go_wp2_with fail
  generalize w.alloc (.cells #[.slice a0 p.arity.length n0, .slice a1 p.names.length n1, .slice a2 p.rules.length n2] 26) = w1 at *
  refine (ScCheck_any p _ _ _ w1 (HP.out.below hb0) HF.out).mono ?_
  rintro e w2 ⟨rfl, hb2⟩
  have hX2 := (hb2.block _ (Array.getElem?_eq_some_iff.mp hX).1).trans hX
  have hbw := hb0.trans (hb2.mono hb0.size)
  clear hX hb0 hb2
  by_cases hc : Sc.check p = 0
  · obtain ⟨hn, hr, hR⟩ := St.check_in hc
    have HC : Hid (Sc.check p = 0) := hc
    have HR : Hid _ := hR
    rw [hc]
    clear hc hR
    have c0 : w2.cell? ⟨w.heap.size, 0, none⟩ = some (.slice a0 p.arity.length n0) := by rw [Lib.cell_of_heap hX2]; rfl
    have hmk := run_make_row' (P := Tryz.prog) 22 3 (.int .i64 0) 8 Tryz.underlying22 (by kernel_rfl) rfl .i64 .i64 p.arity.length (by omega) (by omega)
    have b3 := (Below.refl w2.heap.size w2).alloc (Nat.le_refl _) (.cells (madeCells #[Value.int .i64 0] p.arity.length) 3)
    have hrow := heap_alloc_new w2 (.cells (madeCells #[Value.int .i64 0] p.arity.length) 3)
    have hX3 := (b3.block _ (Array.getElem?_eq_some_iff.mp hX2).1).trans hX2
    have hb3 := hbw.trans (b3.mono hbw.size)
    have c3 : (w2.alloc (.cells (madeCells #[Value.int .i64 0] p.arity.length) 3)).cell? ⟨w.heap.size, 0, none⟩ = some (.slice a0 p.arity.length n0) := by rw [Lib.cell_of_heap hX3]; rfl
    have hlw : w.heap.size < w2.heap.size := (Array.getElem?_eq_some_iff.mp hX2).1
    clear b3
    go_wp2_with fail
    rw [made_ints] at *
    generalize w2.alloc (.cells (intRow (St.zeros p.arity.length)) 3) = w3 at *
    generalize w2.heap.size = LB at *
    clear hmk c0 hX2 hbw c3
    have HX3 : Hid _ := hX3
    have HB3 : Hid _ := hb3
    clear hX3 hb3
    go_loopw [19] (fun i wr => ∃ k : Nat, k ≤ p.arity.length + 1 ∧ i = .int .i64 k ∧ wr.heap[LB]? = some (.cells (intRow (Fx.iter (St.edges p) k (St.zeros p.arity.length))) 3) ∧ (∀ j, j < k → Fx.round (St.edges p) (Fx.iter (St.edges p) j (St.zeros p.arity.length)) ≠ Fx.iter (St.edges p) j (St.zeros p.arity.length)) ∧ w3.grownBy wr (some LB)) (fun i _ => p.arity.length + 1 - (intOf i).toNat)
    case atStart => exact ⟨0, Nat.zero_le _, rfl, hrow, fun j hj => absurd hj (Nat.not_lt_zero _), ⟨rfl, rfl, rfl, Nat.le_refl _, fun _ _ _ => rfl⟩⟩
    case round =>
      clear hrow
      obtain ⟨k, hk, rfl, hrow, hno, hg⟩ := hrel
      have hXr : wr.heap[w.heap.size]? = some (.cells #[.slice a0 p.arity.length n0, .slice a1 p.names.length n1, .slice a2 p.rules.length n2] 26) := (hg.block _ (Array.getElem?_eq_some_iff.mp HX3.out).1 (fun e => by injection e with e; omega)).trans HX3.out
      have c2 : wr.cell? ⟨w.heap.size, 2, none⟩ = some (.slice a2 p.rules.length n2) := by rw [Lib.cell_of_heap hXr]; rfl
      have hbr : Below w.heap.size w wr := ⟨hg.os.trans HB3.out.os, hg.tape.trans HB3.out.tape, hg.output.trans HB3.out.output, Nat.le_trans HB3.out.size hg.size, fun j hj => (hg.block j (Nat.lt_of_lt_of_le hj HB3.out.size) (fun e => by injection e with e; omega)).trans (HB3.out.block j hj)⟩
      have HBR : Hid _ := hbr
      have HNO : Hid _ := hno
      have HROW : Hid _ := hrow
      have HG : Hid _ := hg
      clear hXr hbr hno hrow hg
      by_cases hlt : k < p.arity.length + 1
      · have hel := edgesOf_length p.rules (fun r hr => (HR.out r hr).hl)
        have hlen : (Fx.iter (St.edges p) k (St.zeros p.arity.length)).length = p.arity.length := by rw [Fx.iter_length]; simp [St.zeros]
        have HRA := raise_any w wr p.rules (.slice a2 p.rules.length n2) (Fx.iter (St.edges p) k (St.zeros p.arity.length)) LB p.arity.length 528 HP.out.rl HBR.out (by omega) HROW.out (by rw [hlen]; exact HR.out) hr (St.iter_nonneg _ _ _) (fun i => by
          have h9 := St.iter_bound (St.edges p) (edgesOf_one p.rules) p.arity.length k i
          have h8 : (k * (St.edges p).length : Nat) ≤ 11 * 48 := Nat.mul_le_mul (by omega) (by show (St.edgesOf p.rules).length ≤ 48; omega)
          omega) (by decide)
        rw [hlen] at HRA
        have HRA : Hid _ := HRA
        clear hel hlen
        go_wp2_with fail
        refine Calls.mono HRA.out ?_
        rintro e w5 ⟨rfl, hrow5, hg5⟩
        have HR5 : Hid _ := hrow5
        have HG5 : Hid _ := hg5
        clear HRA hrow5 hg5
        by_cases hfx : Fx.round (St.edgesOf p.rules) (Fx.iter (St.edges p) k (St.zeros p.arity.length)) = Fx.iter (St.edges p) k (St.zeros p.arity.length)
        · have hfd : decide (Fx.round (St.edgesOf p.rules) (Fx.iter (St.edges p) k (St.zeros p.arity.length)) ≠ Fx.iter (St.edges p) k (St.zeros p.arity.length)) = false := decide_eq_false (fun h => h hfx)
          have HL := St.level_early (p := p) (k := k) (by omega) hfx
          have HE := St.levErr_flat HC.out HL.2
          have HL : Hid _ := HL
          have HE : Hid _ := HE
          rw [hfd]
          rw [hfx] at HR5
          clear hfx hfd
          go_wp2_with fail
          refine bodyPost_ret (results_tmp2 rfl _ _ _) rfl ⟨_, by rw [HE.out.1]; rfl, ?_, ?_⟩
          · rw [HE.out.2, HL.out.1]
            have h9 := intRow_ints p.arity.length HR5.out
            rw [Fx.iter_length, show (St.zeros p.arity.length).length = p.arity.length by simp [St.zeros]] at h9
            exact h9
          · exact below_row HBR.out HG5.out (by omega)
        · have hfd : decide (Fx.round (St.edgesOf p.rules) (Fx.iter (St.edges p) k (St.zeros p.arity.length)) ≠ Fx.iter (St.edges p) k (St.zeros p.arity.length)) = true := decide_eq_true hfx
          have HFX : Hid _ := hfx
          rw [hfd]
          clear hfx hfd
          go_wp2_with fail
          go_roundw
          case rel =>
            refine ⟨k + 1, by omega, by go_num, by rw [Fx.iter_succ]; exact HR5.out, fun j hj => ?_, HG.out.trans_row HG5.out⟩
            by_cases hjk : j = k
            · rw [hjk]; exact HFX.out
            · exact HNO.out j (by omega)
          case measure => simp [intOf]; omega
      · obtain rfl : k = p.arity.length + 1 := by omega
        have HE := St.levErr_not (p := p) HC.out (decide_eq_false (HNO.out p.arity.length (by omega)))
        have HE : Hid _ := HE
        clear c2
        go_wp2_with fail
        refine bodyPost_ret (results_tmp2 rfl _ _ _) rfl ⟨_, by rw [HE.out.1]; rfl, by rw [HE.out.2]; exact ⟨none, 0, rfl, .inl rfl⟩, HBR.out⟩
  · have hcd : (Sc.check p == 0) = false := by simp [hc]
    have HE := St.levErr_bad hc
    have HE : Hid _ := HE
    clear hc
    go_wp2_with fail
    refine bodyPost_ret (results_tmp2 rfl _ _ _) rfl ?_
    exact ⟨_, by rw [HE.out.1]; rfl, by rw [HE.out.2]; exact ⟨none, 0, rfl, .inl rfl⟩, hbw⟩

end Go.Proofs.YthenjegmigeieaaGreat

/- Package strata: copied. -/
namespace Go.Proofs.YthenjegmigeieaaGreat
open Go.RowKit

abbrev Lv := Sc.Lit × Value
def lvCells (p : Lv) : List Value := [.int .i64 p.1.kind, .int .i64 p.1.op, .int .i64 p.1.pred, p.2]
def lCells (q : List Lv) : List Value := (q.map lvCells).flatten

theorem flat_at {α : Type} (f : α → List Value) (c : Nat) (hf : ∀ a, (f a).length = c) : ∀ (l : List α) (i : Nat) (a : α) (t : Nat), l[i]? = some a → t < c → (l.map f).flatten[i * c + t]? = (f a)[t]?
  | [], i, a, t, h, _ => by simp at h
  | b :: l, 0, a, t, h, ht => by
    have hab : b = a := by simpa using h
    subst hab
    rw [List.map_cons, List.flatten_cons, Nat.zero_mul, Nat.zero_add, List.getElem?_append_left (by rw [hf]; exact ht)]
  | b :: l, i + 1, a, t, h, ht => by
    have h' : l[i]? = some a := by simpa using h
    rw [List.map_cons, List.flatten_cons, List.getElem?_append_right (by rw [hf, Nat.add_mul]; omega), hf]
    have e : (i + 1) * c + t - c = i * c + t := by rw [Nat.add_mul]; omega
    rw [e]
    exact flat_at f c hf l i a t h' ht
theorem flat_len {α : Type} (f : α → List Value) (c : Nat) (hf : ∀ a, (f a).length = c) : ∀ (l : List α), (l.map f).flatten.length = l.length * c
  | [] => by simp
  | b :: l => by rw [List.map_cons, List.flatten_cons, List.length_append, hf, flat_len f c hf l, List.length_cons, Nat.add_mul]; omega
theorem flatv_get {α : Type} (f : α → List Value) (c : Nat) (hc : 0 < c) (hf : ∀ a, (f a).length = c) (l : List α) (j : Nat) (u : Value) (h : (l.map f).flatten[j]? = some u) : ∃ a, l[j / c]? = some a ∧ (f a)[j % c]? = some u := by
  have hj : j < l.length * c := by
    rw [← flat_len f c hf l]
    exact (List.getElem?_eq_some_iff.mp h).1
  have hd : j / c < l.length := (Nat.div_lt_iff_lt_mul hc).mpr hj
  refine ⟨l[j / c], List.getElem?_eq_getElem hd, ?_⟩
  rw [← flat_at f c hf l (j / c) l[j / c] (j % c) (List.getElem?_eq_getElem hd) (Nat.mod_lt _ hc), Nat.mul_comm, Nat.div_add_mod]
  exact h

theorem own_type {W W' : World} {B e c n : Nat} {v : Value} {xs : List Value} (h : W.ownsRow B e c v n xs) (hk : ∀ (k : Nat) (a : Array Value), W.heap[k]? = some (.cells a e) → W'.heap[k]? = some (.cells a e)) : W'.ownsRow B e c v n xs := by
  obtain ⟨h1, h2⟩ := h
  refine ⟨h1, ?_⟩
  rcases h2 with h2 | ⟨g, cap, cur, hv, hg, hh, r⟩
  · exact .inl h2
  · exact .inr ⟨g, cap, cur, hv, hg, hk g cur hh, r⟩
theorem own_cells {W : World} {B e c n : Nat} {v : Value} {xs : List Value} (h : W.ownsRow B e c v n xs) : ∃ ao cap, v = .slice ao n cap ∧ n ≤ cap ∧ (n = 0 ∨ ∃ g, ao = some ⟨g, 0, none⟩ ∧ ∀ j, j < n * c → W.cell? ⟨g, j, none⟩ = xs[j]?) := by
  rcases ownsRow_forms9 h with ⟨rfl, rfl⟩ | ⟨g, cap, rfl⟩
  · exact ⟨none, 0, rfl, Nat.le_refl _, .inl rfl⟩
  · refine ⟨_, cap, rfl, ?_, .inr ⟨g, rfl, fun j hj => h.cellAt j hj⟩⟩
    rcases h.2 with ⟨h2, _⟩ | ⟨g2, cap2, cur, hv, _, _, hle, _⟩
    · cases h2
    · injection hv with _ _ h3
      omega
end Go.Proofs.YthenjegmigeieaaGreat

/- A region that draws its order, by an invariant over what has been carried out: one proof for each operation, not one for each order. -/
namespace Go.Proofs.YthenjegmigeieaaGreat

section
variable {P : Program} {ops : Array Oper} {Q : Exit → Act → World → Prop} {md : Region.Mode}

theorem ready_mem {s : Array Bool} {i : Nat} (h : i ∈ Region.ready md ops s) : s[i]? = some false ∧ ∃ o, ops[i]? = some o ∧ ∀ e, e ∈ o.after → Region.binds md e = true → s[e.on]? = some true := by
  unfold Region.ready at h
  obtain ⟨_, h⟩ := List.mem_filter.mp h
  rw [Bool.and_eq_true] at h
  obtain ⟨h1, h2⟩ := h
  refine ⟨?_, ?_⟩
  · cases hs : s[i]? with
    | none => simp [Array.getD_eq_getD_getElem?, hs] at h1
    | some b => cases b <;> simp [Array.getD_eq_getD_getElem?, hs] at h1 ⊢
  · cases ho : ops[i]? with
    | none => simp [ho] at h2
    | some o =>
      refine ⟨o, rfl, fun e he hb => ?_⟩
      rw [ho, Option.map_some, Option.getD_some, Array.all_eq_true_iff_forall_mem] at h2
      have h3 := h2 e he
      rw [hb] at h3
      cases hs : s[e.on]? with
      | none => simp [Array.getD_eq_getD_getElem?, hs] at h3
      | some b => cases b <;> simp [Array.getD_eq_getD_getElem?, hs] at h3 ⊢

/-- How many are not yet carried out. -/
def left (s : Array Bool) : Nat := s.toList.countP (fun b => !b)
theorem left_zero {s : Array Bool} (h : left s = 0) : Region.ready md ops s = [] := by
  cases hr : Region.ready md ops s with
  | nil => rfl
  | cons i r =>
    have h1 := (ready_mem (s := s) (i := i) (by rw [hr]; exact List.mem_cons_self)).1
    have h2 : false ∈ s.toList := by
      rw [← Array.getElem?_toList] at h1
      exact List.mem_of_getElem? h1
    have h3 := List.countP_eq_zero.mp h false h2
    simp at h3
theorem left_set {s : Array Bool} {i : Nat} (h : s[i]? = some false) : left (s.setIfInBounds i true) + 1 = left s := by
  obtain ⟨hi, he⟩ := Array.getElem?_eq_some_iff.mp h
  unfold left
  have h1 : (s.setIfInBounds i true).toList = s.toList.set i true := by simp
  rw [h1, List.countP_set (h := by simpa using hi)]
  have hm : 0 < s.toList.countP (fun b => !b) := List.countP_pos_iff.mpr ⟨false, by rw [← Array.getElem?_toList] at h; exact List.mem_of_getElem? h, rfl⟩
  have h2 : s.toList[i]'(by simpa using hi) = false := by rw [Array.getElem_toList]; exact he
  rw [h2]
  simp only [Bool.not_false, Bool.not_true, if_true, Bool.false_eq_true, if_false]
  omega

theorem wpAny_inv (I : Array Bool → Act → World → Prop) (hend : ∀ s a w, Region.ready md ops s = [] → I s a w → Q .normal a w)
    (hstep : ∀ s a w i, i ∈ Region.ready md ops s → I s a w → wpOp P ops Q i (I (s.setIfInBounds i true)) a w) :
    ∀ (fuel : Nat) (s : Array Bool) (a : Act) (w : World), left s ≤ fuel → I s a w → wpAny P md ops Q fuel s a w
  | 0, s, a, w, hc, hI => ⟨left_zero (by omega), hend s a w (left_zero (by omega)) hI⟩
  | fuel + 1, s, a, w, hc, hI => ⟨fun h0 => hend s a w h0 hI, fun i hi => wpOp_mono (fun a' w' hI' => wpAny_inv I hend hstep fuel _ a' w' (by have := left_set (ready_mem hi).1; omega) hI') (hstep s a w i hi hI)⟩

/-- The region itself. -/
theorem wp_region_inv (I : Array Bool → Act → World → Prop) {id : Nat} {a : Act} {w : World} (hm : P.follows .mixedOrders = true)
    (hend : ∀ s a w, Region.ready .any ops s = [] → I s a w → Q .normal a w)
    (hstep : ∀ s a w i, i ∈ Region.ready .any ops s → I s a w → wpOp P ops Q i (I (s.setIfInBounds i true)) a w)
    (h0 : I (Array.replicate ops.size false) a { w with drawn := w.drawn + 1 }) : (Code.region id ops true).wp P Q a w := by
  refine wp_region_any hm (wpAny_inv I hend hstep ops.size _ _ _ ?_ h0)
  unfold left
  exact Nat.le_trans List.countP_le_length (by simp)
end

end Go.Proofs.YthenjegmigeieaaGreat

/- A region that draws its order, by a table: of each temporary that it writes, what holds of its value once it is written. One goal for each operation. -/
namespace Go.Proofs.YthenjegmigeieaaGreat
open Go.RowKit

/-- All that is written is written once, and within the frame; what is waited for stands ahead. -/
def tabFine (ops : Array Oper) (n : Nat) : Bool :=
  decide ((ops.toList.filterMap (·.dst)).Nodup) && (ops.toList.filterMap (·.dst)).all (fun t => decide (t < n)) && (List.range ops.size).all (fun i => ((ops[i]?).map (fun o => o.after.toList.all (fun e => decide (e.on < i)))).getD true)

/-- The table at what is done. -/
structure Tabbed (ops : Array Oper) (T : Nat → Value → World → Prop) (a0 : Act) (w0 : World) (s : Array Bool) (a : Act) (w : World) : Prop where
  below : Below w0.heap.size w0 w
  defers : a.defers = a0.defers
  size : a.tmps.size = a0.tmps.size
  still : ∀ t, t ∉ ops.toList.filterMap (·.dst) → a.tmps.getD t undef = a0.tmps.getD t undef
  done : ∀ (i : Nat) (o : Oper) (t : Nat), s[i]? = some true → ops[i]? = some o → o.dst = some t → T t (a.tmps.getD t undef) w

section
variable {P : Program} {ops : Array Oper} {Q : Exit → Act → World → Prop} {T : Nat → Value → World → Prop}

theorem dst_mem {i : Nat} {o : Oper} {t : Nat} (h : ops[i]? = some o) (ht : o.dst = some t) : t ∈ ops.toList.filterMap (·.dst) := by
  refine List.mem_filterMap.mpr ⟨o, ?_, ht⟩
  rw [← Array.getElem?_toList] at h
  exact List.mem_of_getElem? h

theorem dst_inj : ∀ (l : List Oper), (l.filterMap (·.dst)).Nodup → ∀ (i j : Nat) (o o' : Oper) (t : Nat), l[i]? = some o → l[j]? = some o' → o.dst = some t → o'.dst = some t → i = j
  | [], _, i, j, o, o', t, h, _, _, _ => by simp at h
  | x :: l, hn, i, j, o, o', t, hi, hj, ho, ho' => by
    have hmem : ∀ k (o : Oper), l[k]? = some o → o.dst = some t → t ∈ l.filterMap (·.dst) := fun k o h1 h2 => List.mem_filterMap.mpr ⟨o, List.mem_of_getElem? h1, h2⟩
    cases i with
    | zero =>
      cases j with
      | zero => rfl
      | succ j =>
        simp only [List.getElem?_cons_zero, Option.some.injEq] at hi
        subst hi
        simp only [List.getElem?_cons_succ] at hj
        rw [List.filterMap_cons, ho] at hn
        exact absurd (hmem j o' hj ho') (List.nodup_cons.mp hn).1
    | succ i =>
      cases j with
      | zero =>
        simp only [List.getElem?_cons_zero, Option.some.injEq] at hj
        subst hj
        simp only [List.getElem?_cons_succ] at hi
        rw [List.filterMap_cons, ho'] at hn
        exact absurd (hmem i o hi ho) (List.nodup_cons.mp hn).1
      | succ j =>
        simp only [List.getElem?_cons_succ] at hi hj
        have hn' : (l.filterMap (·.dst)).Nodup := by
          rw [List.filterMap_cons] at hn
          cases hx : x.dst with
          | none => rw [hx] at hn; exact hn
          | some z => rw [hx] at hn; exact (List.nodup_cons.mp hn).2
        exact congrArg (· + 1) (dst_inj l hn' i j o o' t hi hj ho ho')

/-- What an operation's goal may take as given. -/
structure OpIn (ops : Array Oper) (T : Nat → Value → World → Prop) (a0 : Act) (w0 : World) (o : Oper) (a : Act) (w : World) : Prop where
  below : Below w0.heap.size w0 w
  still : ∀ t, t ∉ ops.toList.filterMap (·.dst) → a.tmps.getD t undef = a0.tmps.getD t undef
  has : ∀ e, e ∈ o.after → Region.binds .any e = true → ∀ (o' : Oper) (t : Nat), ops[e.on]? = some o' → o'.dst = some t → T t (a.tmps.getD t undef) w

/-- What an operation must do. -/
def OpOk (P : Program) (ops : Array Oper) (Q : Exit → Act → World → Prop) (T : Nat → Value → World → Prop) (o : Oper) (a : Act) (w : World) : Prop :=
  if Region.wanted o (yielded ops a.tmps) then o.wp P a w (fun a' w' => ∃ v, a' = a.put o.dst v ∧ (∀ t, o.dst = some t → T t v w') ∧ Below w.heap.size w w') Q ∨ (o.asks P a w ∧ LetsOut Q)
  else ∀ t, o.dst = some t → T t undef w

theorem put_get_self {a : Act} {t : Nat} {v : Value} (h : t < a.tmps.size) : (a.put (some t) v).tmps.getD t undef = v := by
  simp [Act.put, Array.getD_eq_getD_getElem?, h]
theorem put_get_ne {a : Act} {t u : Nat} {v : Value} (h : u ≠ t) : (a.put (some t) v).tmps.getD u undef = a.tmps.getD u undef := by
  simp [Act.put, Array.getD_eq_getD_getElem?, Ne.symm h]
theorem put_size {a : Act} {d : Option Nat} {v : Value} : (a.put d v).tmps.size = a.tmps.size := by
  cases d <;> simp [Act.put]
theorem put_defers {a : Act} {d : Option Nat} {v : Value} : (a.put d v).defers = a.defers := by
  cases d <;> simp [Act.put]

theorem wp_region_tab (T : Nat → Value → World → Prop) {id : Nat} {a0 : Act} {w0 : World} (hm : P.follows .mixedOrders = true)
    (hf : tabFine ops a0.tmps.size = true)
    (hmono : ∀ t v w w', Below w.heap.size w w' → T t v w → T t v w')
    (hop : ∀ (i : Nat) (o : Oper), ops[i]? = some o → ∀ a w, OpIn ops T a0 w0 o a w → OpOk P ops Q T o a w)
    (hend : ∀ a w, Below w0.heap.size w0 w → a.defers = a0.defers → a.tmps.size = a0.tmps.size → (∀ t, t ∉ ops.toList.filterMap (·.dst) → a.tmps.getD t undef = a0.tmps.getD t undef) → (∀ t, t ∈ ops.toList.filterMap (·.dst) → T t (a.tmps.getD t undef) w) → Q .normal a w) :
    (Code.region id ops true).wp P Q a0 w0 := by
  unfold tabFine at hf
  rw [Bool.and_eq_true, Bool.and_eq_true] at hf
  obtain ⟨⟨hnd, hlt⟩, hah⟩ := hf
  have hnd := of_decide_eq_true hnd
  have hlt' : ∀ t, t ∈ ops.toList.filterMap (·.dst) → t < a0.tmps.size := fun t ht => by
    have h := List.all_eq_true.mp hlt t ht
    exact of_decide_eq_true h
  have hah' : ∀ (i : Nat) (o : Oper), ops[i]? = some o → ∀ e, e ∈ o.after → e.on < i := fun i o ho e he => by
    have hi : i < ops.size := (Array.getElem?_eq_some_iff.mp ho).1
    have h := List.all_eq_true.mp hah i (List.mem_range.mpr hi)
    rw [ho, Option.map_some, Option.getD_some] at h
    exact of_decide_eq_true (List.all_eq_true.mp h e (by simpa using he))
  have hset : ∀ {T : Nat → Value → World → Prop} {s : Array Bool} {a : Act} {w w' : World} {i : Nat} {o : Oper} {v : Value}, (∀ t v w w', Below w.heap.size w w' → T t v w → T t v w') → s.size = ops.size → ops[i]? = some o → Tabbed ops T a0 w0 s a w → (∀ t, o.dst = some t → T t v w') → Below w.heap.size w w' → Tabbed ops T a0 w0 (s.setIfInBounds i true) (a.put o.dst v) w' := by
    intro T s a w w' i o v hmono hs ho hI hv hb
    refine ⟨hI.below.trans (hb.mono hI.below.size), by rw [put_defers]; exact hI.defers, by rw [put_size]; exact hI.size, fun t ht => ?_, fun j oj t hj hoj hd => ?_⟩
    · cases hd : o.dst with
      | none => exact hI.still t ht
      | some u =>
        have hne : t ≠ u := fun h => ht (h ▸ dst_mem ho hd)
        rw [put_get_ne hne]
        exact hI.still t ht
    · by_cases hij : j = i
      · subst hij
        rw [ho] at hoj
        cases hoj
        rw [hd, put_get_self (by rw [hI.size]; exact hlt' t (dst_mem ho hd))]
        exact hv t hd
      · have hj' : s[j]? = some true := by
          rw [Array.getElem?_setIfInBounds, if_neg (fun h => hij h.symm)] at hj
          exact hj
        have h1 := hmono t _ w w' hb (hI.done j oj t hj' hoj hd)
        cases hd2 : o.dst with
        | none => exact h1
        | some u =>
          have hne : t ≠ u := fun h => hij (dst_inj ops.toList hnd j i oj o t (by rw [Array.getElem?_toList]; exact hoj) (by rw [Array.getElem?_toList]; exact ho) hd (h ▸ hd2))
          rw [put_get_ne hne]
          exact h1
  refine wp_region_inv (fun s a w => s.size = ops.size ∧ Tabbed ops T a0 w0 s a w) hm ?_ ?_ ?_
  · rintro s a w hr ⟨hs, hI⟩
    have hall : ∀ n : Nat, n ≤ ops.size → ∀ i : Nat, i < n → s[i]? = some true := by
      intro n
      induction n with
      | zero => intro _ i hi; exact absurd hi (Nat.not_lt_zero _)
      | succ n ih =>
        intro hn i hi
        have ih := ih (by omega)
        by_cases hin : i < n
        · exact ih i hin
        · have hin : i = n := by omega
          subst hin
          cases hsi : s[i]? with
          | none => rw [Array.getElem?_eq_none_iff] at hsi; omega
          | some b =>
            cases b with
            | true => rfl
            | false =>
              exfalso
              have hio : i < ops.size := by omega
              have : i ∈ Region.ready .any ops s := by
                unfold Region.ready
                refine List.mem_filter.mpr ⟨List.mem_range.mpr hio, ?_⟩
                rw [Bool.and_eq_true]
                refine ⟨by simp [Array.getD_eq_getD_getElem?, hsi], ?_⟩
                have ho : ops[i]? = some ops[i] := Array.getElem?_eq_getElem hio
                rw [ho, Option.map_some, Option.getD_some, Array.all_eq_true_iff_forall_mem]
                intro e he
                have h1 := ih e.on (hah' i _ ho e he)
                simp [Array.getD_eq_getD_getElem?, h1]
              rw [hr] at this
              exact absurd this (by simp)
    refine hend a w hI.below hI.defers hI.size hI.still (fun t ht => ?_)
    obtain ⟨o, ho, hd⟩ := List.mem_filterMap.mp ht
    obtain ⟨i, hi⟩ := List.mem_iff_getElem?.mp ho
    rw [Array.getElem?_toList] at hi
    exact hI.done i o t (hall ops.size (Nat.le_refl _) i (Array.getElem?_eq_some_iff.mp hi).1) hi hd
  · rintro s a w i hi ⟨hs, hI⟩
    obtain ⟨hsi, o, ho, haf⟩ := ready_mem hi
    have h := hop i o ho a w ⟨hI.below, hI.still, fun e he hb o' t ho' hd => hI.done e.on o' t (haf e he hb) ho' hd⟩
    have hss : (s.setIfInBounds i true).size = ops.size := by simp [hs]
    unfold OpOk at h
    unfold wpOp
    rw [ho]
    dsimp only
    by_cases hw : Region.wanted o (yielded ops a.tmps) = true
    · rw [if_pos hw] at h ⊢
      refine h.imp (Oper.wp_mono ?_) (fun h => h)
      rintro a' w' ⟨v, rfl, hv, hb⟩
      exact ⟨hss, hset hmono hs ho hI hv hb⟩
    · rw [if_neg hw] at h ⊢
      exact ⟨hss, hset hmono hs ho hI h (Below.refl _ _)⟩
  · refine ⟨by simp, ⟨⟨rfl, rfl, rfl, Nat.le_refl _, fun _ _ => rfl⟩, rfl, rfl, fun _ _ => rfl, fun i o t h _ _ => ?_⟩⟩
    rw [Array.getElem?_replicate] at h
    split at h <;> simp at h
end

end Go.Proofs.YthenjegmigeieaaGreat

/- The goals of a region by a table, operation by operation. -/
namespace Go.Proofs.YthenjegmigeieaaGreat
open Go.RowKit

/-- Does an operation wait for the one that writes t? -/
def waitsFor (ops : Array Oper) (o : Oper) (t : Nat) : Bool := o.after.toList.any fun e => Region.binds .any e && ((ops[e.on]?).map fun o' => o'.dst == some t).getD false
def stays (ops : Array Oper) (t : Nat) : Bool := !(ops.toList.filterMap (·.dst)).contains t

section
variable {P : Program} {ops : Array Oper} {Q : Exit → Act → World → Prop} {T : Nat → Value → World → Prop} {a0 a : Act} {w0 w : World} {o : Oper}

theorem OpIn.of (h : OpIn ops T a0 w0 o a w) (t : Nat) (hw : waitsFor ops o t = true) : T t (a.tmps.getD t undef) w := by
  unfold waitsFor at hw
  obtain ⟨e, he, hb⟩ := List.any_eq_true.mp hw
  rw [Bool.and_eq_true] at hb
  cases ho : ops[e.on]? with
  | none => rw [ho] at hb; simp at hb
  | some o' =>
    rw [ho, Option.map_some, Option.getD_some] at hb
    exact h.has e (by simpa using he) hb.1 o' t ho (by simpa using hb.2)
theorem OpIn.old (h : OpIn ops T a0 w0 o a w) (t : Nat) (hs : stays ops t = true) : a.tmps.getD t undef = a0.tmps.getD t undef := by
  refine h.still t fun hm => ?_
  unfold stays at hs
  simp [hm] at hs
theorem wanted_none {y : Nat → Option Bool} (hg : o.guard = none) : Region.wanted o y = true := by simp [Region.wanted, hg]
theorem wanted_some {j t : Nat} {b : Bool} {oj : Oper} (hg : o.guard = some (j, b)) (hj : ops[j]? = some oj) (hd : oj.dst = some t) (hv : a.tmps.getD t undef = .bool b) : Region.wanted o (yielded ops a.tmps) = true := by
  have ht : a.tmps[t]? = some (.bool b) := by
    rw [Array.getD_eq_getD_getElem?] at hv
    cases h : a.tmps[t]? with
    | none => rw [h] at hv; simp [undef] at hv
    | some v => rw [h] at hv; simpa using hv
  unfold Region.wanted
  rw [hg]
  dsimp only
  unfold yielded
  rw [hj, Option.bind_some, hd, Option.bind_some, ht]
  simp
theorem opOk_val {v : Value} {w' : World} (hw : Region.wanted o (yielded ops a.tmps) = true) (hr : (execOp a.eval o).run P w = .ok (.value v) w') (hT : ∀ t, o.dst = some t → T t v w') (hb : Below w.heap.size w w') : OpOk P ops Q T o a w := by
  unfold OpOk
  rw [if_pos hw]
  left
  unfold Oper.wp
  rw [hr, Oper.upon_value]
  exact ⟨v, rfl, hT, hb⟩
theorem opOk_call {f : FuncId} {args : Array Value} (hw : Region.wanted o (yielded ops a.tmps) = true) (hr : (execOp a.eval o).run P w = .ok (.enter f args) w)
    (hc : Calls P f args w fun e w' => ∃ v, e = .returned v ∧ (∀ t, o.dst = some t → T t v w') ∧ Below w.heap.size w w') : OpOk P ops Q T o a w := by
  unfold OpOk
  rw [if_pos hw]
  left
  unfold Oper.wp
  rw [hr, Oper.upon_enter]
  refine Calls.mono hc ?_
  rintro e w' ⟨v, rfl, hT, hb⟩
  exact ⟨v, rfl, hT, hb⟩

/-- All operations, one by one. -/
def AllOps (Φ : Oper → Prop) : List Oper → Prop
  | [] => True
  | o :: l => Φ o ∧ AllOps Φ l
theorem AllOps.nil {Φ : Oper → Prop} : AllOps Φ [] := trivial
theorem AllOps.cons {Φ : Oper → Prop} {o : Oper} {l : List Oper} (h : Φ o) (hl : AllOps Φ l) : AllOps Φ (o :: l) := ⟨h, hl⟩
theorem AllOps.mem {Φ : Oper → Prop} : ∀ (l : List Oper), AllOps Φ l → ∀ o, o ∈ l → Φ o
  | [], _, o, ho => absurd ho (by simp)
  | x :: l, h, o, ho => by
    rcases List.mem_cons.mp ho with rfl | ho
    · exact h.1
    · exact AllOps.mem l h.2 o ho
theorem AllOps.at {Φ : Oper → Prop} {ops : Array Oper} (h : AllOps Φ ops.toList) (i : Nat) (o : Oper) (ho : ops[i]? = some o) : Φ o := by
  rw [← Array.getElem?_toList] at ho
  exact AllOps.mem _ h o (List.mem_of_getElem? ho)
theorem ends_at {t : Nat} (h : ∀ t, t ∈ ops.toList.filterMap (·.dst) → T t (a.tmps.getD t undef) w) (hs : stays ops t = false) : T t (a.tmps.getD t undef) w := by
  refine h t ?_
  unfold stays at hs
  simpa [List.contains_iff_mem] using hs
theorem wp_region_tabA (T : Nat → Value → World → Prop) {id : Nat} {a0 : Act} {w0 : World} (hm : P.follows .mixedOrders = true) (hf : tabFine ops a0.tmps.size = true)
    (hmono : ∀ t v w w', Below w.heap.size w w' → T t v w → T t v w')
    (hop : AllOps (fun o => ∀ a w, OpIn ops T a0 w0 o a w → OpOk P ops Q T o a w) ops.toList)
    (hend : ∀ a w, Below w0.heap.size w0 w → a.defers = a0.defers → a.tmps.size = a0.tmps.size → (∀ t, t ∉ ops.toList.filterMap (·.dst) → a.tmps.getD t undef = a0.tmps.getD t undef) → (∀ t, t ∈ ops.toList.filterMap (·.dst) → T t (a.tmps.getD t undef) w) → Q .normal a w) :
    (Code.region id ops true).wp P Q a0 w0 :=
  wp_region_tab T hm hf hmono (fun i o ho => AllOps.at hop i o ho) hend
end

end Go.Proofs.YthenjegmigeieaaGreat

/- Behind a region by a table: the frame, written out. -/
namespace Go.Proofs.YthenjegmigeieaaGreat
open Go.RowKit

theorem tmps_fold : ∀ (D : List Nat) (x y : Array Value), x.size = y.size → (∀ t, t ∉ D → x.getD t undef = y.getD t undef) → x = D.foldl (fun arr t => arr.setIfInBounds t (x.getD t undef)) y
  | [], x, y, hs, h => by
    show x = y
    refine Array.ext hs fun i h1 h2 => ?_
    have := h i (by simp)
    rw [Array.getD_eq_getD_getElem?, Array.getD_eq_getD_getElem?, Array.getElem?_eq_getElem h1, Array.getElem?_eq_getElem h2] at this
    exact this
  | t :: D, x, y, hs, h => by
    show x = D.foldl (fun arr t => arr.setIfInBounds t (x.getD t undef)) (y.setIfInBounds t (x.getD t undef))
    refine tmps_fold D x _ (by simp [hs]) fun s hsD => ?_
    by_cases hst : s = t
    · subst hst
      by_cases hl : s < y.size
      · simp [Array.getD_eq_getD_getElem?, hl]
      · have h1 : x[s]? = none := by rw [Array.getElem?_eq_none_iff]; omega
        have h2 : ∀ v, (y.setIfInBounds s v)[s]? = none := fun v => by rw [Array.getElem?_eq_none_iff]; simp; omega
        rw [Array.getD_eq_getD_getElem?, Array.getD_eq_getD_getElem?, h1, h2]
    · rw [h s (by simp [hst, hsD])]
      simp [Array.getD_eq_getD_getElem?, Ne.symm hst]

section
variable {P : Program} {ops : Array Oper} {Q : Exit → Act → World → Prop} {T : Nat → Value → World → Prop} {a : Act} {w : World} {o : Oper}
/-- An operation that is not wanted. -/
theorem opOk_skip {j t : Nat} {b c : Bool} {oj : Oper} (hg : o.guard = some (j, b)) (hj : ops[j]? = some oj) (hd : oj.dst = some t) (hv : a.tmps.getD t undef = .bool c) (hbc : c ≠ b) (hT : ∀ t, o.dst = some t → T t undef w) : OpOk P ops Q T o a w := by
  have ht : a.tmps[t]? = some (.bool c) := by
    rw [Array.getD_eq_getD_getElem?] at hv
    cases h : a.tmps[t]? with
    | none => rw [h] at hv; simp [undef] at hv
    | some v => rw [h] at hv; simpa using hv
  have hw : Region.wanted o (yielded ops a.tmps) = false := by
    unfold Region.wanted
    rw [hg]
    dsimp only
    unfold yielded
    rw [hj, Option.bind_some, hd, Option.bind_some, ht]
    simp [hbc]
  unfold OpOk
  rw [hw, if_neg (by simp)]
  exact hT
end

end Go.Proofs.YthenjegmigeieaaGreat

/- A region by a table whose last operation comes behind all others, and may change anything. -/
namespace Go.Proofs.YthenjegmigeieaaGreat
open Go.RowKit

section
variable {P : Program} {ops : Array Oper} {Q : Exit → Act → World → Prop}
end

end Go.Proofs.YthenjegmigeieaaGreat

/- Package strata: copied, walked. -/
namespace Go.Proofs.YthenjegmigeieaaGreat
open Go.RowKit

end Go.Proofs.YthenjegmigeieaaGreat

/- Package strata: spread. -/
namespace Go.Proofs.YthenjegmigeieaaGreat
open Go.RowKit Go.Shelf

attribute [local go_sem] Oper.semAt_some

namespace St
end St

section
variable {w wr W2 W : World} {LB n cap : Nat} {rb : Obj} {ds : List Deferred} {l : List Bool} {E : List Fx.Edge} {h np : Nat} {pre : List (HP np)}
end

end Go.Proofs.YthenjegmigeieaaGreat

/- Package strata: Needs. -/
namespace Go.Proofs.YthenjegmigeieaaGreat
open Go.RowKit

namespace St
end St

end Go.Proofs.YthenjegmigeieaaGreat

/- The document's LevelsOf. -/
namespace Go.Proofs.YthenjegmigeieaaGreat
open Go.RowKit

namespace St
end St

end Go.Proofs.YthenjegmigeieaaGreat

/- The document's NeedsOf. -/
namespace Go.Proofs.YthenjegmigeieaaGreat
open Go.RowKit

namespace St
end St
end Go.Proofs.YthenjegmigeieaaGreat

/- A region by a table whose last operations come one behind the other, behind all others, and may change anything (append, then a store). -/
namespace Go.Proofs.YthenjegmigeieaaGreat
open Go.RowKit

/-- Does operation i wait for j, by some steps? -/
def reach (ops : Array Oper) : Nat → Nat → Nat → Bool
  | 0, _, _ => false
  | f + 1, i, j => ((ops[i]?).map fun o => o.after.toList.any fun e => Region.binds .any e && (e.on == j || reach ops f e.on j)).getD false
def Closed (ops : Array Oper) (s : Array Bool) : Prop := ∀ (i : Nat) (o : Oper), s[i]? = some true → ops[i]? = some o → ∀ e, e ∈ o.after → Region.binds .any e = true → s[e.on]? = some true
theorem reach_done {ops : Array Oper} {s : Array Bool} (hC : Closed ops s) : ∀ (f i j : Nat) (o : Oper), ops[i]? = some o → (∀ e, e ∈ o.after → Region.binds .any e = true → s[e.on]? = some true) → reach ops f i j = true → s[j]? = some true
  | 0, _, _, _, _, _, h => by cases h
  | f + 1, i, j, o, ho, hd, h => by
    unfold reach at h
    rw [ho, Option.map_some, Option.getD_some] at h
    obtain ⟨e, he, h2⟩ := List.any_eq_true.mp h
    rw [Bool.and_eq_true, Bool.or_eq_true] at h2
    have hse := hd e (by simpa using he) h2.1
    rcases h2.2 with h3 | h3
    · have h3 : e.on = j := by simpa using h3
      rw [← h3]; exact hse
    · cases hoe : ops[e.on]? with
      | none =>
        cases f with
        | zero => cases h3
        | succ f => unfold reach at h3; rw [hoe] at h3; cases h3
      | some oe => exact reach_done hC f e.on j oe hoe (fun e' he' hb' => hC e.on oe hse hoe e' he' hb') h3
/-- The tail waits for all ahead of it, one by one. -/
def tailFine (ops : Array Oper) (L : Nat) : Bool := (List.range L).all (fun j => reach ops 12 L j) && (List.range ops.size).all fun i => !decide (L < i) || reach ops 12 i (i - 1)
structure OpInT (ops : Array Oper) (T : Nat → Value → World → Prop) (a0 : Act) (w0 : World) (L : Nat) (a : Act) (w : World) : Prop where
  below : Below w0.heap.size w0 w
  defers : a.defers = a0.defers
  size : a.tmps.size = a0.tmps.size
  still : ∀ t, t ∉ ops.toList.filterMap (·.dst) → a.tmps.getD t undef = a0.tmps.getD t undef
  all : ∀ (i : Nat) (o : Oper) (t : Nat), i < L → ops[i]? = some o → o.dst = some t → T t (a.tmps.getD t undef) w

section
variable {P : Program} {ops : Array Oper} {Q : Exit → Act → World → Prop}
theorem wp_region_tail (T : Nat → Value → World → Prop) (L : Nat) {id : Nat} {a0 : Act} {w0 : World} (hL : L < ops.size) (htf : tailFine ops L = true) (hm : P.follows .mixedOrders = true)
    (hf : tabFine ops a0.tmps.size = true)
    (hmono : ∀ t v w w', Below w.heap.size w w' → T t v w → T t v w')
    (hop : AllOps (fun o => ∀ a w, OpIn ops T a0 w0 o a w → OpOk P ops Q T o a w) (ops.toList.take L))
    (htail : ∀ a w, OpInT ops T a0 w0 L a w → wpOps P ops Q (List.range' L (ops.size - L)) a w) :
    (Code.region id ops true).wp P Q a0 w0 := by
  unfold tailFine at htf
  rw [Bool.and_eq_true] at htf
  have ht1 : ∀ j, j < L → reach ops 12 L j = true := fun j hj => List.all_eq_true.mp htf.1 j (List.mem_range.mpr hj)
  have ht2 : ∀ i, i < ops.size → L < i → reach ops 12 i (i - 1) = true := fun i hi hLi => by
    have h := List.all_eq_true.mp htf.2 i (List.mem_range.mpr hi)
    rw [decide_eq_true hLi] at h
    simpa using h
  unfold tabFine at hf
  rw [Bool.and_eq_true, Bool.and_eq_true] at hf
  obtain ⟨⟨hnd, hlt⟩, hah⟩ := hf
  have hnd := of_decide_eq_true hnd
  have hlt' : ∀ t, t ∈ ops.toList.filterMap (·.dst) → t < a0.tmps.size := fun t ht => of_decide_eq_true (List.all_eq_true.mp hlt t ht)
  have hah' : ∀ (i : Nat) (o : Oper), ops[i]? = some o → ∀ e, e ∈ o.after → e.on < i := fun i o ho e he => by
    have hi : i < ops.size := (Array.getElem?_eq_some_iff.mp ho).1
    have h := List.all_eq_true.mp hah i (List.mem_range.mpr hi)
    rw [ho, Option.map_some, Option.getD_some] at h
    exact of_decide_eq_true (List.all_eq_true.mp h e (by simpa using he))
  refine wp_region_inv (fun s a w => (s.size = ops.size ∧ Closed ops s) ∧ (((∀ i, L ≤ i → i < ops.size → s[i]? = some false) ∧ Tabbed ops T a0 w0 s a w) ∨
    (∃ m, L ≤ m ∧ m ≤ ops.size ∧ (∀ i, i < m → s[i]? = some true) ∧ (∀ i, m ≤ i → i < ops.size → s[i]? = some false) ∧ wpOps P ops Q (List.range' m (ops.size - m)) a w))) hm ?_ ?_ ?_
  · rintro s a w hr ⟨⟨hs, hC⟩, hI⟩
    have hall : ∀ n : Nat, n ≤ ops.size → ∀ i : Nat, i < n → s[i]? = some true := by
      intro n
      induction n with
      | zero => intro _ i hi; exact absurd hi (Nat.not_lt_zero _)
      | succ n ih =>
        intro hn i hi
        have ih := ih (by omega)
        by_cases hin : i < n
        · exact ih i hin
        · have hin : i = n := by omega
          subst hin
          cases hsi : s[i]? with
          | none => rw [Array.getElem?_eq_none_iff] at hsi; omega
          | some b =>
            cases b with
            | true => rfl
            | false =>
              exfalso
              have hio : i < ops.size := by omega
              have : i ∈ Region.ready .any ops s := by
                unfold Region.ready
                refine List.mem_filter.mpr ⟨List.mem_range.mpr hio, ?_⟩
                rw [Bool.and_eq_true]
                refine ⟨by simp [Array.getD_eq_getD_getElem?, hsi], ?_⟩
                have ho : ops[i]? = some ops[i] := Array.getElem?_eq_getElem hio
                rw [ho, Option.map_some, Option.getD_some, Array.all_eq_true_iff_forall_mem]
                intro e he
                have h1 := ih e.on (hah' i _ ho e he)
                simp [Array.getD_eq_getD_getElem?, h1]
              rw [hr] at this
              exact absurd this (by simp)
    have hd := hall ops.size (Nat.le_refl _)
    rcases hI with ⟨hF, _⟩ | ⟨m, _, hm1, _, hF, hW⟩
    · have h1 := hF L (Nat.le_refl _) hL
      rw [hd L hL] at h1
      cases h1
    · by_cases hme : m = ops.size
      · subst hme
        rw [Nat.sub_self] at hW
        exact hW
      · have h1 := hF m (Nat.le_refl _) (by omega)
        rw [hd m (by omega)] at h1
        cases h1
  · rintro s a w i hi ⟨⟨hs, hC⟩, hI⟩
    obtain ⟨hsi, o, ho, haf⟩ := ready_mem hi
    have his : i < ops.size := (Array.getElem?_eq_some_iff.mp ho).1
    have hup : ∀ j, s[j]? = some true → (s.setIfInBounds i true)[j]? = some true := fun j hj => by
      rw [Array.getElem?_setIfInBounds]
      by_cases hij : i = j
      · rw [if_pos hij, if_pos (by omega)]
      · rw [if_neg hij]; exact hj
    have hss : (s.setIfInBounds i true).size = ops.size ∧ Closed ops (s.setIfInBounds i true) := by
      refine ⟨by simp [hs], fun i' o' hi' ho' e he hb => ?_⟩
      by_cases hii : i = i'
      · subst hii
        rw [ho] at ho'
        cases ho'
        exact hup _ (haf e he hb)
      · rw [Array.getElem?_setIfInBounds, if_neg hii] at hi'
        exact hup _ (hC i' o' hi' ho' e he hb)
    have go : ∀ m, L ≤ m → m < ops.size → i = m → (∀ j, j < m → s[j]? = some true) → (∀ j, m ≤ j → j < ops.size → s[j]? = some false) → wpOps P ops Q (List.range' m (ops.size - m)) a w →
        wpOp P ops Q i (fun a' w' => ((s.setIfInBounds i true).size = ops.size ∧ Closed ops (s.setIfInBounds i true)) ∧ (((∀ j, L ≤ j → j < ops.size → (s.setIfInBounds i true)[j]? = some false) ∧ Tabbed ops T a0 w0 (s.setIfInBounds i true) a' w') ∨
          (∃ m, L ≤ m ∧ m ≤ ops.size ∧ (∀ j, j < m → (s.setIfInBounds i true)[j]? = some true) ∧ (∀ j, m ≤ j → j < ops.size → (s.setIfInBounds i true)[j]? = some false) ∧ wpOps P ops Q (List.range' m (ops.size - m)) a' w'))) a w := by
      intro m hLm hms him hT hF hW
      subst him
      obtain ⟨d, hd⟩ : ∃ d, ops.size - i = d + 1 := ⟨ops.size - i - 1, by omega⟩
      rw [hd, List.range'_succ, wpOps_cons] at hW
      refine wpOp_mono (fun a' w' h' => ⟨hss, .inr ⟨i + 1, by omega, by omega, fun j hj => ?_, fun j hj hjs => ?_, ?_⟩⟩) hW
      · by_cases hji : j = i
        · subst hji
          rw [Array.getElem?_setIfInBounds, if_pos rfl, if_pos (by omega)]
        · exact hup j (hT j (by omega))
      · rw [Array.getElem?_setIfInBounds, if_neg (by omega)]
        exact hF j (by omega) hjs
      · rw [show ops.size - (i + 1) = d by omega]
        exact h'
    rcases hI with ⟨hF, hI⟩ | ⟨m, hLm, hm1, hT, hF, hW⟩
    · by_cases hiL : L ≤ i
      · have hiL2 : i = L := by
          rcases Nat.lt_or_ge L i with h | h
          · have h1 := reach_done hC 12 i (i - 1) o ho haf (ht2 i his h)
            rw [hF (i - 1) (by omega) (by omega)] at h1
            cases h1
          · omega
        subst hiL2
        have hdn : ∀ j, j < i → s[j]? = some true := fun j hj => reach_done hC 12 i j o ho haf (ht1 j hj)
        exact go i (Nat.le_refl _) his rfl hdn (fun j hj hjs => hF j hj hjs) (htail a w ⟨hI.below, hI.defers, hI.size, hI.still, fun j oj t hj hoj hd => hI.done j oj t (hdn j hj) hoj hd⟩)
      · have hop' : OpOk P ops Q T o a w := by
          refine AllOps.mem _ hop o ?_ a w ⟨hI.below, hI.still, fun e he hb o' t ho' hd => hI.done e.on o' t (haf e he hb) ho' hd⟩
          rw [← Array.getElem?_toList] at ho
          refine List.mem_of_getElem? (i := i) ?_
          rw [List.getElem?_take, if_pos (by omega)]
          exact ho
        have hset : ∀ {v : Value} {w' : World}, (∀ t, o.dst = some t → T t v w') → Below w.heap.size w w' → Tabbed ops T a0 w0 (s.setIfInBounds i true) (a.put o.dst v) w' := by
          intro v w' hv hb
          refine ⟨hI.below.trans (hb.mono hI.below.size), by rw [put_defers]; exact hI.defers, by rw [put_size]; exact hI.size, fun t ht => ?_, fun j oj t hj hoj hd => ?_⟩
          · cases hd : o.dst with
            | none => exact hI.still t ht
            | some u =>
              have hne : t ≠ u := fun h => ht (h ▸ dst_mem ho hd)
              rw [put_get_ne hne]
              exact hI.still t ht
          · by_cases hij : j = i
            · subst hij
              rw [ho] at hoj
              cases hoj
              rw [hd, put_get_self (by rw [hI.size]; exact hlt' t (dst_mem ho hd))]
              exact hv t hd
            · have hj' : s[j]? = some true := by
                rw [Array.getElem?_setIfInBounds, if_neg (fun h => hij h.symm)] at hj
                exact hj
              have h1 := hmono t _ w w' hb (hI.done j oj t hj' hoj hd)
              cases hd2 : o.dst with
              | none => exact h1
              | some u =>
                have hne : t ≠ u := fun h => hij (dst_inj ops.toList hnd j i oj o t (by rw [Array.getElem?_toList]; exact hoj) (by rw [Array.getElem?_toList]; exact ho) hd (h ▸ hd2))
                rw [put_get_ne hne]
                exact h1
        have hF' : ∀ j, L ≤ j → j < ops.size → (s.setIfInBounds i true)[j]? = some false := fun j hj hjs => by
          rw [Array.getElem?_setIfInBounds, if_neg (by omega)]
          exact hF j hj hjs
        unfold OpOk at hop'
        unfold wpOp
        rw [ho]
        dsimp only
        by_cases hw : Region.wanted o (yielded ops a.tmps) = true
        · rw [if_pos hw] at hop' ⊢
          refine hop'.imp (Oper.wp_mono ?_) (fun h => h)
          rintro a' w' ⟨v, rfl, hv, hb⟩
          exact ⟨hss, .inl ⟨hF', hset hv hb⟩⟩
        · rw [if_neg hw] at hop' ⊢
          exact ⟨hss, .inl ⟨hF', hset hop' (Below.refl _ _)⟩⟩
    · have him : m ≤ i := by
        rcases Nat.lt_or_ge i m with h | h
        · have h1 := hT i h
          rw [hsi] at h1
          cases h1
        · exact h
      have him2 : i = m := by
        rcases Nat.lt_or_ge m i with h | h
        · have h1 := reach_done hC 12 i (i - 1) o ho haf (ht2 i his (by omega))
          rw [hF (i - 1) (by omega) (by omega)] at h1
          cases h1
        · omega
      exact go m hLm (by omega) him2 hT hF hW
  · refine ⟨⟨by simp, fun i o h => ?_⟩, .inl ⟨fun i _ hi => ?_, ⟨⟨rfl, rfl, rfl, Nat.le_refl _, fun _ _ => rfl⟩, rfl, rfl, fun _ _ => rfl, fun i o t h _ _ => ?_⟩⟩⟩
    · rw [Array.getElem?_replicate] at h
      split at h <;> simp at h
    · rw [Array.getElem?_replicate, if_pos hi]
    · rw [Array.getElem?_replicate] at h
      split at h <;> simp at h
end

end Go.Proofs.YthenjegmigeieaaGreat

/- Rules in a row of one's own; sameBools; single operations behind a region. -/
namespace Go.Proofs.YthenjegmigeieaaGreat
open Go.RowKit

abbrev Rv := Sc.Rule × Value × Value
section
variable {P : Program} {ops : Array Oper} {Q : Exit → Act → World → Prop} {i : Nat} {o : Oper} {K : Act → World → Prop} {a : Act} {w w' : World}
theorem wpOp_val {v : Value} (ho : ops[i]? = some o) (hw : Region.wanted o (yielded ops a.tmps) = true) (hr : (execOp a.eval o).run P w = .ok (.value v) w') (h : K (a.put o.dst v) w') : wpOp P ops Q i K a w := by
  unfold wpOp
  rw [ho]
  dsimp only
  rw [if_pos hw]
  left
  unfold Oper.wp
  rw [hr, Oper.upon_value]
  exact h
theorem wpOp_void (ho : ops[i]? = some o) (hw : Region.wanted o (yielded ops a.tmps) = true) (hd : o.dst = none) (hr : (execOp a.eval o).run P w = .ok .skip w') (h : K a w') : wpOp P ops Q i K a w := by
  unfold wpOp
  rw [ho]
  dsimp only
  rw [if_pos hw]
  left
  unfold Oper.wp
  rw [hr, Oper.upon_skip, hd]
  exact h
theorem wpOp_wp (ho : ops[i]? = some o) (hw : Region.wanted o (yielded ops a.tmps) = true) (h : o.wp P a w K Q) : wpOp P ops Q i K a w := by
  unfold wpOp
  rw [ho]
  dsimp only
  rw [if_pos hw]
  exact .inl h
end

end Go.Proofs.YthenjegmigeieaaGreat

/- The document's FocusOf. -/
namespace Go.Proofs.YthenjegmigeieaaGreat
open Go.RowKit

theorem row_news {W : World} {b' : Nat} {RC : Array Value} {t : TypeId} (h : W.heap[b']? = some (.cells RC t)) : ∀ j u, RC.toList[j]? = some u → W.cell? ((⟨b', 0, none⟩ : Addr).add j) = some u := by
  intro j u hj
  rw [Addr.add_lit, Nat.zero_add, Lib.cell_of_heap h, ← Array.getElem?_toList]
  exact hj

end Go.Proofs.YthenjegmigeieaaGreat

/- Package strata: Focus. -/
namespace Go.Proofs.YthenjegmigeieaaGreat
open Go.RowKit

theorem own_ints {W : World} {B : Nat} {v : Value} {l : List Int} (h : W.ownsRow B 3 1 v l.length (l.map (Value.int .i64))) : IntsV W v l := by
  obtain ⟨ao, cap, rfl, _, hc⟩ := own_cells h
  refine ⟨ao, cap, rfl, ?_⟩
  rcases hc with h0 | ⟨g, rfl, hc⟩
  · exact .inl (List.length_eq_zero_iff.mp h0)
  · refine .inr ⟨g, 0, rfl, fun i hi => ?_⟩
    rw [Nat.zero_add, hc i (by omega)]
    simp [Sc.intD, hi]
namespace St
end St

theorem own_ty {W : World} {B c n k : Nat} {e t : TypeId} {v : Value} {xs : List Value} {a : Array Value} (h : W.ownsRow B e c v n xs) (hk : v.ownBlock = some k) (ha : W.heap[k]? = some (.cells a t)) : t = e := by
  rcases h.2 with ⟨h2, _⟩ | ⟨g, cap, cur, hv, _, hh, _⟩
  · rw [h2] at hk; cases hk
  · rw [hv] at hk
    have hg : g = k := by simpa [Value.ownBlock] using hk
    subst hg
    rw [hh] at ha
    injection ha with ha
    injection ha with _ ha _
    exact ha.symm

end Go.Proofs.YthenjegmigeieaaGreat

/- Small functions of rule, of fill and of the document's ways. -/
namespace Go.Proofs.YthenjegmigeieaaGreat
open Go.RowKit

set_option maxRecDepth 100000 in
set_option maxHeartbeats 400000 in
theorem isSo_any (op a b : Int) (w : World) : Calls Tryz.prog 186 #[.int .i64 op, .int .i64 a, .int .i64 b] w fun e w' => e = .returned (.bool (Ru.isSo op a b)) ∧ w' = w := by
  by_cases h1 : op = 1
  · subst h1
    go_enter Tryz.func186, Tryz.ntmps186
    go_wp2
    go_ret
    exact ⟨by unfold Ru.isSo; simp, rfl⟩
  · have g1 : (op == 1) = false := by simpa using h1
    by_cases h2 : op = 2
    · subst h2
      clear h1 g1
      go_enter Tryz.func186, Tryz.ntmps186
      go_wp2
      go_ret
      exact ⟨by unfold Ru.isSo; simp, rfl⟩
    · have g2 : (op == 2) = false := by simpa using h2
      by_cases h3 : op = 3
      · subst h3
        clear h1 g1 h2 g2
        go_enter Tryz.func186, Tryz.ntmps186
        go_wp2
        go_ret
        exact ⟨by unfold Ru.isSo; rw [if_neg (by decide), if_neg (by decide), if_pos rfl]; simp; rfl, rfl⟩
      · have g3 : (op == 3) = false := by simpa using h3
        have HV : Hid (Ru.isSo op a b = decide (a ≠ b)) := by show _ = _; unfold Ru.isSo; rw [if_neg h1, if_neg h2, if_neg h3]
        clear h1 h2 h3
        go_enter Tryz.func186, Tryz.ntmps186
        go_wp2
        go_ret
        exact ⟨by rw [HV.out]; simp [bne]; rfl, rfl⟩
theorem mul_small {a b : Int} (ha : -1000000 ≤ a ∧ a ≤ 1000000) (hb : -1000000 ≤ b ∧ b ≤ 1000000) : -1000000000000 ≤ a * b ∧ a * b ≤ 1000000000000 := by
  have h1 : (a * b).natAbs ≤ 1000000 * 1000000 := by
    rw [Int.natAbs_mul]
    exact Nat.mul_le_mul (by omega) (by omega)
  omega
set_option maxRecDepth 100000 in
set_option maxHeartbeats 400000 in
theorem reckoned_any (op a b : Int) (w : World) (ha : -1000000 ≤ a ∧ a ≤ 1000000) (hb : -1000000 ≤ b ∧ b ≤ 1000000) : Calls Tryz.prog 188 #[.int .i64 op, .int .i64 a, .int .i64 b] w fun e w' => e = .returned (.int .i64 (Ru.reck op a b)) ∧ w' = w := by
  obtain ⟨a1, a2⟩ := ha
  obtain ⟨b1, b2⟩ := hb
  by_cases h1 : op = 5
  · subst h1
    go_enter Tryz.func188, Tryz.ntmps188
    go_wp2
    go_ret
    exact ⟨by unfold Ru.reck; simp, rfl⟩
  · have g1 : (op == 5) = false := by simpa using h1
    by_cases h2 : op = 6
    · subst h2
      clear h1 g1
      go_enter Tryz.func188, Tryz.ntmps188
      go_wp2
      go_ret
      exact ⟨by unfold Ru.reck; simp, rfl⟩
    · have g2 : (op == 6) = false := by simpa using h2
      have HV : Hid (Ru.reck op a b = a * b) := by show _ = _; unfold Ru.reck; rw [if_neg h1, if_neg h2]
      obtain ⟨m1, m2⟩ := mul_small ⟨a1, a2⟩ ⟨b1, b2⟩
      clear h1 h2
      go_enter Tryz.func188, Tryz.ntmps188
      go_wp2
      go_ret
      exact ⟨by rw [HV.out]; simp, rfl⟩
set_option maxRecDepth 100000 in
set_option maxHeartbeats 400000 in
theorem isNum_any (n : Int) (w : World) : Calls Tryz.prog 109 #[.int .i64 n] w fun e w' => e = .returned (.bool (Sc.isNum n)) ∧ w' = w := by
  unfold Sc.isNum Tr.between
  by_cases h1 : -1000000 ≤ n
  · have g1 : decide (-1000000 ≤ n) = true := decide_eq_true h1
    go_enter Tryz.func109, Tryz.ntmps109
    go_wp2
    go_ret
    exact ⟨by rw [g1]; rfl, rfl⟩
  · have g1 : decide (-1000000 ≤ n) = false := decide_eq_false h1
    clear h1
    go_enter Tryz.func109, Tryz.ntmps109
    go_wp2
    go_ret
    exact ⟨by rw [g1]; rfl, rfl⟩

/-- A row of numbers of one's own. -/
abbrev IRow (w : World) (B : Nat) (v : Value) (l : List Int) : Prop := w.ownsRow B 3 1 v l.length (l.map (Value.int .i64))
theorem IRow.ints {w : World} {B : Nat} {v : Value} {l : List Int} (h : IRow w B v l) : IntsV w v l := own_ints h
end Go.Proofs.YthenjegmigeieaaGreat

/- fill.Fact: terms with numbers in place of their variables. -/
namespace Go.Proofs.YthenjegmigeieaaGreat
open Go.RowKit

def fillFV (FB : Nat) (RV VX : Value) (t : Sc.Term) (n : Int) (tQ : Nat) (vQ : Value) : Prop :=
  match tQ with
  | 18 => vQ = (.pointer (some ⟨FB, 1, none⟩) : Value)
  | 19 => vQ = (RV : Value)
  | 20 => vQ = (ptermVal t : Value)
  | 21 => vQ = (VX : Value)
  | 22 => vQ = (.int .i64 n : Value)
  | _ => True
def fillFT (FB : Nat) (RV VX : Value) (t : Sc.Term) (n : Int) (tQ : Nat) (vQ : Value) (WQ : World) : Prop := if tQ = 23 then ∃ b', vQ = .slice (some ⟨b', 0, none⟩) 1 1 ∧ WQ.heap[b']? = some (.cells #[.int .i64 n] 3) else fillFV FB RV VX t n tQ vQ
theorem fillFT_mono (FB : Nat) (RV VX : Value) (t : Sc.Term) (n : Int) (tQ : Nat) (vQ : Value) (W W' : World) (hb : Below W.heap.size W W') (h : fillFT FB RV VX t n tQ vQ W) : fillFT FB RV VX t n tQ vQ W' := by
  unfold fillFT at h ⊢
  by_cases ht : tQ = 23
  · rw [if_pos ht] at h ⊢
    obtain ⟨b', h1, h2⟩ := h
    exact ⟨b', h1, (hb.block b' (Array.getElem?_eq_some_iff.mp h2).1).trans h2⟩
  · rw [if_neg ht] at h ⊢
    exact h

set_option maxRecDepth 100000 in
set_option maxHeartbeats 1000000 in
theorem FillFact_any (pd : Int) (ts : List Sc.Term) (x : List Int) (vt vx : Value) (w : World) (hT : PTermsV w vt ts) (hX : IntsV w vx x) (hl : ts.length ≤ 1000000) (hI : Ru.TermsIn x.length ts) :
    Calls Tryz.prog 57 #[.int .i64 pd, vt, vx] w fun e w' => ∃ v, e = .returned (.agg #[.int .i64 pd, v]) ∧ IRow w' w.heap.size v (Ru.fill ts x) ∧ Below w.heap.size w w' := by
  obtain ⟨i0, hi, hz0, hz1, hz2⟩ := info_parts rl_info3
  obtain ⟨at_, ct, rfl, _, hT⟩ := hT
  obtain ⟨ax, cx, rfl, _⟩ := id hX
  have HT : Hid _ := hT
  have HX : Hid _ := hX
  have HTI : Hid _ := hI
  obtain ⟨h0, h1, hb⟩ := ru_two w (.cells #[.int .i64 0, .slice none 0 0] 55) (.cells #[.int .i64 pd, .slice none 0 0] 55)
  have H0 : Hid _ := h0
  have H1 : Hid _ := h1
  have HB : Hid _ := hb
  clear hT hX hI h0 h1 hb
  go_enter Tryz.func57, Tryz.ntmps57
  go_wp2_with fail
  generalize (w.alloc (.cells #[.int .i64 0, .slice none 0 0] 55)).alloc (.cells #[.int .i64 pd, .slice none 0 0] 55) = w1 at *
  go_loopw [14] (fun i wr => ∃ k : Nat, k ≤ ts.length ∧ i = .int .i64 k ∧ ∃ vs : Value, wr.heap[w.heap.size]? = some (.cells #[.int .i64 0, .slice none 0 0] 55) ∧ wr.heap[w.heap.size + 1]? = some (.cells #[.int .i64 pd, vs] 55) ∧ wr.ownsRow (w.heap.size + 2) 3 1 vs k ((Ru.fill (ts.take k) x).map (Value.int .i64)) ∧ Below w.heap.size w wr) (fun i _ => ts.length - (intOf i).toNat)
  case atStart => exact ⟨0, Nat.zero_le _, rfl, _, H0.out, H1.out, World.ownsRow_nil _ _ _ _, HB.out⟩
  case round =>
    clear H0 H1 HB
    obtain ⟨k, hk, rfl, vs, h0, h1, ho, hb⟩ := hrel
    obtain ⟨au, cu, rfl⟩ := own_slice ho
    have HZ : Hid _ := h0
    have HF : Hid _ := h1
    have HO : Hid _ := ho
    have HB : Hid _ := hb
    clear h0 h1 ho hb
    by_cases hlt : k < ts.length
    · obtain ⟨b, off, rfl, hc⟩ := pterms_at HT.out k hlt
      have hc := hc k hlt
      have q0 := cell_below HB.out hc.1
      have q1 := cell_below HB.out hc.2
      have HTK : Hid (Ru.fill (ts.take (k + 1)) x = Ru.fill (ts.take k) x ++ [Ru.num x (Sc.termD ts k)]) := by
        show _ = _
        unfold Ru.fill
        rw [List.take_add_one, List.map_append]
        congr 1
        unfold Sc.termD
        rw [List.getD_eq_getElem?_getD, List.getElem?_eq_getElem hlt]
        rfl
      have HTI2 : Hid (Ru.TermIn x.length (Sc.termD ts k)) := HTI.out _ (Ru.termD_mem hlt)
      clear hc
      generalize Sc.termD ts k = t at *
      go_upto_region 5 with fail
      have bT := (Below.refl wr.heap.size wr).alloc (Nat.le_refl _) (.cells #[.int .i64 t.var, .int .i64 t.n] 147)
      have hTB := heap_alloc_new wr (.cells #[.int .i64 t.var, .int .i64 t.n] 147)
      have t0 : (wr.alloc (.cells #[.int .i64 t.var, .int .i64 t.n] 147)).cell? ⟨wr.heap.size, 0, none⟩ = some (.int .i64 t.var) := by rw [Lib.cell_of_heap hTB]; rfl
      have t1 : (wr.alloc (.cells #[.int .i64 t.var, .int .i64 t.n] 147)).cell? ⟨wr.heap.size, 1, none⟩ = some (.int .i64 t.n) := by rw [Lib.cell_of_heap hTB]; rfl
      have HZq : Hid _ := (bT.block _ (heap_lt HZ.out)).trans HZ.out
      have HFq : Hid _ := (bT.block _ (heap_lt HF.out)).trans HF.out
      have HOq : Hid _ := ownsRow_below HO.out bT
      have HBq : Hid _ := HB.out.trans (bT.mono HB.out.size)
      have HXq : Hid _ := intsV_below HX.out HBq.out
      clear q0 q1 bT hTB HZ HF HO HB
      generalize wr.alloc (.cells #[.int .i64 t.var, .int .i64 t.n] 147) = wq at *
      generalize wr.heap.size = TB at *
      have cF1 : wq.cell? ⟨w.heap.size + 1, 1, none⟩ = some (.slice au k cu) := by rw [Lib.cell_of_heap HFq.out]; rfl
      refine wp_region_tail (fillFT (w.heap.size + 1) (.slice au k cu) (.slice ax x.length cx) t (Ru.num x t)) 6 (by decide) (by kernel_rfl) (by kernel_rfl) (by kernel_rfl) (fillFT_mono (w.heap.size + 1) (.slice au k cu) (.slice ax x.length cx) t (Ru.num x t)) ?hop ?htail
      case hop =>
        refine AllOps.cons (fun a y h => ?_) ?_
        · have e7 : a.eval (.tmp 7) = (.pointer (some ⟨w.heap.size + 1, 0, none⟩) : Value) := h.old 7 (by kernel_rfl)
          refine opOk_val (v := .pointer (some ⟨w.heap.size + 1, 1, none⟩)) (w' := y) (wanted_none rfl) ?_ (fun t ht => by cases ht; exact rfl) (Below.refl _ _)
          have ec : ∀ v, a.eval (.const v) = v := fun _ => rfl
          generalize a.eval = ev at *
          clear h
          go_simp
        refine AllOps.cons (fun a y h => ?_) ?_
        · have e18 : a.eval (.tmp 18) = (.pointer (some ⟨w.heap.size + 1, 1, none⟩) : Value) := h.of 18 (by kernel_rfl)
          have cF := cell_below h.below cF1
          refine opOk_val (v := .slice au k cu) (w' := y) (wanted_none rfl) ?_ (fun t ht => by cases ht; exact rfl) (Below.refl _ _)
          have ec : ∀ v, a.eval (.const v) = v := fun _ => rfl
          generalize a.eval = ev at *
          clear h
          go_simp
        refine AllOps.cons (fun a y h => ?_) ?_
        · have e9 : a.eval (.tmp 9) = (.pointer (some ⟨TB, 0, none⟩) : Value) := h.old 9 (by kernel_rfl)
          have c0 := cell_below h.below t0
          have c1 := cell_below h.below t1
          refine opOk_val (v := ptermVal t) (w' := y) (wanted_none rfl) ?_ (fun t ht => by cases ht; exact rfl) (Below.refl _ _)
          have ec : ∀ v, a.eval (.const v) = v := fun _ => rfl
          generalize a.eval = ev at *
          clear h
          go_simp
        refine AllOps.cons (fun a y h => ?_) ?_
        · have e2 : a.eval (.tmp 2) = (.slice ax x.length cx : Value) := h.old 2 (by kernel_rfl)
          refine opOk_val (v := .slice ax x.length cx) (w' := y) (wanted_none rfl) ?_ (fun t ht => by cases ht; exact rfl) (Below.refl _ _)
          have ec : ∀ v, a.eval (.const v) = v := fun _ => rfl
          generalize a.eval = ev at *
          clear h
          go_simp
        refine AllOps.cons (fun a y h => ?_) ?_
        · have e20 : a.eval (.tmp 20) = (ptermVal t : Value) := h.of 20 (by kernel_rfl)
          have e21 : a.eval (.tmp 21) = (.slice ax x.length cx : Value) := h.of 21 (by kernel_rfl)
          refine opOk_call (f := 105) (args := #[ptermVal t, .slice ax x.length cx]) (wanted_none rfl) ?_ ?_
          · have ec : ∀ v, a.eval (.const v) = v := fun _ => rfl
            have ef : ∀ f, a.eval (.func f) = .func (.func f) #[] #[] := fun _ => rfl
            generalize a.eval = ev at *
            clear h
            go_simp
          · refine Calls.mono (Number_any t x _ y (intsV_below HXq.out h.below) HTI2.out) ?_
            rintro _ y2 ⟨rfl, hb2⟩
            exact ⟨_, rfl, fun t ht => by cases ht; exact rfl, hb2⟩
        refine AllOps.cons (fun a y h => ?_) ?_
        · have e22 : a.eval (.tmp 22) = (.int .i64 (Ru.num x t) : Value) := h.of 22 (by kernel_rfl)
          refine opOk_val (v := .slice (some ⟨y.heap.size, 0, none⟩) 1 1) (w' := y.alloc (.cells #[.int .i64 (Ru.num x t)] 3)) (wanted_none rfl) ?_ (fun t ht => by cases ht; exact ⟨_, rfl, heap_alloc_new y _⟩) ((Below.refl _ _).alloc (Nat.le_refl _) _)
          have ec : ∀ v, a.eval (.const v) = v := fun _ => rfl
          generalize a.eval = ev at *
          clear h
          go_simp
        exact AllOps.nil
      case htail =>
        rintro ⟨tm0, df⟩ y hI
        have e19 : Act.eval ⟨tm0, df⟩ (.tmp 19) = (.slice au k cu) := hI.all 1 _ 19 (by decide) rfl rfl
        obtain ⟨b', e23, hb'⟩ : ∃ b', Act.eval ⟨tm0, df⟩ (.tmp 23) = .slice (some ⟨b', 0, none⟩) 1 1 ∧ y.heap[b']? = some (.cells #[.int .i64 (Ru.num x t)] 3) := hI.all 5 _ 23 (by decide) rfl rfl
        have e7 : Act.eval ⟨tm0, df⟩ (.tmp 7) = .pointer (some ⟨w.heap.size + 1, 0, none⟩) := hI.still 7 (by decide)
        have hoy := ownsRow_below HOq.out hI.below
        have hFy := (hI.below.block _ (Array.getElem?_eq_some_iff.mp HFq.out).1).trans HFq.out
        have hby : Below w.heap.size w y := HBq.out.trans (hI.below.mono HBq.out.size)
        have hszF : w.heap.size + 2 ≤ y.heap.size := (Array.getElem?_eq_some_iff.mp hFy).1
        show wpOps Tryz.prog _ _ [6, 7, 8] _ _
        rw [wpOps_cons]
        refine wpOp_wp rfl (wanted_none rfl) (wp_append_own y (.tmp 19) (.tmp 23) 22 rfl (w.heap.size + 2) 3 i0 _ 1 8 Tryz.underlying22 hi hz0 hz1 hz2 rfl (by decide) (.slice au k cu) k ((Ru.fill (ts.take k) x).map (Value.int .i64)) e19 hoy ⟨b', 0, none⟩ 1 1 (#[.int .i64 (Ru.num x t)] : Array Value).toList e23 rfl (row_news hb') ?h1 ?h63 ?hby hszF ?_)
        case h1 =>
          intro u hu
          simp only [List.mem_cons, List.not_mem_nil, or_false] at hu
          subst hu; rfl
        case h63 => unfold maxLen; omega
        case hby => omega
        intro v9 w9 ho9 hg9 _
        obtain ⟨av, cv, rfl⟩ := own_slice ho9
        have hown9 : ∀ kQ, ((.slice au k cu) : Value).ownBlock = some kQ → w.heap.size + 2 ≤ kQ := fun kQ hk => (hoy.lt kQ hk).1
        have hF9 : w9.heap[w.heap.size + 1]? = some (.cells #[.int .i64 pd, .slice au k cu] 55) := (hg9.block (w.heap.size + 1) (Array.getElem?_eq_some_iff.mp hFy).1 (fun e => by have := hown9 (w.heap.size + 1) e.symm; omega)).trans hFy
        have hb9 : Below w.heap.size w w9 := hby.grown hg9 hby.size (fun kQ hk => by have := hown9 kQ hk; omega)
        rw [wpOps_cons]
        refine wpOp_val (v := .pointer (some ⟨w.heap.size + 1, 1, none⟩)) (w' := w9) rfl (wanted_none rfl) ?_ ?_
        · have e7' : Act.eval (Act.put ⟨tm0, df⟩ (some 24) (.slice av (k + 1) cv)) (.tmp 7) = .pointer (some ⟨w.heap.size + 1, 0, none⟩) := (put_get_ne (a := ⟨tm0, df⟩) (t := 24) (u := 7) (by decide)).trans e7
          show Sem.run Tryz.prog (execOp (Act.eval (Act.put ⟨tm0, df⟩ (some 24) (.slice av (k + 1) cv))) _) w9 = _
          generalize Act.eval (Act.put ⟨tm0, df⟩ (some 24) (.slice av (k + 1) cv)) = ev at *
          clear hI
          go_simp
        have hsN : tm0.size = 28 := hI.size
        have e25 : Act.eval (Act.put (Act.put ⟨tm0, df⟩ (some 24) (.slice av (k + 1) cv)) (some 25) (.pointer (some ⟨w.heap.size + 1, 1, none⟩))) (.tmp 25) = .pointer (some ⟨w.heap.size + 1, 1, none⟩) := put_get_self (by rw [put_size]; show 25 < tm0.size; omega)
        have e24 : Act.eval (Act.put (Act.put ⟨tm0, df⟩ (some 24) (.slice av (k + 1) cv)) (some 25) (.pointer (some ⟨w.heap.size + 1, 1, none⟩))) (.tmp 24) = (.slice av (k + 1) cv) := (put_get_ne (by decide)).trans (put_get_self (by show 24 < tm0.size; omega))
        have cF9 : w9.cell? ⟨w.heap.size + 1, 1, none⟩ = some (.slice au k cu) := by rw [Lib.cell_of_heap hF9]; rfl
        have fF9 := Lib.frozen_of_heap hF9 1
        rw [wpOps_cons]
        refine wpOp_void rfl (wanted_none rfl) rfl (w' := w9.setCell ⟨w.heap.size + 1, 1, none⟩ (.slice av (k + 1) cv)) ?_ ?_
        · show Sem.run Tryz.prog (execOp (Act.eval (Act.put (Act.put ⟨tm0, df⟩ (some 24) (.slice av (k + 1) cv)) (some 25) (.pointer (some ⟨w.heap.size + 1, 1, none⟩)))) _) w9 = _
          generalize Act.eval (Act.put (Act.put ⟨tm0, df⟩ (some 24) (.slice av (k + 1) cv)) (some 25) (.pointer (some ⟨w.heap.size + 1, 1, none⟩))) = ev at *
          clear hI
          go_simp
        have hF9b : (w9.setCell ⟨w.heap.size + 1, 1, none⟩ (.slice av (k + 1) cv)).heap[w.heap.size + 1]? = some (.cells #[.int .i64 pd, (.slice av (k + 1) cv)] 55) := by rw [Lib.heap_setCell_same hF9]; rfl
        have ho9b : (w9.setCell ⟨w.heap.size + 1, 1, none⟩ (.slice av (k + 1) cv)).ownsRow (w.heap.size + 2) 3 1 (.slice av (k + 1) cv) (k + 1) ((Ru.fill (ts.take k) x).map (Value.int .i64) ++ (#[.int .i64 (Ru.num x t)] : Array Value).toList) := by
          refine rl_own_alone ho9 (fun g hg => heap_set_other (fun e => ?_))
          have := (ho9.lt g hg).1
          omega
        have hb9b : Below w.heap.size w (w9.setCell ⟨w.heap.size + 1, 1, none⟩ (.slice av (k + 1) cv)) := hb9.setCell (p := ⟨w.heap.size + 1, 1, none⟩) (by show w.heap.size ≤ w.heap.size + 1; omega) _
        have HZ9 : (w9.setCell ⟨w.heap.size + 1, 1, none⟩ (.slice av (k + 1) cv)).heap[w.heap.size]? = some (.cells #[.int .i64 0, .slice none 0 0] 55) := (heap_set_other (by omega)).trans ((hg9.block (w.heap.size) (by omega) (fun e => by have := hown9 _ e.symm; omega)).trans ((hI.below.block _ (heap_lt HZq.out)).trans HZq.out))
        have hst : ∀ t, t ∉ [18, 19, 20, 21, 22, 23, 24, 25] → ((tm0.setIfInBounds 24 (.slice av (k + 1) cv)).setIfInBounds 25 (.pointer (some ⟨w.heap.size + 1, 1, none⟩))).getD t undef = _ := fun t ht => by
          have hA : t ≠ 24 := fun e => ht (by rw [e]; decide)
          have hB : t ≠ 25 := fun e => ht (by rw [e]; decide)
          exact ((put_get_ne (a := Act.put ⟨tm0, df⟩ (some 24) (.slice av (k + 1) cv)) hB).trans (put_get_ne (a := ⟨tm0, df⟩) hA)).trans (hI.still t ht)
        obtain rfl : df = [] := hI.defers
        clear hI e19 e23 hb' e7 hoy hFy hby hszF ho9 hg9 hown9 hF9 hb9 e25 e24 cF9 fF9
        generalize w9.setCell ⟨w.heap.size + 1, 1, none⟩ (.slice av (k + 1) cv) = y9 at *
        have hs2 : ((tm0.setIfInBounds 24 (.slice av (k + 1) cv)).setIfInBounds 25 (.pointer (some ⟨w.heap.size + 1, 1, none⟩))).size = 28 := by simp [hsN]
        show Exit.inBlock 1 (Exit.then _ _) Exit.normal ⟨(tm0.setIfInBounds 24 (.slice av (k + 1) cv)).setIfInBounds 25 (.pointer (some ⟨w.heap.size + 1, 1, none⟩)), []⟩ y9
        generalize (tm0.setIfInBounds 24 (.slice av (k + 1) cv)).setIfInBounds 25 (.pointer (some ⟨w.heap.size + 1, 1, none⟩)) = tm at *
        have hF8 := tmps_fold [18, 19, 20, 21, 22, 23, 24, 25] tm _ (hs2.trans (by rfl)) hst
        clear hs2 hst hsN
        simp only [List.foldl_cons, List.foldl_nil] at hF8
        generalize tm.getD 18 undef = x18 at hF8
        generalize tm.getD 19 undef = x19 at hF8
        generalize tm.getD 20 undef = x20 at hF8
        generalize tm.getD 21 undef = x21 at hF8
        generalize tm.getD 22 undef = x22 at hF8
        generalize tm.getD 23 undef = x23 at hF8
        generalize tm.getD 24 undef = x24 at hF8
        generalize tm.getD 25 undef = x25 at hF8
        simp only [List.setIfInBounds_toArray, List.set_cons_zero, List.set_cons_succ] at hF8
        subst hF8
        have HO5 : Hid (y9.ownsRow (w.heap.size + 2) 3 1 (.slice av (k + 1) cv) (k + 1) ((Ru.fill (ts.take (k + 1)) x).map (Value.int .i64))) := by
          rw [HTK.out, List.map_append]
          exact ho9b
        clear ho9b
        go_wp2_with fail
        go_roundw
        case rel => exact ⟨k + 1, hlt, by go_num, _, HZ9, hF9b, HO5.out, hb9b⟩
        case measure => simp [intOf]; omega
    · have hdd : decide (k < ts.length) = false := decide_eq_false hlt
      have HTK : Hid (Ru.fill (ts.take k) x = Ru.fill ts x) := by show _ = _; rw [List.take_of_length_le (by omega)]
      have hfl : (Ru.fill (ts.take k) x).length = k := by unfold Ru.fill; rw [List.length_map, List.length_take]; omega
      have g0 : wr.cell? ⟨w.heap.size + 1, 0, none⟩ = some (.int .i64 pd) := by rw [Lib.cell_of_heap HF.out]; rfl
      have g1 : wr.cell? ⟨w.heap.size + 1, 1, none⟩ = some (.slice au k cu) := by rw [Lib.cell_of_heap HF.out]; rfl
      have z0 : wr.cell? ⟨w.heap.size, 0, none⟩ = some (.int .i64 0) := by rw [Lib.cell_of_heap HZ.out]; rfl
      have z1 : wr.cell? ⟨w.heap.size, 1, none⟩ = some (.slice none 0 0) := by rw [Lib.cell_of_heap HZ.out]; rfl
      have y0 := Lib.frozen_of_heap HZ.out 0
      have y1 := Lib.frozen_of_heap HZ.out 1
      have hS0 : (wr.setCell ⟨w.heap.size, 0, none⟩ (.int .i64 pd)).heap[w.heap.size]? = some (.cells #[.int .i64 pd, .slice none 0 0] 55) := by rw [Lib.heap_setCell_same HZ.out]; rfl
      have z2 : (wr.setCell ⟨w.heap.size, 0, none⟩ (.int .i64 pd)).cell? ⟨w.heap.size, 1, none⟩ = some (.slice none 0 0) := by rw [Lib.cell_of_heap hS0]; rfl
      have y2 := Lib.frozen_of_heap hS0 1
      have hS1 : ((wr.setCell ⟨w.heap.size, 0, none⟩ (.int .i64 pd)).setCell ⟨w.heap.size, 1, none⟩ (.slice au k cu)).heap[w.heap.size]? = some (.cells #[.int .i64 pd, .slice au k cu] 55) := by rw [Lib.heap_setCell_same hS0]; rfl
      have d0 : ((wr.setCell ⟨w.heap.size, 0, none⟩ (.int .i64 pd)).setCell ⟨w.heap.size, 1, none⟩ (.slice au k cu)).cell? ⟨w.heap.size, 0, none⟩ = some (.int .i64 pd) := by rw [Lib.cell_of_heap hS1]; rfl
      have d1 : ((wr.setCell ⟨w.heap.size, 0, none⟩ (.int .i64 pd)).setCell ⟨w.heap.size, 1, none⟩ (.slice au k cu)).cell? ⟨w.heap.size, 1, none⟩ = some (.slice au k cu) := by rw [Lib.cell_of_heap hS1]; rfl
      have HR : Hid (IRow ((wr.setCell ⟨w.heap.size, 0, none⟩ (.int .i64 pd)).setCell ⟨w.heap.size, 1, none⟩ (.slice au k cu)) w.heap.size (.slice au k cu) (Ru.fill ts x)) := by
        rw [← HTK.out]
        show World.ownsRow _ _ _ _ _ (Ru.fill (ts.take k) x).length _
        rw [hfl]
        refine rl_own_le ?_ (Nat.le_add_right _ 2)
        refine rl_own_alone HO.out (fun g hg => ?_)
        have := (World.ownsRow.lt HO.out g hg).1
        rw [heap_set_other (by omega), heap_set_other (by omega)]
      have HB9 : Hid (Below w.heap.size w ((wr.setCell ⟨w.heap.size, 0, none⟩ (.int .i64 pd)).setCell ⟨w.heap.size, 1, none⟩ (.slice au k cu))) := (HB.out.setCell (Nat.le_refl _) _).setCell (Nat.le_refl _) _
      clear hS0 hS1 hfl
      go_wp2_with fail
      refine bodyPost_ret (v := .agg #[.int .i64 pd, .slice au k cu]) (by simp [results, Tryz.results57, go_sem, d0, d1]) rfl ⟨_, rfl, HR.out, HB9.out⟩
end Go.Proofs.YthenjegmigeieaaGreat

