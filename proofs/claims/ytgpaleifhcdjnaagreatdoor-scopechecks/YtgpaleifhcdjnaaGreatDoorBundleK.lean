/- Own texts, one behind the other (part 11). -/
import Derived.Test.YtgpaleifhcdjnaaGreatDoorBundleJ
import Derived.Test.YtgpaleifhcdjnaaGreatDoorRows
import Derived.Test.YtgpaleifhcdjnaaGreatDoorCards
import Derived.Test.YtgpaleifhcdjnaaGreatDoorTie
import Derived.ProofKit
import Derived.Deep.Slices
import Derived.Deep.Strs
import Derived.LaidLaws
/- The document's check of a fact. -/
namespace Go.Proofs.YtgpaleifhcdjnaaGreatDoor
open Go.RowKit

set_option maxRecDepth 100000 in
set_option maxHeartbeats 4000000 in
theorem CheckFact_any (p : Sc.Prog) (va vn vr : Value) (pred : Int) (args : List Int) (v : Value) (w : World) (hA : IntsV w va p.arity) (har : p.arity.length ≤ 9223372036854775807) (hV : IntsV w v args) (hmax : args.length ≤ 9223372036854775807) :
    Calls Tryz.prog 8 #[progVal va vn vr, factVal pred v] w fun e w' => e = .returned (.int .i64 (Sc.factErr p pred args)) ∧ Below w.heap.size w w' := by
  obtain ⟨ao, cap, rfl, hA⟩ := hA
  obtain ⟨ag, cg, rfl, hG⟩ := hV
  have HE : Hid (Sc.factErr p pred args = if Sc.isPred p.arity pred then Sc.thn (if (args.length : Int) ≠ Sc.intD p.arity pred.toNat then 1 else 0) (if args.all Sc.isNum then 0 else 3) else 5) := rfl
  have hR := RB.start w (.cells #[.slice ao p.arity.length cap, vn, vr] 26) (.cells #[.int .i64 pred, .slice ag args.length cg] 28)
  go_enter Tryz.func8, Tryz.ntmps8
  go_wp2_with fail
  refine (btw_any _ _ _ _).mono ?_
  rintro e w2 ⟨he, hw2⟩
  subst hw2
  cases g1 : Sc.isPred p.arity pred
  · have hbt : Tr.between pred 0 ((p.arity.length : Int) - 1) = false := g1
    rw [hbt] at he
    subst he
    have HV : Hid (Sc.factErr p pred args = 5) := by show _ = _; rw [HE.out, g1]; rfl
    clear HE hA hbt
    go_wp2_with fail
    go_ret
    exact ⟨by rw [HV.out]; rfl, hR.bel⟩
  have hbt : Tr.between pred 0 ((p.arity.length : Int) - 1) = true := g1
  rw [hbt] at he
  subst he
  clear hbt
  obtain ⟨k, rfl, hk⟩ := nat_of g1
  obtain ⟨b, off, rfl, hc⟩ := ints_at hA k hk
  have hq := cell_below hR.bel hc
  rw [g1, if_pos rfl, Int.toNat_natCast] at HE
  clear hc hA
  go_upto_region 3 with fail
  generalize (w.alloc (.cells #[.slice (some ⟨b, off, none⟩) p.arity.length cap, vn, vr] 26)).alloc (.cells #[.int .i64 k, .slice ag args.length cg] 28) = w1 at *
  have c1 : w1.cell? ⟨w.heap.size, 0, none⟩ = some (.slice (some ⟨b, off, none⟩) p.arity.length cap) := by rw [Lib.cell_of_heap hR.b1]; rfl
  have d0 : w1.cell? ⟨w.heap.size + 1, 0, none⟩ = some (.int .i64 k) := by rw [Lib.cell_of_heap hR.b2]; rfl
  have d1 : w1.cell? ⟨w.heap.size + 1, 1, none⟩ = some (.slice ag args.length cg) := by rw [Lib.cell_of_heap hR.b2]; rfl
  cases g2 : ((args.length : Int) != Sc.intD p.arity k)
  rotate_left
  · have h2 : ¬ (args.length : Int) = Sc.intD p.arity k := by simpa using g2
    have HV : Hid (Sc.factErr p k args = 1) := by show _ = _; rw [HE.out, if_pos h2]; rfl
    clear HE h2
    go_region_held3 (fun y => y.cell? ⟨w.heap.size, 0, none⟩ = some (.slice (some ⟨b, off, none⟩) p.arity.length cap) ∧ y.cell? ⟨w.heap.size + 1, 0, none⟩ = some (.int .i64 k) ∧ y.cell? ⟨w.heap.size + 1, 1, none⟩ = some (.slice ag args.length cg) ∧ y.cell? ⟨b, off + k, none⟩ = some (.int .i64 (Sc.intD p.arity k))) (go_keep) (fail)
    have hbd := hR.bel.drew
    go_wp2_with fail
    go_ret
    exact ⟨by rw [HV.out]; rfl, hbd⟩
  have h2 : (args.length : Int) = Sc.intD p.arity k := by simpa using g2
  rw [if_neg (by simp [h2]), Sc.thn_zero] at HE
  clear h2
  go_region_held3 (fun y => y.cell? ⟨w.heap.size, 0, none⟩ = some (.slice (some ⟨b, off, none⟩) p.arity.length cap) ∧ y.cell? ⟨w.heap.size + 1, 0, none⟩ = some (.int .i64 k) ∧ y.cell? ⟨w.heap.size + 1, 1, none⟩ = some (.slice ag args.length cg) ∧ y.cell? ⟨b, off + k, none⟩ = some (.int .i64 (Sc.intD p.arity k))) (go_keep) (fail)
  have hR := hR.drew
  clear c1 d0 d1 hq
  generalize w1.drew = wd at *
  go_wp2_with fail
  go_loopw [5] (fun i wr => ∃ j : Nat, j ≤ args.length ∧ i = .int .i64 j ∧ RB w (.cells #[.slice (some ⟨b, off, none⟩) p.arity.length cap, vn, vr] 26) (.cells #[.int .i64 k, .slice ag args.length cg] 28) wr ∧ args.all Sc.isNum = (args.drop j).all Sc.isNum) (fun i _ => args.length - (intOf i).toNat)
  case atStart => exact ⟨0, Nat.zero_le _, rfl, hR, rfl⟩
  case round =>
    clear hR
    obtain ⟨j, hj, rfl, hR, hall⟩ := hrel
    have HAL : Hid _ := hall
    clear hall
    have d1 : wr.cell? ⟨w.heap.size + 1, 1, none⟩ = some (.slice ag args.length cg) := by rw [Lib.cell_of_heap hR.b2]; rfl
    by_cases hjl : j < args.length
    · obtain ⟨b3, off3, rfl, hc⟩ := ints_at hG j hjl
      have q0 := cell_below hR.bel hc
      have HD : Hid (args.all Sc.isNum = (Sc.isNum (Sc.intD args j) && (args.drop (j + 1)).all Sc.isNum)) := HAL.out.trans (all_drop _ _ _ j hjl)
      clear hc hG HAL
      generalize Sc.intD args j = a at *
      go_wp2_with fail
      refine (refNum_any a _).mono ?_
      rintro e w3 ⟨he, rfl⟩
      cases hx : Sc.isNum a
      · rw [hx] at he
        subst he
        have HV : Hid (Sc.factErr p k args = 3) := by show _ = _; rw [HE.out, HD.out, hx]; rfl
        clear HE HD
        go_wp2_with fail
        go_ret
        exact ⟨by rw [HV.out]; rfl, hR.bel⟩
      · rw [hx] at he
        subst he
        have HV : Hid (args.all Sc.isNum = (args.drop (j + 1)).all Sc.isNum) := by show _ = _; rw [HD.out, hx]; rfl
        clear HD
        go_wp2_with fail
        go_roundw
        case rel => exact ⟨j + 1, by omega, by go_num, hR, HV.out⟩
        case measure => simp [intOf]; omega
    · have HV : Hid (Sc.factErr p k args = 0) := by show _ = _; rw [HE.out, HAL.out, List.drop_of_length_le (by omega)]; rfl
      clear HE hG
      go_wp2_with fail
      go_ret
      exact ⟨by rw [HV.out]; rfl, hR.bel⟩

end Go.Proofs.YtgpaleifhcdjnaaGreatDoor

/- The laws of package scope: plain facts. -/
namespace Go.Proofs.YtgpaleifhcdjnaaGreatDoor
open Go.RowKit

theorem check_lens {p : Sc.Prog} (h : Sc.check p = 0) : p.arity.length = p.names.length := by
  unfold Sc.check at h
  split at h
  · exact absurd h (by decide)
  · split at h
    · exact absurd h (by decide)
    · rename_i hn
      omega
theorem resolveOf_fit (l : List Tr.Rule) : ProgFit (Sc.resolveOf l).1 := by
  have h0 : ProgFit ⟨[], [], []⟩ := ⟨by decide, by decide, by decide, fun i hi => absurd hi (by simp)⟩
  unfold Sc.resolveOf
  split
  · rename_i hc
    rcases hr : Sc.resolve l with e | p
    · exact h0
    · simp only
      split
      · rename_i hk
        exact resolve_fit hr hc (check_lens hk)
      · exact h0
  · exact h0
theorem resolveOf_check {l : List Tr.Rule} (h : (Sc.resolveOf l).2.2 = 0) : Sc.check (Sc.resolveOf l).1 = 0 := by
  unfold Sc.resolveOf at h ⊢
  split at h
  · rename_i hc
    rw [if_pos hc]
    rcases hr : Sc.resolve l with e | p
    · rw [hr] at h
      exact absurd h (resolve_bad hr)
    · rw [hr] at h
      simp only at h ⊢
      split at h
      · rename_i hk
        rw [if_pos hk]
        exact hk
      · rename_i hk
        exact absurd h hk
  · exact absurd h (by decide)
theorem programOf_check {X : List Tr.Rule × Int × Int} (h : (Sc.programOf X).2.2 = 0) : Sc.check (Sc.programOf X).1 = 0 := by
  unfold Sc.programOf at h ⊢
  split at h
  · rename_i hc
    rw [if_pos hc]
    exact resolveOf_check h
  · rename_i hc
    exact absurd h hc
theorem programOf_fit (X : List Tr.Rule × Int × Int) : ProgFit (Sc.programOf X).1 := by
  have h0 : ProgFit ⟨[], [], []⟩ := ⟨by decide, by decide, by decide, fun i hi => absurd hi (by simp)⟩
  unfold Sc.programOf
  split
  · exact resolveOf_fit X.1
  · exact h0
end Go.Proofs.YtgpaleifhcdjnaaGreatDoor

/- The law of package scope: Check and Fact. -/
namespace Go.Proofs.YtgpaleifhcdjnaaGreatDoor
open Go.RowKit

set_option maxRecDepth 100000 in
set_option maxHeartbeats 2000000 in
theorem law_scopeChecks (p : Sc.Prog) (pred : Int) (args : List Int) (w : World) (va vn vr v : Value) (hP : ProgV w va vn vr p) (hF : ProgFit p) (hV : IntsV w v args) (hmax : args.length ≤ 9223372036854775807) :
    Calls Tryz.prog 3 #[progVal va vn vr, factVal pred v] w fun e w' => e = .returned (.bool true) ∧ Below w.heap.size w w' := by
  have HPV : Hid (ProgV w va vn vr p) := hP
  have HFT : Hid (ProgFit p) := hF
  have HIV : Hid (IntsV w v args) := hV
  have HMX : Hid (args.length ≤ 9223372036854775807) := hmax
  obtain ⟨a0, n0, rfl, _⟩ := id hP.ar
  obtain ⟨a1, n1, rfl, _⟩ := id hP.nm
  obtain ⟨a2, n2, rfl, _⟩ := id hP.rl
  obtain ⟨ag, ng, rfl, _⟩ := id hV
  have t2 := two_blocks (w := w) (o1 := .cells #[.slice a0 p.arity.length n0, .slice a1 p.names.length n1, .slice a2 p.rules.length n2] 26) (o2 := .cells #[.int .i64 pred, .slice ag args.length ng] 28) (Below.refl _ _)
  have hbw := below_two w (.cells #[.slice a0 p.arity.length n0, .slice a1 p.names.length n1, .slice a2 p.rules.length n2] 26) (.cells #[.int .i64 pred, .slice ag args.length ng] 28)
  clear hP hF hV hmax
  go_enter Tryz.func3, Tryz.ntmps3
  go_wp2_with fail
  generalize (w.alloc (.cells #[.slice a0 p.arity.length n0, .slice a1 p.names.length n1, .slice a2 p.rules.length n2] 26)).alloc (.cells #[.int .i64 pred, .slice ag args.length ng] 28) = w1 at *
  refine Calls.mono (CheckProgram_any p _ _ _ _ (HPV.out.below hbw) HFT.out) ?_
  rintro e w2 ⟨rfl, hb2⟩
  have hP2 := (hb2.block _ (heap_lt t2.1)).trans t2.1
  have hF2 := (hb2.block _ (heap_lt t2.2)).trans t2.2
  have hbw2 := hbw.trans (hb2.mono hbw.size)
  clear t2 hbw hb2
  have HFC : Hid (Sc.fact p pred args = Sc.thn (Sc.check p) (Sc.factErr p pred args)) := rfl
  have p0 : w2.cell? ⟨w.heap.size, 0, none⟩ = some (.slice a0 p.arity.length n0) := by rw [Lib.cell_of_heap hP2]; rfl
  have p1 : w2.cell? ⟨w.heap.size, 1, none⟩ = some (.slice a1 p.names.length n1) := by rw [Lib.cell_of_heap hP2]; rfl
  have p2 : w2.cell? ⟨w.heap.size, 2, none⟩ = some (.slice a2 p.rules.length n2) := by rw [Lib.cell_of_heap hP2]; rfl
  have f0 : w2.cell? ⟨w.heap.size + 1, 0, none⟩ = some (.int .i64 pred) := by rw [Lib.cell_of_heap hF2]; rfl
  have f1 : w2.cell? ⟨w.heap.size + 1, 1, none⟩ = some (.slice ag args.length ng) := by rw [Lib.cell_of_heap hF2]; rfl
  by_cases hc : Sc.check p = 0
  · have hcn : (Sc.check p == 0) = true := by simpa using hc
    have HW : Hid (Sc.fact p pred args = Sc.factErr p pred args) := by show _ = _; rw [HFC.out]; exact if_pos hc
    clear hc
    go_wp2_with fail
    refine Calls.mono (CheckFact_any p _ _ _ pred args _ _ (intsV_below HPV.out.ar hbw2) HFT.out.ar (intsV_below HIV.out hbw2) HMX.out) ?_
    rintro e w3 ⟨rfl, hb3⟩
    rw [← HW.out]
    have hP3 := (hb3.block _ (heap_lt hP2)).trans hP2
    have hF3 := (hb3.block _ (heap_lt hF2)).trans hF2
    have hbw3 := hbw2.trans (hb3.mono hbw2.size)
    clear hP2 hF2 hbw2 hb3 p0 p1 p2 f0 f1 HFC HW
    go_wp2_with fail
    refine Calls.mono (scopeBegun_any _) ?_
    rintro e w4 ⟨rfl, hb4⟩
    have hP4 := (hb4.block _ (heap_lt hP3)).trans hP3
    have hF4 := (hb4.block _ (heap_lt hF3)).trans hF3
    have hbw4 := hbw3.trans (hb4.mono hbw3.size)
    clear hP3 hF3 hbw3 hb4
    have p0 : w4.cell? ⟨w.heap.size, 0, none⟩ = some (.slice a0 p.arity.length n0) := by rw [Lib.cell_of_heap hP4]; rfl
    have p1 : w4.cell? ⟨w.heap.size, 1, none⟩ = some (.slice a1 p.names.length n1) := by rw [Lib.cell_of_heap hP4]; rfl
    have p2 : w4.cell? ⟨w.heap.size, 2, none⟩ = some (.slice a2 p.rules.length n2) := by rw [Lib.cell_of_heap hP4]; rfl
    go_wp2_with fail
    refine Calls.mono (ScCheck_any p _ _ _ _ (HPV.out.below hbw4) HFT.out) ?_
    rintro e w5 ⟨rfl, hb5⟩
    have hP5 := (hb5.block _ (heap_lt hP4)).trans hP4
    have hF5 := (hb5.block _ (heap_lt hF4)).trans hF4
    have hbw5 := hbw4.trans (hb5.mono hbw4.size)
    clear hP4 hF4 hbw4 hb5 p0 p1 p2
    have p0 : w5.cell? ⟨w.heap.size, 0, none⟩ = some (.slice a0 p.arity.length n0) := by rw [Lib.cell_of_heap hP5]; rfl
    have p1 : w5.cell? ⟨w.heap.size, 1, none⟩ = some (.slice a1 p.names.length n1) := by rw [Lib.cell_of_heap hP5]; rfl
    have p2 : w5.cell? ⟨w.heap.size, 2, none⟩ = some (.slice a2 p.rules.length n2) := by rw [Lib.cell_of_heap hP5]; rfl
    have f0 : w5.cell? ⟨w.heap.size + 1, 0, none⟩ = some (.int .i64 pred) := by rw [Lib.cell_of_heap hF5]; rfl
    have f1 : w5.cell? ⟨w.heap.size + 1, 1, none⟩ = some (.slice ag args.length ng) := by rw [Lib.cell_of_heap hF5]; rfl
    have g1 : (Sc.check p == Sc.check p) = true := by simp
    go_wp2_with fail
    refine Calls.mono (ScFact_any p _ _ _ pred args _ _ (HPV.out.below hbw5) HFT.out (intsV_below HIV.out hbw5) HMX.out) ?_
    rintro e w6 ⟨rfl, hb6⟩
    have hbw6 := hbw5.trans (hb6.mono hbw5.size)
    have g2 : (Sc.fact p pred args == Sc.fact p pred args) = true := by simp
    clear hP5 hF5 hbw5 hb6 p0 p1 p2 f0 f1
    go_wp2_with fail
    go_ret
    exact ⟨rfl, hbw6⟩
  · have hcn : (Sc.check p == 0) = false := by simpa using hc
    have HW : Hid (Sc.fact p pred args = Sc.check p) := by show _ = _; rw [HFC.out]; exact if_neg hc
    clear hc
    go_upto_region 5 with fail
    have hP3 := hP2
    have hF3 := hF2
    have hbw3 := hbw2
    clear hP2 hF2 hbw2 p0 p1 p2 f0 f1 HFC
    generalize w2 = w3 at *
    go_wp2_with fail
    refine Calls.mono (scopeBegun_any _) ?_
    rintro e w4 ⟨rfl, hb4⟩
    have hP4 := (hb4.block _ (heap_lt hP3)).trans hP3
    have hF4 := (hb4.block _ (heap_lt hF3)).trans hF3
    have hbw4 := hbw3.trans (hb4.mono hbw3.size)
    clear hP3 hF3 hbw3 hb4
    have p0 : w4.cell? ⟨w.heap.size, 0, none⟩ = some (.slice a0 p.arity.length n0) := by rw [Lib.cell_of_heap hP4]; rfl
    have p1 : w4.cell? ⟨w.heap.size, 1, none⟩ = some (.slice a1 p.names.length n1) := by rw [Lib.cell_of_heap hP4]; rfl
    have p2 : w4.cell? ⟨w.heap.size, 2, none⟩ = some (.slice a2 p.rules.length n2) := by rw [Lib.cell_of_heap hP4]; rfl
    go_wp2_with fail
    refine Calls.mono (ScCheck_any p _ _ _ _ (HPV.out.below hbw4) HFT.out) ?_
    rintro e w5 ⟨rfl, hb5⟩
    have hP5 := (hb5.block _ (heap_lt hP4)).trans hP4
    have hF5 := (hb5.block _ (heap_lt hF4)).trans hF4
    have hbw5 := hbw4.trans (hb5.mono hbw4.size)
    clear hP4 hF4 hbw4 hb5 p0 p1 p2
    have p0 : w5.cell? ⟨w.heap.size, 0, none⟩ = some (.slice a0 p.arity.length n0) := by rw [Lib.cell_of_heap hP5]; rfl
    have p1 : w5.cell? ⟨w.heap.size, 1, none⟩ = some (.slice a1 p.names.length n1) := by rw [Lib.cell_of_heap hP5]; rfl
    have p2 : w5.cell? ⟨w.heap.size, 2, none⟩ = some (.slice a2 p.rules.length n2) := by rw [Lib.cell_of_heap hP5]; rfl
    have f0 : w5.cell? ⟨w.heap.size + 1, 0, none⟩ = some (.int .i64 pred) := by rw [Lib.cell_of_heap hF5]; rfl
    have f1 : w5.cell? ⟨w.heap.size + 1, 1, none⟩ = some (.slice ag args.length ng) := by rw [Lib.cell_of_heap hF5]; rfl
    have g1 : (Sc.check p == Sc.check p) = true := by simp
    go_wp2_with fail
    refine Calls.mono (ScFact_any p _ _ _ pred args _ _ (HPV.out.below hbw5) HFT.out (intsV_below HIV.out hbw5) HMX.out) ?_
    rintro e w6 ⟨rfl, hb6⟩
    have hbw6 := hbw5.trans (hb6.mono hbw5.size)
    have g2 : (Sc.fact p pred args == Sc.check p) = true := by rw [HW.out]; simp
    clear hP5 hF5 hbw5 hb6 p0 p1 p2 f0 f1
    go_wp2_with fail
    go_ret
    exact ⟨rfl, hbw6⟩
end Go.Proofs.YtgpaleifhcdjnaaGreatDoor

/- A tree that came in, read out of memory. -/
namespace Go.Proofs.YtgpaleifhcdjnaaGreatDoor
open Go.RowKit

theorem A_cells24 : Tryz.prog.cellsOf 36 = 1 := by kernel_rfl
theorem A_cells22 : Tryz.prog.cellsOf 34 = 1 := by kernel_rfl
theorem A_cells40 : Tryz.prog.cellsOf 54 = 1 := by kernel_rfl
theorem A_cells41 : Tryz.prog.cellsOf 55 = 1 := by kernel_rfl
theorem A_cells43 : Tryz.prog.cellsOf 57 = 5 := by kernel_rfl
theorem A_cells49 : Tryz.prog.cellsOf 61 = 5 := by kernel_rfl
theorem A_cells71 : Tryz.prog.cellsOf 59 = 2 := by kernel_rfl
theorem A_cells3 : Tryz.prog.cellsOf 3 = 1 := by kernel_rfl
theorem A_cells9 : Tryz.prog.cellsOf 9 = 1 := by kernel_rfl

theorem list2 {l : List Value} (h : l.length = 2) : ∃ a b, l = [a, b] := by
  match l, h with
  | [a, b], _ => exact ⟨a, b, rfl⟩
theorem list5 {l : List Value} (h : l.length = 5) : ∃ a b c d e, l = [a, b, c, d, e] := by
  match l, h with
  | [a, b, c, d, e], _ => exact ⟨a, b, c, d, e, rfl⟩

section
variable {H : Type} {enc : TypeId × Value → H} {w : World} {base : Nat} {spare : Nat → Bool} {held : Bool}

/-- A slice whose elements can be read. -/
theorem open_row {α : Type} {st e : TypeId} {k : Nat} (ht : Tryz.prog.underlying st = some (.slice e)) (hk : Tryz.prog.cellsOf e = k) (hk0 : 0 < k) (d : α) (In : Nat → Nat → α → Prop)
    (el : ∀ n cs' y b off, cs'.length = k → (∀ j, j < k → w.cell? ⟨b, off + j, none⟩ = cs'[j]?) → DataW.trod enc Tryz.prog w base spare held n e cs' = some y → ∃ a, In b off a)
    {fuel : Nat} {v : Value} {x : DataW H × List MemPlace} (h : DataW.trod enc Tryz.prog w base spare held fuel st [v] = some x) :
    ∃ (ao : Option Addr) (l : List α) (cap : Nat), v = .slice ao l.length cap ∧ l.length ≤ 9223372036854775807 ∧ (l = [] ∨ ∃ b off, ao = some ⟨b, off, none⟩ ∧ ∀ i, i < l.length → In b (off + i * k) (l.getD i d)) := by
  haveI : Inhabited α := ⟨d⟩
  rcases Deep.open_slice ht h with ⟨hv, _⟩ | ⟨a, len, cap, m, n, D, Pl, hv, hb, hl, hm, hmm, hx, hel⟩
  · have hv' : v = .slice none 0 0 := by simpa using hv
    exact ⟨none, [], 0, hv', by simp, .inl rfl⟩
  · have hv' : v = .slice (some a) len cap := by simpa using hv
    have hlm : len ≤ m := by rw [hmm]; split <;> omega
    by_cases h0 : len = 0
    · subst h0
      exact ⟨some a, [], cap, hv', by simp, .inl rfl⟩
    · obtain ⟨b, off, spot⟩ := a
      have hspot : spot = none := by
        obtain ⟨cs', h1, _⟩ := hel 0 (by omega)
        rw [hk] at h1
        obtain ⟨_, hlen, hcell⟩ := World.cells?_some h1
        have hc := hcell 0 hk0
        cases hcs : cs'[0]? with
        | none => rw [List.getElem?_eq_none_iff] at hcs; omega
        | some u =>
          rw [hcs] at hc
          simpa [Addr.add] using World.cell?_spot hc
      subst hspot
      have each : ∀ i, i < len → ∃ q : α, In b (off + i * k) q := by
        intro i hi
        obtain ⟨cs', h1, h2⟩ := hel i (by omega)
        rw [hk] at h1
        obtain ⟨_, hlen, hcell⟩ := World.cells?_some h1
        refine el n cs' _ b (off + i * k) hlen (fun j hj => ?_) h2
        have := hcell j hj
        rw [Deep.add_add, WideShapes.add_plain] at this
        rw [← this, Nat.add_assoc]
      obtain ⟨q, hq⟩ := Deep.choose_lt each
      refine ⟨some ⟨b, off, none⟩, (List.range len).map q, cap, by rw [hv']; simp, by unfold maxLen at hm; simp; omega, .inr ⟨b, off, rfl, fun i hi => ?_⟩⟩
      have hi' : i < len := by simpa using hi
      have ht : ((List.range len).map q).getD i d = q i := by
        rw [List.getD_eq_getElem?_getD, List.getElem?_map, List.getElem?_range hi']
        rfl
      rw [ht]
      exact hq i hi'

theorem trod_struct1 {t : TypeId} {f0 : Field} {fuel : Nat} {cs : List Value} {x : DataW H × List MemPlace} (ht : Tryz.prog.underlying t = some (.struct #[f0])) (h : DataW.trod enc Tryz.prog w base spare held fuel t cs = some x) :
    ∃ y0 n, cs.length = Tryz.prog.cellsOf t ∧ DataW.trod enc Tryz.prog w base spare held n f0.type ((cs.drop f0.offset).take (Tryz.prog.cellsOf f0.type)) = some y0 := by
  obtain ⟨xs, n, _, rfl, hl, hlen, hf⟩ := DataW.trod_struct ht h
  match xs, hlen with
  | [y0], _ => exact ⟨y0, n, hl, by simpa using hf 0 f0 rfl⟩
theorem trod_struct2 {t : TypeId} {f0 f1 : Field} {fuel : Nat} {cs : List Value} {x : DataW H × List MemPlace} (ht : Tryz.prog.underlying t = some (.struct #[f0, f1])) (h : DataW.trod enc Tryz.prog w base spare held fuel t cs = some x) :
    ∃ y0 y1 n, cs.length = Tryz.prog.cellsOf t ∧ DataW.trod enc Tryz.prog w base spare held n f0.type ((cs.drop f0.offset).take (Tryz.prog.cellsOf f0.type)) = some y0 ∧
      DataW.trod enc Tryz.prog w base spare held n f1.type ((cs.drop f1.offset).take (Tryz.prog.cellsOf f1.type)) = some y1 := by
  obtain ⟨xs, n, _, rfl, hl, hlen, hf⟩ := DataW.trod_struct ht h
  match xs, hlen with
  | [y0, y1], _ => exact ⟨y0, y1, n, hl, by simpa using hf 0 f0 rfl, by simpa using hf 1 f1 rfl⟩
theorem trod_struct5 {t : TypeId} {f0 f1 f2 f3 f4 : Field} {fuel : Nat} {cs : List Value} {x : DataW H × List MemPlace} (ht : Tryz.prog.underlying t = some (.struct #[f0, f1, f2, f3, f4])) (h : DataW.trod enc Tryz.prog w base spare held fuel t cs = some x) :
    ∃ y0 y1 y2 y3 y4 n, cs.length = Tryz.prog.cellsOf t ∧ DataW.trod enc Tryz.prog w base spare held n f0.type ((cs.drop f0.offset).take (Tryz.prog.cellsOf f0.type)) = some y0 ∧
      DataW.trod enc Tryz.prog w base spare held n f1.type ((cs.drop f1.offset).take (Tryz.prog.cellsOf f1.type)) = some y1 ∧ DataW.trod enc Tryz.prog w base spare held n f2.type ((cs.drop f2.offset).take (Tryz.prog.cellsOf f2.type)) = some y2 ∧
      DataW.trod enc Tryz.prog w base spare held n f3.type ((cs.drop f3.offset).take (Tryz.prog.cellsOf f3.type)) = some y3 ∧ DataW.trod enc Tryz.prog w base spare held n f4.type ((cs.drop f4.offset).take (Tryz.prog.cellsOf f4.type)) = some y4 := by
  obtain ⟨xs, n, _, rfl, hl, hlen, hf⟩ := DataW.trod_struct ht h
  match xs, hlen with
  | [y0, y1, y2, y3, y4], _ => exact ⟨y0, y1, y2, y3, y4, n, hl, by simpa using hf 0 f0 rfl, by simpa using hf 1 f1 rfl, by simpa using hf 2 f2 rfl, by simpa using hf 3 f3 rfl, by simpa using hf 4 f4 rfl⟩

theorem open_terms {fuel : Nat} {v : Value} {x : DataW H × List MemPlace} (h : DataW.trod enc Tryz.prog w base spare held fuel 54 [v] = some x) : ∃ l, TermsV w v l ∧ l.length ≤ 9223372036854775807 := by
  obtain ⟨ao, l, cap, hv, hmx, hl⟩ := open_row Tryz.underlying54 A_cells71 (by decide) (⟨[], 0⟩ : Tr.Term) (TermIn w) (fun n cs' y b off hlen hc h2 => by
    obtain ⟨y0, y1, k, _, g0, g1⟩ := trod_struct2 Tryz.underlying59 h2
    obtain ⟨v0, v1, rfl⟩ := list2 hlen
    simp [A_cells3, A_cells9] at g0 g1
    obtain ⟨k0, e0, _, _⟩ := DataW.trod_string Tryz.underlying9 g0
    obtain ⟨k1, e1, _, _⟩ := DataW.trod_int Tryz.underlying3 g1
    simp at e0 e1
    subst e0 e1
    exact ⟨⟨k0.data.toList, k1⟩, hc 0 (by decide), hc 1 (by decide)⟩) h
  exact ⟨l, ⟨ao, cap, hv, hl⟩, hmx⟩

theorem open_lits {fuel : Nat} {v : Value} {x : DataW H × List MemPlace} (h : DataW.trod enc Tryz.prog w base spare held fuel 55 [v] = some x) : ∃ l, LitsV w v l ∧ l.length ≤ 9223372036854775807 ∧ FitsB l := by
  obtain ⟨ao, l, cap, hv, hmx, hl⟩ := open_row Tryz.underlying55 A_cells49 (by decide) (⟨0, 0, 0, [], []⟩ : Tr.Lit) (fun b off x => LitIn w b off x ∧ x.terms.length ≤ 9223372036854775807) (fun n cs' y b off hlen hc h2 => by
    obtain ⟨y0, y1, y2, y3, y4, k, _, g0, g1, g2, g3, g4⟩ := trod_struct5 Tryz.underlying61 h2
    obtain ⟨v0, v1, v2, v3, v4, rfl⟩ := list5 hlen
    simp [A_cells3, A_cells9, A_cells40] at g0 g1 g2 g3 g4
    obtain ⟨k0, e0, _, _⟩ := DataW.trod_int Tryz.underlying3 g0
    obtain ⟨k1, e1, _, _⟩ := DataW.trod_int Tryz.underlying3 g1
    obtain ⟨k2, e2, _, _⟩ := DataW.trod_int Tryz.underlying3 g2
    obtain ⟨k3, e3, _, _⟩ := DataW.trod_string Tryz.underlying9 g3
    obtain ⟨l, hl, hm4⟩ := open_terms g4
    simp at e0 e1 e2 e3
    subst e0 e1 e2 e3
    exact ⟨⟨k0, k1, k2, k3.data.toList, l⟩, ⟨hc 0 (by decide), hc 1 (by decide), hc 2 (by decide), hc 3 (by decide), v4, hc 4 (by decide), hl⟩, hm4⟩) h
  refine ⟨l, ⟨ao, cap, hv, ?_⟩, hmx, ?_⟩
  · rcases hl with h | ⟨b, off, he, hc⟩
    · exact .inl h
    · exact .inr ⟨b, off, he, fun i hi => (hc i hi).1⟩
  · intro i hi
    rcases hl with h | ⟨b, off, he, hc⟩
    · rw [h] at hi; simp at hi
    · exact (hc i hi).2

theorem open_rules {fuel : Nat} {v : Value} {x : DataW H × List MemPlace} (h : DataW.trod enc Tryz.prog w base spare held fuel 34 [v] = some x) : ∃ l, RulesV w v l ∧ Fine l := by
  obtain ⟨ao, l, cap, hv, hmx, hl⟩ := open_row Tryz.underlying34 A_cells43 (by decide) (⟨0, [], [], 0, []⟩ : Tr.Rule) (fun b off x => RuleIn w b off x ∧ x.terms.length ≤ 9223372036854775807 ∧ x.body.length ≤ 9223372036854775807 ∧ FitsB x.body) (fun n cs' y b off hlen hc h2 => by
    obtain ⟨y0, y1, y2, y3, y4, k, _, g0, g1, g2, g3, g4⟩ := trod_struct5 Tryz.underlying57 h2
    obtain ⟨v0, v1, v2, v3, v4, rfl⟩ := list5 hlen
    simp [A_cells3, A_cells9, A_cells40, A_cells41] at g0 g1 g2 g3 g4
    obtain ⟨k0, e0, _, _⟩ := DataW.trod_int Tryz.underlying3 g0
    obtain ⟨k1, e1, _, _⟩ := DataW.trod_string Tryz.underlying9 g1
    obtain ⟨l2, hl2, hm2⟩ := open_terms g2
    obtain ⟨k3, e3, _, _⟩ := DataW.trod_int Tryz.underlying3 g3
    obtain ⟨l4, hl4, hm4, hf4⟩ := open_lits g4
    simp at e0 e1 e3
    subst e0 e1 e3
    exact ⟨⟨k0, k1.data.toList, l2, k3, l4⟩, ⟨hc 0 (by decide), hc 1 (by decide), ⟨v2, hc 2 (by decide), hl2⟩, hc 3 (by decide), v4, hc 4 (by decide), hl4⟩, hm2, hm4, hf4⟩) h
  refine ⟨l, ⟨ao, cap, hv, ?_⟩, hmx, ?_⟩
  · rcases hl with h | ⟨b, off, he, hc⟩
    · exact .inl h
    · exact .inr ⟨b, off, he, fun i hi => (hc i hi).1⟩
  · intro i hi
    rcases hl with h | ⟨b, off, he, hc⟩
    · rw [h] at hi; simp at hi
    · exact (hc i hi).2

theorem open_tree {fuel : Nat} {v : Value} {x : DataW H × List MemPlace} (h : DataW.trod enc Tryz.prog w base spare held fuel 36 [v] = some x) : ∃ l, RulesV w v l ∧ Fine l := by
  obtain ⟨y0, n, _, g0⟩ := trod_struct1 Tryz.underlying36 h
  exact open_rules (v := v) (by simpa [A_cells22] using g0)
end

end Go.Proofs.YtgpaleifhcdjnaaGreatDoor

/- A program, a fact, that came in, read out of memory. -/
namespace Go.Proofs.YtgpaleifhcdjnaaGreatDoor
open Go.RowKit

theorem P_cells26 : Tryz.prog.cellsOf 26 = 3 := by kernel_rfl
theorem P_cells28 : Tryz.prog.cellsOf 28 = 2 := by kernel_rfl
theorem P_cells22 : Tryz.prog.cellsOf 22 = 1 := by kernel_rfl
theorem P_cells23 : Tryz.prog.cellsOf 23 = 1 := by kernel_rfl
theorem P_cells24 : Tryz.prog.cellsOf 24 = 1 := by kernel_rfl
theorem P_cells64 : Tryz.prog.cellsOf 64 = 1 := by kernel_rfl
theorem P_cells65 : Tryz.prog.cellsOf 65 = 1 := by kernel_rfl
theorem P_cells67 : Tryz.prog.cellsOf 67 = 5 := by kernel_rfl
theorem P_cells84 : Tryz.prog.cellsOf 84 = 4 := by kernel_rfl
theorem P_cells130 : Tryz.prog.cellsOf 130 = 2 := by kernel_rfl

theorem list3 {l : List Value} (h : l.length = 3) : ∃ a b c, l = [a, b, c] := by
  match l, h with
  | [a, b, c], _ => exact ⟨a, b, c, rfl⟩
theorem list4 {l : List Value} (h : l.length = 4) : ∃ a b c d, l = [a, b, c, d] := by
  match l, h with
  | [a, b, c, d], _ => exact ⟨a, b, c, d, rfl⟩

section
variable {H : Type} {enc : TypeId × Value → H} {w : World} {base : Nat} {spare : Nat → Bool} {held : Bool}

/-- A slice whose elements can be read; its length is no more than its room. -/
theorem open_rowC {α : Type} {st e : TypeId} {k : Nat} (ht : Tryz.prog.underlying st = some (.slice e)) (hk : Tryz.prog.cellsOf e = k) (hk0 : 0 < k) (d : α) (In : Nat → Nat → α → Prop)
    (el : ∀ n cs' y b off, cs'.length = k → (∀ j, j < k → w.cell? ⟨b, off + j, none⟩ = cs'[j]?) → DataW.trod enc Tryz.prog w base spare held n e cs' = some y → ∃ a, In b off a)
    {fuel : Nat} {v : Value} {x : DataW H × List MemPlace} (h : DataW.trod enc Tryz.prog w base spare held fuel st [v] = some x) :
    ∃ (ao : Option Addr) (l : List α) (cap : Nat), v = .slice ao l.length cap ∧ l.length ≤ cap ∧ l.length ≤ 9223372036854775807 ∧ (l = [] ∨ ∃ b off, ao = some ⟨b, off, none⟩ ∧ ∀ i, i < l.length → In b (off + i * k) (l.getD i d)) := by
  obtain ⟨ao, l, cap, hv, hm, hl⟩ := open_row ht hk hk0 d In el h
  refine ⟨ao, l, cap, hv, ?_, hm, hl⟩
  rcases Deep.open_slice ht h with ⟨hv2, _⟩ | ⟨a, len, cap2, m, n, D, Pl, hv2, hb, hl2, _⟩
  · have hv' : v = .slice none 0 0 := by simpa using hv2
    rw [hv] at hv'
    injection hv' with _ h1 h2
    omega
  · have hv' : v = .slice (some a) len cap2 := by simpa using hv2
    rw [hv] at hv'
    injection hv' with _ h1 h2
    omega

theorem trod_struct3 {t : TypeId} {f0 f1 f2 : Field} {fuel : Nat} {cs : List Value} {x : DataW H × List MemPlace} (ht : Tryz.prog.underlying t = some (.struct #[f0, f1, f2])) (h : DataW.trod enc Tryz.prog w base spare held fuel t cs = some x) :
    ∃ y0 y1 y2 n, cs.length = Tryz.prog.cellsOf t ∧ DataW.trod enc Tryz.prog w base spare held n f0.type ((cs.drop f0.offset).take (Tryz.prog.cellsOf f0.type)) = some y0 ∧
      DataW.trod enc Tryz.prog w base spare held n f1.type ((cs.drop f1.offset).take (Tryz.prog.cellsOf f1.type)) = some y1 ∧ DataW.trod enc Tryz.prog w base spare held n f2.type ((cs.drop f2.offset).take (Tryz.prog.cellsOf f2.type)) = some y2 := by
  obtain ⟨xs, n, _, rfl, hl, hlen, hf⟩ := DataW.trod_struct ht h
  match xs, hlen with
  | [y0, y1, y2], _ => exact ⟨y0, y1, y2, n, hl, by simpa using hf 0 f0 rfl, by simpa using hf 1 f1 rfl, by simpa using hf 2 f2 rfl⟩
theorem trod_struct4 {t : TypeId} {f0 f1 f2 f3 : Field} {fuel : Nat} {cs : List Value} {x : DataW H × List MemPlace} (ht : Tryz.prog.underlying t = some (.struct #[f0, f1, f2, f3])) (h : DataW.trod enc Tryz.prog w base spare held fuel t cs = some x) :
    ∃ y0 y1 y2 y3 n, cs.length = Tryz.prog.cellsOf t ∧ DataW.trod enc Tryz.prog w base spare held n f0.type ((cs.drop f0.offset).take (Tryz.prog.cellsOf f0.type)) = some y0 ∧
      DataW.trod enc Tryz.prog w base spare held n f1.type ((cs.drop f1.offset).take (Tryz.prog.cellsOf f1.type)) = some y1 ∧ DataW.trod enc Tryz.prog w base spare held n f2.type ((cs.drop f2.offset).take (Tryz.prog.cellsOf f2.type)) = some y2 ∧
      DataW.trod enc Tryz.prog w base spare held n f3.type ((cs.drop f3.offset).take (Tryz.prog.cellsOf f3.type)) = some y3 := by
  obtain ⟨xs, n, _, rfl, hl, hlen, hf⟩ := DataW.trod_struct ht h
  match xs, hlen with
  | [y0, y1, y2, y3], _ => exact ⟨y0, y1, y2, y3, n, hl, by simpa using hf 0 f0 rfl, by simpa using hf 1 f1 rfl, by simpa using hf 2 f2 rfl, by simpa using hf 3 f3 rfl⟩

theorem open_ints {fuel : Nat} {v : Value} {x : DataW H × List MemPlace} (h : DataW.trod enc Tryz.prog w base spare held fuel 22 [v] = some x) : ∃ l, IntsV w v l ∧ l.length ≤ 9223372036854775807 := by
  obtain ⟨ao, l, cap, hv, _, hmx, hl⟩ := open_rowC Tryz.underlying22 A_cells3 (by decide) (0 : Int) (fun b off a => w.cell? ⟨b, off, none⟩ = some (.int .i64 a)) (fun n cs' y b off hlen hc h2 => by
    match cs', hlen with
    | [v0], _ =>
      obtain ⟨k0, e0, _, _⟩ := DataW.trod_int Tryz.underlying3 h2
      simp at e0
      subst e0
      exact ⟨k0, hc 0 (by decide)⟩) h
  refine ⟨l, ⟨ao, cap, hv, ?_⟩, hmx⟩
  rcases hl with h | ⟨b, off, he, hc⟩
  · exact .inl h
  · exact .inr ⟨b, off, he, fun i hi => by have := hc i hi; rw [Nat.mul_one] at this; exact this⟩
theorem open_strs {fuel : Nat} {v : Value} {x : DataW H × List MemPlace} (h : DataW.trod enc Tryz.prog w base spare held fuel 23 [v] = some x) : ∃ l, StrsV w v l ∧ l.length ≤ 9223372036854775807 := by
  obtain ⟨ao, l, cap, hv, _, hmx, hl⟩ := open_rowC Tryz.underlying23 A_cells9 (by decide) ([] : List UInt8) (fun b off a => w.cell? ⟨b, off, none⟩ = some (.string ⟨a.toArray⟩)) (fun n cs' y b off hlen hc h2 => by
    match cs', hlen with
    | [v0], _ =>
      obtain ⟨k0, e0, _, _⟩ := DataW.trod_string Tryz.underlying9 h2
      simp at e0
      subst e0
      exact ⟨k0.data.toList, hc 0 (by decide)⟩) h
  refine ⟨l, ⟨ao, cap, hv, ?_⟩, hmx⟩
  rcases hl with h | ⟨b, off, he, hc⟩
  · exact .inl h
  · exact .inr ⟨b, off, he, fun i hi => by have := hc i hi; rw [Nat.mul_one] at this; exact this⟩
theorem open_pterms {fuel : Nat} {v : Value} {x : DataW H × List MemPlace} (h : DataW.trod enc Tryz.prog w base spare held fuel 64 [v] = some x) : ∃ l, PTermsV w v l ∧ l.length ≤ 9223372036854775807 := by
  obtain ⟨ao, l, cap, hv, hcap, hmx, hl⟩ := open_rowC Tryz.underlying64 P_cells130 (by decide) (⟨0, 0⟩ : Sc.Term) (PTermIn w) (fun n cs' y b off hlen hc h2 => by
    obtain ⟨y0, y1, k, _, g0, g1⟩ := trod_struct2 Tryz.underlying130 h2
    obtain ⟨v0, v1, rfl⟩ := list2 hlen
    simp [A_cells3] at g0 g1
    obtain ⟨k0, e0, _, _⟩ := DataW.trod_int Tryz.underlying3 g0
    obtain ⟨k1, e1, _, _⟩ := DataW.trod_int Tryz.underlying3 g1
    simp at e0 e1
    subst e0 e1
    exact ⟨⟨k0, k1⟩, hc 0 (by decide), hc 1 (by decide)⟩) h
  exact ⟨l, ⟨ao, cap, hv, hcap, hl⟩, hmx⟩
theorem open_plits {fuel : Nat} {v : Value} {x : DataW H × List MemPlace} (h : DataW.trod enc Tryz.prog w base spare held fuel 65 [v] = some x) : ∃ l, PLitsV w v l ∧ l.length ≤ 9223372036854775807 ∧ ∀ i, i < l.length → LitFit (Sc.litD l i) := by
  obtain ⟨ao, l, cap, hv, _, hmx, hl⟩ := open_rowC Tryz.underlying65 P_cells84 (by decide) (⟨0, 0, 0, []⟩ : Sc.Lit) (fun b off x => PLitIn w b off x ∧ LitFit x) (fun n cs' y b off hlen hc h2 => by
    obtain ⟨y0, y1, y2, y3, k, _, g0, g1, g2, g3⟩ := trod_struct4 Tryz.underlying84 h2
    obtain ⟨v0, v1, v2, v3, rfl⟩ := list4 hlen
    simp [A_cells3, P_cells64] at g0 g1 g2 g3
    obtain ⟨k0, e0, _, _⟩ := DataW.trod_int Tryz.underlying3 g0
    obtain ⟨k1, e1, _, _⟩ := DataW.trod_int Tryz.underlying3 g1
    obtain ⟨k2, e2, _, _⟩ := DataW.trod_int Tryz.underlying3 g2
    obtain ⟨l3, hl3, hm3⟩ := open_pterms g3
    simp at e0 e1 e2
    subst e0 e1 e2
    exact ⟨⟨k0, k1, k2, l3⟩, ⟨hc 0 (by decide), hc 1 (by decide), hc 2 (by decide), v3, hc 3 (by decide), hl3⟩, hm3⟩) h
  refine ⟨l, ⟨ao, cap, hv, ?_⟩, hmx, ?_⟩
  · rcases hl with h | ⟨b, off, he, hc⟩
    · exact .inl h
    · exact .inr ⟨b, off, he, fun i hi => (hc i hi).1⟩
  · intro i hi
    rcases hl with h | ⟨b, off, he, hc⟩
    · rw [h] at hi; simp at hi
    · exact (hc i hi).2
theorem open_prules {fuel : Nat} {v : Value} {x : DataW H × List MemPlace} (h : DataW.trod enc Tryz.prog w base spare held fuel 24 [v] = some x) : ∃ l, PRulesV w v l ∧ l.length ≤ 9223372036854775807 ∧ ∀ i, i < l.length → RuleFit (Sc.ruleD l i) := by
  obtain ⟨ao, l, cap, hv, _, hmx, hl⟩ := open_rowC Tryz.underlying24 P_cells67 (by decide) (⟨0, [], 0, [], 0⟩ : Sc.Rule) (fun b off x => PRuleIn w b off x ∧ RuleFit x) (fun n cs' y b off hlen hc h2 => by
    obtain ⟨y0, y1, y2, y3, y4, k, _, g0, g1, g2, g3, g4⟩ := trod_struct5 Tryz.underlying67 h2
    obtain ⟨v0, v1, v2, v3, v4, rfl⟩ := list5 hlen
    simp [A_cells3, P_cells64, P_cells65] at g0 g1 g2 g3 g4
    obtain ⟨k0, e0, _, _⟩ := DataW.trod_int Tryz.underlying3 g0
    obtain ⟨l1, hl1, hm1⟩ := open_pterms g1
    obtain ⟨k2, e2, _, _⟩ := DataW.trod_int Tryz.underlying3 g2
    obtain ⟨l3, hl3, hm3, hf3⟩ := open_plits g3
    obtain ⟨k4, e4, _, _⟩ := DataW.trod_int Tryz.underlying3 g4
    simp at e0 e2 e4
    subst e0 e2 e4
    exact ⟨⟨k0, l1, k2, l3, k4⟩, ⟨hc 0 (by decide), ⟨v1, hc 1 (by decide), hl1⟩, hc 2 (by decide), ⟨v3, hc 3 (by decide), hl3⟩, hc 4 (by decide)⟩, hm1, hm3, hf3⟩) h
  refine ⟨l, ⟨ao, cap, hv, ?_⟩, hmx, ?_⟩
  · rcases hl with h | ⟨b, off, he, hc⟩
    · exact .inl h
    · exact .inr ⟨b, off, he, fun i hi => (hc i hi).1⟩
  · intro i hi
    rcases hl with h | ⟨b, off, he, hc⟩
    · rw [h] at hi; simp at hi
    · exact (hc i hi).2
theorem open_prog {fuel : Nat} {va vn vr : Value} {x : DataW H × List MemPlace} (h : DataW.trod enc Tryz.prog w base spare held fuel 26 [va, vn, vr] = some x) : ∃ p, ProgV w va vn vr p ∧ ProgFit p := by
  obtain ⟨y0, y1, y2, n, _, g0, g1, g2⟩ := trod_struct3 Tryz.underlying26 h
  simp [P_cells22, P_cells23, P_cells24] at g0 g1 g2
  obtain ⟨l0, hl0, hm0⟩ := open_ints g0
  obtain ⟨l1, hl1, hm1⟩ := open_strs g1
  obtain ⟨l2, hl2, hm2, hf2⟩ := open_prules g2
  exact ⟨⟨l0, l1, l2⟩, ⟨hl0, hl1, hl2⟩, hm0, hm1, hm2, hf2⟩
theorem open_fact {fuel : Nat} {v0 v1 : Value} {x : DataW H × List MemPlace} (h : DataW.trod enc Tryz.prog w base spare held fuel 28 [v0, v1] = some x) : ∃ pred args, v0 = .int .i64 pred ∧ IntsV w v1 args ∧ args.length ≤ 9223372036854775807 := by
  obtain ⟨y0, y1, n, _, g0, g1⟩ := trod_struct2 Tryz.underlying28 h
  simp [A_cells3, P_cells22] at g0 g1
  obtain ⟨k0, e0, _, _⟩ := DataW.trod_int Tryz.underlying3 g0
  obtain ⟨l1, hl1, hm1⟩ := open_ints g1
  simp at e0
  exact ⟨k0, l1, e0, hl1, hm1⟩
end

end Go.Proofs.YtgpaleifhcdjnaaGreatDoor

/- A world in which the listed variables of the library read as the row says: the witness of the row's condition. -/
namespace Go.Proofs.YtgpaleifhcdjnaaGreatDoor
open Go

/-- It is the settled world, with the listed variables laid. -/
def IsLaid (os : Os) (W : World) : Prop :=
  W = { World.holding Tryz.prog os ⟨#[.cells #[.string ⟨#[118, 97, 108, 117, 101, 32, 111, 117, 116, 32, 111, 102, 32, 114, 97, 110, 103, 101]⟩] 223, .cells #[.string ⟨#[105, 110, 118, 97, 108, 105, 100, 32, 115, 121, 110, 116, 97, 120]⟩] 223], #[], []⟩ with heap := ((((((World.holding Tryz.prog os ⟨#[.cells #[.string ⟨#[118, 97, 108, 117, 101, 32, 111, 117, 116, 32, 111, 102, 32, 114, 97, 110, 103, 101]⟩] 223, .cells #[.string ⟨#[105, 110, 118, 97, 108, 105, 100, 32, 115, 121, 110, 116, 97, 120]⟩] 223], #[], []⟩).heap.modify 4 fun
      | .cells _ t frozen => .cells #[.int .u8 0, .int .u8 1, .int .u8 28, .int .u8 2, .int .u8 29, .int .u8 14, .int .u8 24, .int .u8 3, .int .u8 30, .int .u8 22, .int .u8 20, .int .u8 15, .int .u8 25, .int .u8 17, .int .u8 4, .int .u8 8, .int .u8 31, .int .u8 27, .int .u8 13, .int .u8 23, .int .u8 21, .int .u8 19, .int .u8 16, .int .u8 7, .int .u8 26, .int .u8 12, .int .u8 18, .int .u8 6, .int .u8 11, .int .u8 5, .int .u8 10, .int .u8 9] t frozen
      | o => o).modify 5 fun
      | .cells _ t frozen => .cells #[.int .u8 0, .int .u8 1, .int .u8 56, .int .u8 2, .int .u8 57, .int .u8 49, .int .u8 28, .int .u8 3, .int .u8 61, .int .u8 58, .int .u8 42, .int .u8 50, .int .u8 38, .int .u8 29, .int .u8 17, .int .u8 4, .int .u8 62, .int .u8 47, .int .u8 59, .int .u8 36, .int .u8 45, .int .u8 43, .int .u8 51, .int .u8 22, .int .u8 53, .int .u8 39, .int .u8 33, .int .u8 30, .int .u8 24, .int .u8 18, .int .u8 12, .int .u8 5, .int .u8 63, .int .u8 55, .int .u8 48, .int .u8 27, .int .u8 60, .int .u8 41, .int .u8 37, .int .u8 16, .int .u8 46, .int .u8 35, .int .u8 44, .int .u8 21, .int .u8 52, .int .u8 32, .int .u8 23, .int .u8 11, .int .u8 54, .int .u8 26, .int .u8 40, .int .u8 15, .int .u8 34, .int .u8 20, .int .u8 31, .int .u8 10, .int .u8 25, .int .u8 14, .int .u8 19, .int .u8 9, .int .u8 13, .int .u8 8, .int .u8 7, .int .u8 6] t frozen
      | o => o).modify 1 fun
      | .cells _ t frozen => .cells #[.int .u64 1, .int .u64 10, .int .u64 100, .int .u64 1000, .int .u64 10000, .int .u64 100000, .int .u64 1000000, .int .u64 10000000, .int .u64 100000000, .int .u64 1000000000, .int .u64 10000000000, .int .u64 100000000000, .int .u64 1000000000000, .int .u64 10000000000000, .int .u64 100000000000000, .int .u64 1000000000000000, .int .u64 10000000000000000, .int .u64 100000000000000000, .int .u64 1000000000000000000, .int .u64 10000000000000000000] t frozen
      | o => o).modify 3 fun
      | .cells _ t frozen => .cells #[.iface 221 (.pointer (some ⟨(World.holding Tryz.prog default ⟨#[], #[], []⟩).heap.size + 0, 0, none⟩))] t frozen
      | o => o).modify 2 fun
      | .cells _ t frozen => .cells #[.iface 221 (.pointer (some ⟨(World.holding Tryz.prog default ⟨#[], #[], []⟩).heap.size + 1, 0, none⟩))] t frozen
      | o => o) }
theorem isLaid (os : Os) : ∃ W, IsLaid os W := ⟨_, rfl⟩
set_option maxRecDepth 100000 in
theorem laid_met (os : Os) (W : World) (hW : IsLaid os W) (args : Array Value) : laidMet Tryz.prog Rows.restTextsRow.laid (W.forCall (fun _ _ => 0) ⟨#[], args, []⟩).memory := by
  cases hW
  exact laidMet_of_run' 8 (by kernel_rfl) (by kernel_rfl)

end Go.Proofs.YtgpaleifhcdjnaaGreatDoor

