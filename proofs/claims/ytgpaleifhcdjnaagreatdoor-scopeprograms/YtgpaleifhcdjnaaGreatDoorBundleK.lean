/- Own texts, one behind the other (part 11). -/
import Derived.Test.YtgpaleifhcdjnaaGreatDoorBundleJ
import Derived.Test.YtgpaleifhcdjnaaGreatDoorRows
import Derived.Test.YtgpaleifhcdjnaaGreatDoorCards
import Derived.Test.YtgpaleifhcdjnaaGreatDoorTie
import Derived.LaidLaws
/- The document's check of a fact. -/
namespace Go.Proofs.YtgpaleifhcdjnaaGreatDoor
open Go.RowKit

set_option maxRecDepth 100000 in
set_option maxHeartbeats 4000000 in
theorem CheckFact_any (p : Sc.Prog) (va vn vr : Value) (pred : Int) (args : List Int) (v : Value) (w : World) (hA : IntsV w va p.arity) (har : p.arity.length ≤ 9223372036854775807) (hV : IntsV w v args) (hmax : args.length ≤ 9223372036854775807) :
    Calls Tryz.prog 8 #[progVal va vn vr, factVal pred v] w fun e w' => e = .returned (.int .i64 (Sc.factErr p pred args)) ∧ Below w.heap.size w w' := by
  obtain ⟨ao, cap, rfl, hA⟩ := hA
  obtain ⟨ag, cg, rfl, hG⟩ := hV
  have HE : Hid (Sc.factErr p pred args = if Sc.isPred p.arity pred then Sc.thn (if (args.length : Int) ≠ Sc.intD p.arity pred.toNat then 1 else 0) (if args.all Sc.isNum then 0 else 3) else 5) := rfl
  have hR := RB.start w (.cells #[.slice ao p.arity.length cap, vn, vr] 26) (.cells #[.int .i64 pred, .slice ag args.length cg] 28)
  go_enter Tryz.func8, Tryz.ntmps8
  go_wp2_with fail
  refine (btw_any _ _ _ _).mono ?_
  rintro e w2 ⟨he, hw2⟩
  subst hw2
  cases g1 : Sc.isPred p.arity pred
  · have hbt : Tr.between pred 0 ((p.arity.length : Int) - 1) = false := g1
    rw [hbt] at he
    subst he
    have HV : Hid (Sc.factErr p pred args = 5) := by show _ = _; rw [HE.out, g1]; rfl
    clear HE hA hbt
    go_wp2_with fail
    go_ret
    exact ⟨by rw [HV.out]; rfl, hR.bel⟩
  have hbt : Tr.between pred 0 ((p.arity.length : Int) - 1) = true := g1
  rw [hbt] at he
  subst he
  clear hbt
  obtain ⟨k, rfl, hk⟩ := nat_of g1
  obtain ⟨b, off, rfl, hc⟩ := ints_at hA k hk
  have hq := cell_below hR.bel hc
  rw [g1, if_pos rfl, Int.toNat_natCast] at HE
  clear hc hA
  go_upto_region 3 with fail
  generalize (w.alloc (.cells #[.slice (some ⟨b, off, none⟩) p.arity.length cap, vn, vr] 26)).alloc (.cells #[.int .i64 k, .slice ag args.length cg] 28) = w1 at *
  have c1 : w1.cell? ⟨w.heap.size, 0, none⟩ = some (.slice (some ⟨b, off, none⟩) p.arity.length cap) := by rw [Lib.cell_of_heap hR.b1]; rfl
  have d0 : w1.cell? ⟨w.heap.size + 1, 0, none⟩ = some (.int .i64 k) := by rw [Lib.cell_of_heap hR.b2]; rfl
  have d1 : w1.cell? ⟨w.heap.size + 1, 1, none⟩ = some (.slice ag args.length cg) := by rw [Lib.cell_of_heap hR.b2]; rfl
  cases g2 : ((args.length : Int) != Sc.intD p.arity k)
  rotate_left
  · have h2 : ¬ (args.length : Int) = Sc.intD p.arity k := by simpa using g2
    have HV : Hid (Sc.factErr p k args = 1) := by show _ = _; rw [HE.out, if_pos h2]; rfl
    clear HE h2
    go_region_held3 (fun y => y.cell? ⟨w.heap.size, 0, none⟩ = some (.slice (some ⟨b, off, none⟩) p.arity.length cap) ∧ y.cell? ⟨w.heap.size + 1, 0, none⟩ = some (.int .i64 k) ∧ y.cell? ⟨w.heap.size + 1, 1, none⟩ = some (.slice ag args.length cg) ∧ y.cell? ⟨b, off + k, none⟩ = some (.int .i64 (Sc.intD p.arity k))) (go_keep) (fail)
    have hbd := hR.bel.drew
    go_wp2_with fail
    go_ret
    exact ⟨by rw [HV.out]; rfl, hbd⟩
  have h2 : (args.length : Int) = Sc.intD p.arity k := by simpa using g2
  rw [if_neg (by simp [h2]), Sc.thn_zero] at HE
  clear h2
  go_region_held3 (fun y => y.cell? ⟨w.heap.size, 0, none⟩ = some (.slice (some ⟨b, off, none⟩) p.arity.length cap) ∧ y.cell? ⟨w.heap.size + 1, 0, none⟩ = some (.int .i64 k) ∧ y.cell? ⟨w.heap.size + 1, 1, none⟩ = some (.slice ag args.length cg) ∧ y.cell? ⟨b, off + k, none⟩ = some (.int .i64 (Sc.intD p.arity k))) (go_keep) (fail)
  have hR := hR.drew
  clear c1 d0 d1 hq
  generalize w1.drew = wd at *
  go_wp2_with fail
  go_loopw [5] (fun i wr => ∃ j : Nat, j ≤ args.length ∧ i = .int .i64 j ∧ RB w (.cells #[.slice (some ⟨b, off, none⟩) p.arity.length cap, vn, vr] 26) (.cells #[.int .i64 k, .slice ag args.length cg] 28) wr ∧ args.all Sc.isNum = (args.drop j).all Sc.isNum) (fun i _ => args.length - (intOf i).toNat)
  case atStart => exact ⟨0, Nat.zero_le _, rfl, hR, rfl⟩
  case round =>
    clear hR
    obtain ⟨j, hj, rfl, hR, hall⟩ := hrel
    have HAL : Hid _ := hall
    clear hall
    have d1 : wr.cell? ⟨w.heap.size + 1, 1, none⟩ = some (.slice ag args.length cg) := by rw [Lib.cell_of_heap hR.b2]; rfl
    by_cases hjl : j < args.length
    · obtain ⟨b3, off3, rfl, hc⟩ := ints_at hG j hjl
      have q0 := cell_below hR.bel hc
      have HD : Hid (args.all Sc.isNum = (Sc.isNum (Sc.intD args j) && (args.drop (j + 1)).all Sc.isNum)) := HAL.out.trans (all_drop _ _ _ j hjl)
      clear hc hG HAL
      generalize Sc.intD args j = a at *
      go_wp2_with fail
      refine (refNum_any a _).mono ?_
      rintro e w3 ⟨he, rfl⟩
      cases hx : Sc.isNum a
      · rw [hx] at he
        subst he
        have HV : Hid (Sc.factErr p k args = 3) := by show _ = _; rw [HE.out, HD.out, hx]; rfl
        clear HE HD
        go_wp2_with fail
        go_ret
        exact ⟨by rw [HV.out]; rfl, hR.bel⟩
      · rw [hx] at he
        subst he
        have HV : Hid (args.all Sc.isNum = (args.drop (j + 1)).all Sc.isNum) := by show _ = _; rw [HD.out, hx]; rfl
        clear HD
        go_wp2_with fail
        go_roundw
        case rel => exact ⟨j + 1, by omega, by go_num, hR, HV.out⟩
        case measure => simp [intOf]; omega
    · have HV : Hid (Sc.factErr p k args = 0) := by show _ = _; rw [HE.out, HAL.out, List.drop_of_length_le (by omega)]; rfl
      clear HE hG
      go_wp2_with fail
      go_ret
      exact ⟨by rw [HV.out]; rfl, hR.bel⟩

end Go.Proofs.YtgpaleifhcdjnaaGreatDoor

/- The laws of package scope: plain facts. -/
namespace Go.Proofs.YtgpaleifhcdjnaaGreatDoor
open Go.RowKit

theorem check_lens {p : Sc.Prog} (h : Sc.check p = 0) : p.arity.length = p.names.length := by
  unfold Sc.check at h
  split at h
  · exact absurd h (by decide)
  · split at h
    · exact absurd h (by decide)
    · rename_i hn
      omega
theorem resolveOf_fit (l : List Tr.Rule) : ProgFit (Sc.resolveOf l).1 := by
  have h0 : ProgFit ⟨[], [], []⟩ := ⟨by decide, by decide, by decide, fun i hi => absurd hi (by simp)⟩
  unfold Sc.resolveOf
  split
  · rename_i hc
    rcases hr : Sc.resolve l with e | p
    · exact h0
    · simp only
      split
      · rename_i hk
        exact resolve_fit hr hc (check_lens hk)
      · exact h0
  · exact h0
theorem resolveOf_check {l : List Tr.Rule} (h : (Sc.resolveOf l).2.2 = 0) : Sc.check (Sc.resolveOf l).1 = 0 := by
  unfold Sc.resolveOf at h ⊢
  split at h
  · rename_i hc
    rw [if_pos hc]
    rcases hr : Sc.resolve l with e | p
    · rw [hr] at h
      exact absurd h (resolve_bad hr)
    · rw [hr] at h
      simp only at h ⊢
      split at h
      · rename_i hk
        rw [if_pos hk]
        exact hk
      · rename_i hk
        exact absurd h hk
  · exact absurd h (by decide)
theorem programOf_check {X : List Tr.Rule × Int × Int} (h : (Sc.programOf X).2.2 = 0) : Sc.check (Sc.programOf X).1 = 0 := by
  unfold Sc.programOf at h ⊢
  split at h
  · rename_i hc
    rw [if_pos hc]
    exact resolveOf_check h
  · rename_i hc
    exact absurd h hc
theorem programOf_fit (X : List Tr.Rule × Int × Int) : ProgFit (Sc.programOf X).1 := by
  have h0 : ProgFit ⟨[], [], []⟩ := ⟨by decide, by decide, by decide, fun i hi => absurd hi (by simp)⟩
  unfold Sc.programOf
  split
  · exact resolveOf_fit X.1
  · exact h0
end Go.Proofs.YtgpaleifhcdjnaaGreatDoor

/- The law of package scope: Program. -/
namespace Go.Proofs.YtgpaleifhcdjnaaGreatDoor
open Go.RowKit

set_option maxRecDepth 100000 in
set_option maxHeartbeats 2000000 in
theorem law_scopePrograms (s : ByteArray) (w : World) :
    Calls Tryz.prog 5 #[.string s] w fun e w' => e = .returned (.bool true) ∧ Below w.heap.size w w' := by
  have HR : Hid (∀ y, Calls Tryz.prog 15 #[.string s] y fun e w' => ∃ va vn vr, e = .returned (.tuple #[progVal va vn vr, .int .i64 (Sc.programOf (Pr.parse s.data.toList)).2.1, .int .i64 (Sc.programOf (Pr.parse s.data.toList)).2.2]) ∧ ProgV w' va vn vr (Sc.programOf (Pr.parse s.data.toList)).1 ∧ Below y.heap.size y w') := fun y => Program_any s y names_of_check
  have HQ : Hid (∀ y, Calls Tryz.prog 16 #[.string s] y fun e w' => ∃ va vn vr, e = .returned (.tuple #[progVal va vn vr, .int .i64 (Sc.programOf (Pr.parse s.data.toList)).2.1, .int .i64 (Sc.programOf (Pr.parse s.data.toList)).2.2]) ∧ ProgV w' va vn vr (Sc.programOf (Pr.parse s.data.toList)).1 ∧ Below y.heap.size y w') := fun y => ProgramOf_any s y
  have HF : Hid (ProgFit (Sc.programOf (Pr.parse s.data.toList)).1) := programOf_fit _
  have HC : Hid ((Sc.programOf (Pr.parse s.data.toList)).2.2 = 0 → Sc.check (Sc.programOf (Pr.parse s.data.toList)).1 = 0) := programOf_check
  generalize Sc.programOf (Pr.parse s.data.toList) = R at *
  obtain ⟨p, a, c⟩ := R
  have HC : Hid (c = 0 → Sc.check p = 0) := HC
  go_enter Tryz.func5, Tryz.ntmps5
  go_wp2_with fail
  refine Calls.mono (HR.out _) ?_
  rintro e w2 ⟨va, vn, vr, rfl, hP2, hb2⟩
  obtain ⟨a0, n0, rfl, _⟩ := id hP2.ar
  obtain ⟨a1, n1, rfl, _⟩ := id hP2.nm
  obtain ⟨a2, n2, rfl, _⟩ := id hP2.rl
  have bA : Below w2.heap.size w2 (w2.alloc (.cells #[.slice a0 p.arity.length n0, .slice a1 p.names.length n1, .slice a2 p.rules.length n2] 26)) := (Below.refl _ _).alloc (Nat.le_refl _) _
  have hbw3 := hb2.trans (bA.mono hb2.size)
  have hPb3 := heap_alloc_new w2 (.cells #[.slice a0 p.arity.length n0, .slice a1 p.names.length n1, .slice a2 p.rules.length n2] 26)
  have hP3 := hP2.below bA
  clear hP2 hb2 bA HR
  go_wp2_with fail
  generalize hPB : w2.heap.size = PB at *
  generalize w2.alloc (.cells #[.slice a0 p.arity.length n0, .slice a1 p.names.length n1, .slice a2 p.rules.length n2] 26) = w3 at *
  clear hPB
  refine Calls.mono (HQ.out _) ?_
  rintro e w4 ⟨ua, un, ur, rfl, hQ4, hb4⟩
  obtain ⟨b0, m0, rfl, _⟩ := id hQ4.ar
  obtain ⟨b1, m1, rfl, _⟩ := id hQ4.nm
  obtain ⟨b2, m2, rfl, _⟩ := id hQ4.rl
  have bC : Below w4.heap.size w4 (w4.alloc (.cells #[.slice b0 p.arity.length m0, .slice b1 p.names.length m1, .slice b2 p.rules.length m2] 26)) := (Below.refl _ _).alloc (Nat.le_refl _) _
  have hb5 := hb4.trans (bC.mono hb4.size)
  have hPb5 := (hb5.block _ (heap_lt hPb3)).trans hPb3
  have hQb5 := heap_alloc_new w4 (.cells #[.slice b0 p.arity.length m0, .slice b1 p.names.length m1, .slice b2 p.rules.length m2] 26)
  have hP5 := hP3.below hb5
  have hQ5 := hQ4.below bC
  have hbw5 := hbw3.trans (hb5.mono hbw3.size)
  clear hP3 hQ4 hb4 hb5 bC hPb3 hbw3 HQ
  go_wp2_with fail
  generalize hQB : w4.heap.size = QB at *
  generalize w4.alloc (.cells #[.slice b0 p.arity.length m0, .slice b1 p.names.length m1, .slice b2 p.rules.length m2] 26) = w5 at *
  clear hQB
  refine Calls.mono (scopeBegun_any _) ?_
  rintro e w6 ⟨rfl, hb6⟩
  have hPb6 := (hb6.block _ (heap_lt hPb5)).trans hPb5
  have hQb6 := (hb6.block _ (heap_lt hQb5)).trans hQb5
  have hP6 := hP5.below hb6
  have hQ6 := hQ5.below hb6
  have hbw6 := hbw5.trans (hb6.mono hbw5.size)
  clear hPb5 hQb5 hP5 hQ5 hbw5 hb6
  have p0 : w6.cell? ⟨PB, 0, none⟩ = some (.slice a0 p.arity.length n0) := by rw [Lib.cell_of_heap hPb6]; rfl
  have p1 : w6.cell? ⟨PB, 1, none⟩ = some (.slice a1 p.names.length n1) := by rw [Lib.cell_of_heap hPb6]; rfl
  have p2 : w6.cell? ⟨PB, 2, none⟩ = some (.slice a2 p.rules.length n2) := by rw [Lib.cell_of_heap hPb6]; rfl
  have q0 : w6.cell? ⟨QB, 0, none⟩ = some (.slice b0 p.arity.length m0) := by rw [Lib.cell_of_heap hQb6]; rfl
  have q1 : w6.cell? ⟨QB, 1, none⟩ = some (.slice b1 p.names.length m1) := by rw [Lib.cell_of_heap hQb6]; rfl
  have q2 : w6.cell? ⟨QB, 2, none⟩ = some (.slice b2 p.rules.length m2) := by rw [Lib.cell_of_heap hQb6]; rfl
  have g1 : (c == c) = true := by simp
  have g2 : (a == a) = true := by simp
  go_wp2_with fail
  refine Calls.mono (sameProg_refl p _ _ _ _ _ _ _ hP6 hQ6 HF.out) ?_
  rintro e w7 ⟨rfl, hb7⟩
  have hbw7 := hbw6.trans (hb7.mono hbw6.size)
  have hPb7 := (hb7.block _ (heap_lt hPb6)).trans hPb6
  have hP7 := hP6.below hb7
  clear p0 p1 p2 q0 q1 q2 hPb6 hQb6 hP6 hQ6 hbw6 hb7
  by_cases hc : c = 0
  · have hc0 := HC.out hc
    have hcn : (c != 0) = false := by simp [hc]
    have p0 : w7.cell? ⟨PB, 0, none⟩ = some (.slice a0 p.arity.length n0) := by rw [Lib.cell_of_heap hPb7]; rfl
    have p1 : w7.cell? ⟨PB, 1, none⟩ = some (.slice a1 p.names.length n1) := by rw [Lib.cell_of_heap hPb7]; rfl
    have p2 : w7.cell? ⟨PB, 2, none⟩ = some (.slice a2 p.rules.length n2) := by rw [Lib.cell_of_heap hPb7]; rfl
    have HCK : Hid (Sc.check p = 0) := hc0
    clear hc hc0
    go_wp2_with fail
    refine Calls.mono (ScCheck_any p _ _ _ _ hP7 HF.out) ?_
    rintro e w8 ⟨he, hb8⟩
    rw [HCK.out] at he
    subst he
    have hbw8 := hbw7.trans (hb8.mono hbw7.size)
    clear p0 p1 p2 hPb7 hP7 hbw7 hb8
    go_wp2_with fail
    go_ret
    exact ⟨rfl, hbw8⟩
  · have hcn : (c != 0) = true := by simpa using hc
    clear hc hPb7 hP7
    go_wp2_with fail
    go_ret
    exact ⟨rfl, hbw7⟩

end Go.Proofs.YtgpaleifhcdjnaaGreatDoor

/- A world in which the listed variables of the library read as the row says: the witness of the row's condition. -/
namespace Go.Proofs.YtgpaleifhcdjnaaGreatDoor
open Go

/-- It is the settled world, with the listed variables laid. -/
def IsLaid (os : Os) (W : World) : Prop :=
  W = { World.holding Tryz.prog os ⟨#[.cells #[.string ⟨#[118, 97, 108, 117, 101, 32, 111, 117, 116, 32, 111, 102, 32, 114, 97, 110, 103, 101]⟩] 223, .cells #[.string ⟨#[105, 110, 118, 97, 108, 105, 100, 32, 115, 121, 110, 116, 97, 120]⟩] 223], #[], []⟩ with heap := ((((((World.holding Tryz.prog os ⟨#[.cells #[.string ⟨#[118, 97, 108, 117, 101, 32, 111, 117, 116, 32, 111, 102, 32, 114, 97, 110, 103, 101]⟩] 223, .cells #[.string ⟨#[105, 110, 118, 97, 108, 105, 100, 32, 115, 121, 110, 116, 97, 120]⟩] 223], #[], []⟩).heap.modify 4 fun
      | .cells _ t frozen => .cells #[.int .u8 0, .int .u8 1, .int .u8 28, .int .u8 2, .int .u8 29, .int .u8 14, .int .u8 24, .int .u8 3, .int .u8 30, .int .u8 22, .int .u8 20, .int .u8 15, .int .u8 25, .int .u8 17, .int .u8 4, .int .u8 8, .int .u8 31, .int .u8 27, .int .u8 13, .int .u8 23, .int .u8 21, .int .u8 19, .int .u8 16, .int .u8 7, .int .u8 26, .int .u8 12, .int .u8 18, .int .u8 6, .int .u8 11, .int .u8 5, .int .u8 10, .int .u8 9] t frozen
      | o => o).modify 5 fun
      | .cells _ t frozen => .cells #[.int .u8 0, .int .u8 1, .int .u8 56, .int .u8 2, .int .u8 57, .int .u8 49, .int .u8 28, .int .u8 3, .int .u8 61, .int .u8 58, .int .u8 42, .int .u8 50, .int .u8 38, .int .u8 29, .int .u8 17, .int .u8 4, .int .u8 62, .int .u8 47, .int .u8 59, .int .u8 36, .int .u8 45, .int .u8 43, .int .u8 51, .int .u8 22, .int .u8 53, .int .u8 39, .int .u8 33, .int .u8 30, .int .u8 24, .int .u8 18, .int .u8 12, .int .u8 5, .int .u8 63, .int .u8 55, .int .u8 48, .int .u8 27, .int .u8 60, .int .u8 41, .int .u8 37, .int .u8 16, .int .u8 46, .int .u8 35, .int .u8 44, .int .u8 21, .int .u8 52, .int .u8 32, .int .u8 23, .int .u8 11, .int .u8 54, .int .u8 26, .int .u8 40, .int .u8 15, .int .u8 34, .int .u8 20, .int .u8 31, .int .u8 10, .int .u8 25, .int .u8 14, .int .u8 19, .int .u8 9, .int .u8 13, .int .u8 8, .int .u8 7, .int .u8 6] t frozen
      | o => o).modify 1 fun
      | .cells _ t frozen => .cells #[.int .u64 1, .int .u64 10, .int .u64 100, .int .u64 1000, .int .u64 10000, .int .u64 100000, .int .u64 1000000, .int .u64 10000000, .int .u64 100000000, .int .u64 1000000000, .int .u64 10000000000, .int .u64 100000000000, .int .u64 1000000000000, .int .u64 10000000000000, .int .u64 100000000000000, .int .u64 1000000000000000, .int .u64 10000000000000000, .int .u64 100000000000000000, .int .u64 1000000000000000000, .int .u64 10000000000000000000] t frozen
      | o => o).modify 3 fun
      | .cells _ t frozen => .cells #[.iface 221 (.pointer (some ⟨(World.holding Tryz.prog default ⟨#[], #[], []⟩).heap.size + 0, 0, none⟩))] t frozen
      | o => o).modify 2 fun
      | .cells _ t frozen => .cells #[.iface 221 (.pointer (some ⟨(World.holding Tryz.prog default ⟨#[], #[], []⟩).heap.size + 1, 0, none⟩))] t frozen
      | o => o) }
theorem isLaid (os : Os) : ∃ W, IsLaid os W := ⟨_, rfl⟩
set_option maxRecDepth 100000 in
theorem laid_met (os : Os) (W : World) (hW : IsLaid os W) (args : Array Value) : laidMet Tryz.prog Rows.restTextsRow.laid (W.forCall (fun _ _ => 0) ⟨#[], args, []⟩).memory := by
  cases hW
  exact laidMet_of_run' 8 (by kernel_rfl) (by kernel_rfl)

end Go.Proofs.YtgpaleifhcdjnaaGreatDoor

