/- Own texts, one behind the other (part 11). -/
import Derived.Test.YthenjegmigeieaaGreatBundleJ
import Derived.Test.YthenjegmigeieaaGreatRows
import Derived.Shelf.SlSortCmp.NoneTotal
/- Package scope: facts. -/
namespace Go.Proofs.YthenjegmigeieaaGreat
open Go.RowKit

theorem enters132 : Enters 132 := enters_of Tryz.func132 (by kernel_rfl) rfl
theorem enters127 : Enters 127 := enters_of Tryz.func127 (by kernel_rfl) rfl
set_option maxRecDepth 100000 in
set_option maxHeartbeats 400000 in
theorem notNum_any (n : Int) (w : World) : Calls Tryz.prog 132 #[.int .i64 n] w fun e w' => e = .returned (.bool (!Sc.isNum n)) ∧ w' = w := by
  go_enter Tryz.func132, Tryz.ntmps132
  go_wp2_with fail
  refine (isNumber_any n _).mono ?_
  rintro e w1 ⟨rfl, rfl⟩
  go_wp2_with fail
  go_ret
  exact ⟨rfl, rfl⟩

set_option maxRecDepth 100000 in
set_option maxHeartbeats 400000 in
theorem indexF_none (w : World) (ao : Option Addr) (cap : Nat) : Calls Tryz.prog 177 #[.slice ao 0 cap, .func (.func 132) #[] #[]] w fun e w' => e = .returned (.int .i64 (-1)) ∧ Below w.heap.size w w' := by
  go_enter Tryz.func177, Tryz.ntmps177
  go_wp2_with fail
  refine wp_loop_rounds 1 ?_
  rw [rounds_succ]
  go_wp2_with fail
  go_ret
  exact ⟨rfl, Below.refl _ _⟩

set_option maxRecDepth 100000 in
set_option maxHeartbeats 400000 in
theorem indexF_some (l : List Int) (n b off cap : Nat) (w : World) (hn : l.length = n) (hmax : n ≤ 9223372036854775807) (hB : ∀ i, i < n → w.cell? ⟨b, off + i, none⟩ = some (.int .i64 (Sc.intD l i))) :
    Calls Tryz.prog 177 #[.slice (some ⟨b, off, none⟩) n cap, .func (.func 132) #[] #[]] w fun e w' => ∃ r : Int, e = .returned (.int .i64 r) ∧ decide (0 ≤ r) = !(l.all Sc.isNum) ∧ Below w.heap.size w w' := by
  have HN : Hid (l.length = n) := hn
  have he := enters132
  unfold Enters at he
  clear hn
  go_enter Tryz.func177, Tryz.ntmps177
  go_wp2_with fail
  go_loopw [8] (fun i wr => ∃ k : Nat, k ≤ n ∧ i = .int .i64 k ∧ l.all Sc.isNum = (l.drop k).all Sc.isNum ∧ Below w.heap.size w wr) (fun i _ => n - (intOf i).toNat)
  case atStart => exact ⟨0, Nat.zero_le _, rfl, rfl, Below.refl _ _⟩
  case round =>
    obtain ⟨k, hk, rfl, hall, hbel⟩ := hrel
    have HA : Hid (l.all Sc.isNum = (l.drop k).all Sc.isNum) := hall
    clear hall
    by_cases hlt : k < n
    · have hc := cell_below hbel (hB k hlt)
      have HD : Hid (l.all Sc.isNum = (Sc.isNum (Sc.intD l k) && (l.drop (k + 1)).all Sc.isNum)) := HA.out.trans (all_drop _ _ _ k (by rw [HN.out]; exact hlt))
      clear hB HA
      generalize Sc.intD l k = x at *
      go_wp2_with fail
      refine (notNum_any x _).mono ?_
      rintro e w1 ⟨he1, rfl⟩
      cases hx : Sc.isNum x
      · rw [hx] at he1
        subst he1
        have HV : Hid (l.all Sc.isNum = false) := by show _ = _; rw [HD.out, hx]; rfl
        clear HD
        go_wp2_with fail
        go_ret
        exact ⟨k, rfl, by rw [HV.out]; simp, hbel⟩
      · rw [hx] at he1
        subst he1
        have HV : Hid (l.all Sc.isNum = (l.drop (k + 1)).all Sc.isNum) := by show _ = _; rw [HD.out, hx]; rfl
        clear HD
        go_wp2_with fail
        go_roundw
        case rel => exact ⟨k + 1, by omega, by go_num, HV.out, hbel⟩
        case measure => simp [intOf]; omega
    · have HV : Hid (l.all Sc.isNum = true) := by show _ = _; rw [HA.out, List.drop_of_length_le (by rw [HN.out]; omega)]; rfl
      clear hB
      go_wp2_with fail
      go_ret
      exact ⟨-1, rfl, by rw [HV.out]; rfl, hbel⟩

set_option maxRecDepth 100000 in
set_option maxHeartbeats 400000 in
theorem scContainsF_any (l : List Int) (v : Value) (w : World) (hV : IntsV w v l) (hmax : l.length ≤ 9223372036854775807) :
    Calls Tryz.prog 131 #[v, .func (.func 132) #[] #[]] w fun e w' => e = .returned (.bool (!(l.all Sc.isNum))) ∧ Below w.heap.size w w' := by
  obtain ⟨ao, cap, rfl, h⟩ := hV
  have HI : Hid (Calls Tryz.prog 177 #[.slice ao l.length cap, .func (.func 132) #[] #[]] w fun e w' => ∃ r : Int, e = .returned (.int .i64 r) ∧ decide (0 ≤ r) = !(l.all Sc.isNum) ∧ Below w.heap.size w w') := by
    rcases h with rfl | ⟨b, off, rfl, h⟩
    · exact (indexF_none w ao cap).mono fun e w' ⟨h1, h2⟩ => ⟨-1, h1, rfl, h2⟩
    · exact indexF_some l l.length b off cap w rfl hmax h
  go_enter Tryz.func131, Tryz.ntmps131
  go_wp2_with fail
  refine Calls.mono HI.out ?_
  rintro e w1 ⟨r, rfl, hr, hb⟩
  go_wp2_with fail
  go_ret
  exact ⟨rfl, hb⟩

/-- A fact's value. -/
abbrev factVal (pred : Int) (v : Value) : Value := .agg #[.int .i64 pred, v]

set_option maxRecDepth 100000 in
set_option maxHeartbeats 2000000 in
theorem fact1_any (p : Sc.Prog) (va vn vr : Value) (X Y : Nat) (pred : Int) (args : List Int) (v : Value) (w : World) (hX : w.heap[X]? = some (.cells #[va, vn, vr] 26)) (hY : w.heap[Y]? = some (.cells #[.int .i64 pred, v] 55)) (hP : ProgV w va vn vr p) (hF : ProgFit p) (hV : IntsV w v args) (hmax : args.length ≤ 9223372036854775807) :
    Calls Tryz.prog 127 #[.pointer (some ⟨X, 0, none⟩), .pointer (some ⟨Y, 0, none⟩)] w fun e w' => e = finE (Sc.fact p pred args) ∧ Below w.heap.size w w' := by
  have HPV : Hid (ProgV w va vn vr p) := hP
  have HV0 : Hid (IntsV w v args) := hV
  obtain ⟨ao, cap, rfl, hA⟩ := hP.ar
  obtain ⟨ag, cg, rfl, _⟩ := hV
  have c0 : w.cell? ⟨X, 0, none⟩ = some (.slice ao p.arity.length cap) := by rw [Lib.cell_of_heap hX]; rfl
  have c1 : w.cell? ⟨X, 1, none⟩ = some vn := by rw [Lib.cell_of_heap hX]; rfl
  have c2 : w.cell? ⟨X, 2, none⟩ = some vr := by rw [Lib.cell_of_heap hX]; rfl
  have HE : Hid (Sc.fact p pred args = Sc.thn (Sc.check p) (Sc.factErr p pred args)) := rfl
  clear hP
  go_enter Tryz.func127, Tryz.ntmps127
  go_wp2_with fail
  refine Calls.mono (scCheck_any p _ _ _ _ HPV.out hF) ?_
  rintro e w1 ⟨he, hb1⟩
  by_cases h : Sc.check p = 0
  rotate_left
  · rw [finE_ne h] at he
    subst he
    have HV : Hid (Sc.fact p pred args = Sc.check p) := by show _ = _; rw [HE.out, Sc.thn_ne _ h]
    go_wp2_with fail
    exact ⟨rfl, by rw [HV.out, finE_ne h], hb1⟩
  rw [h, finE_zero] at he
  subst he
  rw [h, Sc.thn_zero] at HE
  have hX1 := (hb1.block _ (heap_lt hX)).trans hX
  have hY1 := (hb1.block _ (heap_lt hY)).trans hY
  clear c0 c1 c2
  have c0 : w1.cell? ⟨X, 0, none⟩ = some (.slice ao p.arity.length cap) := by rw [Lib.cell_of_heap hX1]; rfl
  have c1 : w1.cell? ⟨X, 1, none⟩ = some vn := by rw [Lib.cell_of_heap hX1]; rfl
  have c2 : w1.cell? ⟨X, 2, none⟩ = some vr := by rw [Lib.cell_of_heap hX1]; rfl
  have d0 : w1.cell? ⟨Y, 0, none⟩ = some (.int .i64 pred) := by rw [Lib.cell_of_heap hY1]; rfl
  have d1 : w1.cell? ⟨Y, 1, none⟩ = some (.slice ag args.length cg) := by rw [Lib.cell_of_heap hY1]; rfl
  clear hX hY h hF HPV
  unfold Sc.factErr at HE
  go_wp2_with fail
  refine Calls.mono (isPred_any p.arity ao cap vn vr pred _) ?_
  rintro e w2 ⟨he, hb2⟩
  have hb12 := hb1.trans (hb2.mono hb1.size)
  have hX2 := (hb2.block _ (heap_lt hX1)).trans hX1
  have hY2 := (hb2.block _ (heap_lt hY1)).trans hY1
  cases g1 : Sc.isPred p.arity pred
  · rw [g1] at he
    subst he
    have HV : Hid (Sc.fact p pred args = 5) := by show _ = _; rw [HE.out, g1]; rfl
    go_wp2_with fail
    refine (refuse_yes 5 _).mono ?_
    rintro e w3 ⟨rfl, hb3⟩
    go_wp2_with fail
    exact ⟨rfl, by rw [HV.out]; rfl, hb12.trans (hb3.mono hb12.size)⟩
  rw [g1] at he
  subst he
  obtain ⟨k, rfl, hk⟩ := nat_of g1
  obtain ⟨b, off, rfl, hc⟩ := ints_at hA k hk
  have hq := cell_below hb12 hc
  rw [g1, if_pos rfl, Int.toNat_natCast] at HE
  clear c0 c1 c2 d0 d1
  have c0 : w2.cell? ⟨X, 0, none⟩ = some (.slice (some ⟨b, off, none⟩) p.arity.length cap) := by rw [Lib.cell_of_heap hX2]; rfl
  have d0 : w2.cell? ⟨Y, 0, none⟩ = some (.int .i64 k) := by rw [Lib.cell_of_heap hY2]; rfl
  have d1 : w2.cell? ⟨Y, 1, none⟩ = some (.slice ag args.length cg) := by rw [Lib.cell_of_heap hY2]; rfl
  clear hc hA hX1 hY1 hb1 hb2
  go_wp2_with fail
  refine (refuse_no 5 _).mono ?_
  rintro e w3 ⟨rfl, rfl⟩
  go_upto_region 3 with fail
  cases g2 : ((args.length : Int) != Sc.intD p.arity k)
  · have h2 : (args.length : Int) = Sc.intD p.arity k := by simpa using g2
    rw [if_neg (by simp [h2]), Sc.thn_zero] at HE
    clear h2
    go_region_held3 (fun y => y.cell? ⟨X, 0, none⟩ = some (.slice (some ⟨b, off, none⟩) p.arity.length cap) ∧ y.cell? ⟨Y, 0, none⟩ = some (.int .i64 k) ∧ y.cell? ⟨Y, 1, none⟩ = some (.slice ag args.length cg) ∧ y.cell? ⟨b, off + k, none⟩ = some (.int .i64 (Sc.intD p.arity k))) (go_keep) ((go_at_call 129; refine Calls.mono (refuse_no 1 _) ?_; rintro e y ⟨rfl, rfl⟩))
    have hY3 : w3.drew.heap[Y]? = some (.cells #[.int .i64 k, .slice ag args.length cg] 55) := hY2
    have hb3 := hb12.drew
    clear hq c0 d0 d1 hX2 hY2 hb12
    generalize w3.drew = w4 at *
    have d1 : w4.cell? ⟨Y, 1, none⟩ = some (.slice ag args.length cg) := by rw [Lib.cell_of_heap hY3]; rfl
    have hmf : ∀ (fn : Fn) (first cap : Array Value) (w : World), (Instr.makeFunc fn first cap).run Tryz.prog w = .ok (.func fn first cap) w := fun _ _ _ _ => rfl
    go_wp2_with fail
    refine Calls.mono (scContainsF_any args _ _ (intsV_below HV0.out hb3) hmax) ?_
    rintro e w5 ⟨he, hb5⟩
    have hb35 := hb3.trans (hb5.mono hb3.size)
    cases g3 : args.all Sc.isNum
    · rw [g3] at he HE
      subst he
      have HV : Hid (Sc.fact p k args = 3) := by show _ = _; rw [HE.out]; rfl
      go_wp2_with fail
      refine (refuse_yes 3 _).mono ?_
      rintro e w6 ⟨rfl, hb6⟩
      go_wp2_with fail
      exact ⟨rfl, by rw [HV.out]; rfl, hb35.trans (hb6.mono hb35.size)⟩
    · rw [g3] at he HE
      subst he
      have HV : Hid (Sc.fact p k args = 0) := by show _ = _; rw [HE.out]; rfl
      go_wp2_with fail
      refine (refuse_no 3 _).mono ?_
      rintro e w6 ⟨rfl, rfl⟩
      go_wp2_with fail
      exact ⟨rfl, .tuple #[], by simp [results, Tryz.results127], by rw [HV.out]; rfl, hb35⟩
  · have h2 : ¬ (args.length : Int) = Sc.intD p.arity k := by simpa using g2
    have HV : Hid (Sc.fact p k args = 1) := by show _ = _; rw [HE.out, if_pos h2]; rfl
    clear HE h2
    refine wp_region_held_drew (S := (fun y => y.cell? ⟨X, 0, none⟩ = some (.slice (some ⟨b, off, none⟩) p.arity.length cap) ∧ y.cell? ⟨Y, 0, none⟩ = some (.int .i64 k) ∧ y.cell? ⟨Y, 1, none⟩ = some (.slice ag args.length cg) ∧ y.cell? ⟨b, off + k, none⟩ = some (.int .i64 (Sc.intD p.arity k)))) (by kernel_rfl) (by go_keep) (fun hHeld => ?_)
    refine wpAnyH_take (i := 0) (v := ?v0x0) rfl (by kernel_rfl) (by kernel_rfl) (by kernel_rfl) (fun _ _ _ h => h) (Or.inl ⟨by rfl, ?hy0x0⟩) (by assumption) ?_
    case hy0x0 =>
      intro w hSw
      (try dsimp only at hSw)
      go_simp
      try with_reducible rfl
    try simp only [Act.put, List.setIfInBounds_toArray]
    refine wpAnyH_take (i := 1) (v := ?v1x1) rfl (by kernel_rfl) (by kernel_rfl) (by kernel_rfl) (fun _ _ _ h => h) (Or.inl ⟨by rfl, ?hy1x1⟩) (by assumption) ?_
    case hy1x1 =>
      intro w hSw
      (try dsimp only at hSw)
      go_simp
      try with_reducible rfl
    try simp only [Act.put]
    refine wpAnyH_take (i := 2) (v := ?v2x2) rfl (by kernel_rfl) (by kernel_rfl) (by kernel_rfl) (fun _ _ _ h => h) (Or.inl ⟨by rfl, ?hy2x2⟩) (by assumption) ?_
    case hy2x2 =>
      intro w hSw
      (try dsimp only at hSw)
      go_simp
      try with_reducible rfl
    try simp only [Act.put]
    refine wpAnyH_take (i := 3) (v := ?v3x3) rfl (by kernel_rfl) (by kernel_rfl) (by kernel_rfl) (fun _ _ _ h => h) (Or.inl ⟨by rfl, ?hy3x3⟩) (by assumption) ?_
    case hy3x3 =>
      intro w hSw
      (try dsimp only at hSw)
      go_simp
      try with_reducible rfl
    try simp only [Act.put]
    refine wpAnyH_take (i := 4) (v := ?v4x4) rfl (by kernel_rfl) (by kernel_rfl) (by kernel_rfl) (fun _ _ _ h => h) (Or.inl ⟨by rfl, ?hy4x4⟩) (by assumption) ?_
    case hy4x4 =>
      intro w hSw
      (try dsimp only at hSw)
      go_simp
      try with_reducible rfl
    try simp only [Act.put]
    refine wpAnyH_take (i := 5) (v := ?v5x5) rfl (by kernel_rfl) (by kernel_rfl) (by kernel_rfl) (fun _ _ _ h => h) (Or.inl ⟨by rfl, ?hy5x5⟩) (by assumption) ?_
    case hy5x5 =>
      intro w hSw
      (try dsimp only at hSw)
      go_simp
      try with_reducible rfl
    try simp only [Act.put]
    refine wpAnyH_take (i := 6) (v := ?v6x6) rfl (by kernel_rfl) (by kernel_rfl) (by kernel_rfl) (fun _ _ _ h => h) (Or.inl ⟨by rfl, ?hy6x6⟩) (by assumption) ?_
    case hy6x6 =>
      intro w hSw
      (try dsimp only at hSw)
      go_simp
      try with_reducible rfl
    try simp only [Act.put]
    refine wpAnyH_take (i := 7) (v := ?v7x7) rfl (by kernel_rfl) (by kernel_rfl) (by kernel_rfl) (fun _ _ _ h => h) (Or.inl ⟨by rfl, ?hy7x7⟩) (by assumption) ?_
    case hy7x7 =>
      intro w hSw
      (try dsimp only at hSw)
      go_simp
      try with_reducible rfl
    try simp only [Act.put]
    refine wpAnyH_take (i := 8) (v := ?v8x8) rfl (by kernel_rfl) (by kernel_rfl) (by kernel_rfl) (fun _ _ _ h => h) (Or.inl ⟨by rfl, ?hy8x8⟩) (by assumption) ?_
    case hy8x8 =>
      intro w hSw
      (try dsimp only at hSw)
      go_simp
      try with_reducible rfl
    try simp only [Act.put]
    refine wpAnyH_take (i := 9) (v := ?v9x9) rfl (by kernel_rfl) (by kernel_rfl) (by kernel_rfl) (fun _ _ _ h => h) (Or.inl ⟨by rfl, ?hy9x9⟩) (by assumption) ?_
    case hy9x9 =>
      intro w hSw
      (try dsimp only at hSw)
      go_simp
      try with_reducible rfl
    try simp only [Act.put]
    refine wpAnyH_ready (rs := [10]) (by kernel_rfl) (by simp) ?_
    refine AllReadyH.cons rfl (fun K hK => ?_) AllReadyH.nil
    go_simp
    go_at_call 129
    refine Calls.mono (refuse_yes 1 _) ?_
    rintro e y2 ⟨rfl, hb4⟩
    exact ⟨rfl, by rw [HV.out]; rfl, hb12.drew.trans (hb4.mono hb12.size)⟩

set_option maxRecDepth 100000 in
set_option maxHeartbeats 400000 in
theorem ScFact_any (p : Sc.Prog) (va vn vr : Value) (pred : Int) (args : List Int) (v : Value) (w : World) (hP : ProgV w va vn vr p) (hF : ProgFit p) (hV : IntsV w v args) (hmax : args.length ≤ 9223372036854775807) :
    Calls Tryz.prog 87 #[progVal va vn vr, factVal pred v] w fun e w' => e = .returned (.int .i64 (Sc.fact p pred args)) ∧ Below w.heap.size w w' := by
  obtain ⟨a0, n0, rfl, _⟩ := id hP.ar
  obtain ⟨a1, n1, rfl, _⟩ := id hP.nm
  obtain ⟨a2, n2, rfl, _⟩ := id hP.rl
  obtain ⟨a3, n3, rfl, _⟩ := id hV
  have hmf : ∀ (fn : Fn) (first cap : Array Value) (w : World), (Instr.makeFunc fn first cap).run Tryz.prog w = .ok (.func fn first cap) w := fun _ _ _ _ => rfl
  have hb0 : ∀ (u : World) (o : Obj), Below u.heap.size u (u.alloc o) := fun u o => (Below.refl _ _).alloc (Nat.le_refl _) o
  have hR := RB.start w (.cells #[.slice a0 p.arity.length n0, .slice a1 p.names.length n1, .slice a2 p.rules.length n2] 26) (.cells #[.int .i64 pred, .slice a3 args.length n3] 55)
  go_enter Tryz.func87, Tryz.ntmps87
  go_wp2_with fail
  generalize (w.alloc (.cells #[.slice a0 p.arity.length n0, .slice a1 p.names.length n1, .slice a2 p.rules.length n2] 26)).alloc (.cells #[.int .i64 pred, .slice a3 args.length n3] 55) = w1 at *
  refine Calls.mono (caught_any 127 _ none 0 (Sc.fact p pred args) (fun _ => True) w1 enters127 (fun _ e => by cases e) (fun _ _ _ _ _ => trivial) ?_) ?_
  · have hR1 := hR.below (hb0 w1 (.cells #[.int .i64 0, .int .i64 0] 168))
    refine Calls.mono (fact1_any p _ _ _ w.heap.size (w.heap.size + 1) pred args _ _ hR1.b1 hR1.b2 (hP.below hR1.bel) hF (intsV_below hV hR1.bel) hmax) ?_
    rintro e w2 ⟨rfl, hb⟩
    exact ⟨rfl, grownBy_of_below hb _, trivial⟩
  · rintro e w2 ⟨rfl, hg, _⟩
    have hbb := hR.bel.trans ((below_of_grown hg).mono hR.bel.size)
    go_wp2_with fail
    simp only [fldF]
    go_wp2_with fail
    go_ret
    exact ⟨rfl, hbb⟩

end Go.Proofs.YthenjegmigeieaaGreat

/- check: all but how many ways there are. -/
namespace Go.Proofs.YthenjegmigeieaaGreat
open Go.RowKit

namespace Ru
def factsErr (p : Sc.Prog) (l : List Rl.Fc) : Int := Sc.first (fun f : Rl.Fc => Sc.fact p f.pred f.args) l
def check (p : Sc.Prog) (i : Int) (l : List Rl.Fc) : Int :=
  if Sc.check p ≠ 0 then Sc.check p else if i < 0 ∨ (p.rules.length : Int) ≤ i then 5 else if 60 < l.length then 2 else factsErr p l
theorem factsErr_drop (p : Sc.Prog) (l : List Rl.Fc) (k : Nat) (h : k < l.length) : factsErr p (l.drop k) = if Sc.fact p (Rl.factD l k).pred (Rl.factD l k).args ≠ 0 then Sc.fact p (Rl.factD l k).pred (Rl.factD l k).args else factsErr p (l.drop (k + 1)) := by
  rw [factD_drop l k h]
  unfold factsErr
  rw [Sc.first]
  by_cases h9 : Sc.fact p (Rl.factD l k).pred (Rl.factD l k).args = 0
  · simp [h9]
  · simp [h9]
end Ru
set_option maxRecDepth 100000 in
set_option maxHeartbeats 1000000 in
theorem ruCheck_any (p : Sc.Prog) (i : Int) (facts : List Rl.Fc) (va vn vr vf : Value) (w : World) (hP : ProgV w va vn vr p) (hF : ProgFit p) (hV : FactsV w vf facts) (hFl : facts.length ≤ 9223372036854775807) (hFF : ∀ f, f ∈ facts → FFit f) :
    Calls Tryz.prog 52 #[progVal va vn vr, .int .i64 i, vf] w fun e w' => e = .returned (.int .i64 (Ru.check p i facts)) ∧ Below w.heap.size w w' := by
  obtain ⟨a0, n0, rfl, _⟩ := id hP.ar
  obtain ⟨a1, n1, rfl, _⟩ := id hP.nm
  obtain ⟨a2, n2, rfl, _⟩ := id hP.rl
  obtain ⟨af, cf, rfl, _, hFA⟩ := id hV
  have bT := (Below.refl w.heap.size w).alloc (Nat.le_refl _) (.cells #[.slice a0 p.arity.length n0, .slice a1 p.names.length n1, .slice a2 p.rules.length n2] 26)
  have HBX : Hid _ := heap_alloc_new w (.cells #[.slice a0 p.arity.length n0, .slice a1 p.names.length n1, .slice a2 p.rules.length n2] 26)
  have HB : Hid _ := bT
  have HP : Hid (ProgV w (.slice a0 p.arity.length n0) (.slice a1 p.names.length n1) (.slice a2 p.rules.length n2) p) := hP
  have HF : Hid _ := hF
  have HFA : Hid _ := hFA
  have HFF : Hid _ := hFF
  have hrl := hF.rl
  clear hP hF hV hFA hFF bT
  go_enter Tryz.func52, Tryz.ntmps52
  go_upto_region 1 with fail
  generalize w.alloc (.cells #[.slice a0 p.arity.length n0, .slice a1 p.names.length n1, .slice a2 p.rules.length n2] 26) = w1 at *
  have c0 : w1.cell? ⟨w.heap.size, 0, none⟩ = some (.slice a0 p.arity.length n0) := by rw [Lib.cell_of_heap HBX.out]; rfl
  have c1 : w1.cell? ⟨w.heap.size, 1, none⟩ = some (.slice a1 p.names.length n1) := by rw [Lib.cell_of_heap HBX.out]; rfl
  have c2 : w1.cell? ⟨w.heap.size, 2, none⟩ = some (.slice a2 p.rules.length n2) := by rw [Lib.cell_of_heap HBX.out]; rfl
  go_wp2_with fail
  refine Calls.mono (ScCheck_any p _ _ _ w1 (ProgV.below HP.out HB.out) HF.out) ?_
  rintro _ w2 ⟨rfl, hb2⟩
  have HB2 : Hid (Below w.heap.size w w2) := HB.out.trans (hb2.mono HB.out.size)
  have HBX2 : Hid _ := (hb2.block _ (heap_lt HBX.out)).trans HBX.out
  clear c0 c1 c2 hb2 HB HBX
  have c2 : w2.cell? ⟨w.heap.size, 2, none⟩ = some (.slice a2 p.rules.length n2) := by rw [Lib.cell_of_heap HBX2.out]; rfl
  by_cases hc : Sc.check p = 0
  · have g1 : (Sc.check p != 0) = false := by simpa using hc
    have HCK : Hid (Ru.check p i facts = if i < 0 ∨ (p.rules.length : Int) ≤ i then 5 else if 60 < facts.length then 2 else Ru.factsErr p facts) := by show _ = _; unfold Ru.check; rw [if_neg (by simpa using hc)]
    clear hc
    by_cases hi : i < 0 ∨ (p.rules.length : Int) ≤ i
    · have HR : Hid (Ru.check p i facts = 5) := by show _ = _; rw [HCK.out, if_pos hi]
      by_cases h0 : i < 0
      · have g2 : decide (i < 0) = true := decide_eq_true h0
        clear hi h0
        go_wp2_with fail
        go_ret
        exact ⟨by rw [HR.out]; rfl, HB2.out⟩
      · have g2 : decide (i < 0) = false := decide_eq_false h0
        have g3 : decide ((p.rules.length : Int) ≤ i) = true := decide_eq_true (by omega)
        have g4 : decide (i < (p.rules.length : Int)) = false := decide_eq_false (by omega)
        clear hi h0
        go_wp2_with fail
        go_ret
        exact ⟨by rw [HR.out]; rfl, HB2.out⟩
    · have HR : Hid (Ru.check p i facts = if 60 < facts.length then 2 else Ru.factsErr p facts) := by show _ = _; rw [HCK.out, if_neg hi]
      have g2 : decide (i < 0) = false := decide_eq_false (by omega)
      have g3 : decide ((p.rules.length : Int) ≤ i) = false := decide_eq_false (by omega)
      have g4 : decide (i < (p.rules.length : Int)) = true := decide_eq_true (by omega)
      clear hi HCK
      by_cases h6 : 60 < facts.length
      · have HR2 : Hid (Ru.check p i facts = 2) := by show _ = _; rw [HR.out, if_pos h6]
        have g6 : decide (60 < facts.length) = true := decide_eq_true h6
        go_wp2_with fail
        go_ret
        exact ⟨by rw [HR2.out]; rfl, HB2.out⟩
      · have HR2 : Hid (Ru.check p i facts = Ru.factsErr p facts) := by show _ = _; rw [HR.out, if_neg h6]
        have g6 : decide (60 < facts.length) = false := decide_eq_false h6
        clear HR
        go_wp2_with fail
        go_loopw [30] (fun iv wr => ∃ k : Nat, k ≤ facts.length ∧ iv = .int .i64 k ∧ Hid (Ru.factsErr p facts = Ru.factsErr p (facts.drop k)) ∧ Hid (Below w.heap.size w wr) ∧ Hid (wr.heap[w.heap.size]? = some (.cells #[.slice a0 p.arity.length n0, .slice a1 p.names.length n1, .slice a2 p.rules.length n2] 26))) (fun iv _ => facts.length - (intOf iv).toNat)
        case atStart => exact ⟨0, Nat.zero_le _, rfl, rfl, HB2.out, HBX2.out⟩
        case round =>
          clear HB2 HBX2 c2
          obtain ⟨k, hk, rfl, HD, HB, HBX⟩ := hrel
          by_cases hlt : k < facts.length
          · obtain ⟨b, off, rfl, p0, fv, p1, hIv⟩ := facts_at HFA.out k hlt
            have q0 := cell_below HB.out p0
            have q1 := cell_below HB.out p1
            have HIV : Hid (IntsV w fv (Rl.factD facts k).args) := hIv
            obtain ⟨ag, cg, rfl, _⟩ := hIv
            have HFk : Hid (FFit (Rl.factD facts k)) := HFF.out _ (factD_mem facts k hlt)
            have HDD : Hid _ := Ru.factsErr_drop p facts k hlt
            clear p0 p1
            generalize Rl.factD facts k = f at *
            go_upto_region 11 with fail
            have bT := (Below.refl wr.heap.size wr).alloc (Nat.le_refl _) (.cells #[.int .i64 f.pred, .slice ag f.args.length cg] 55)
            have HTB : Hid _ := heap_alloc_new wr (.cells #[.int .i64 f.pred, .slice ag f.args.length cg] 55)
            have HBq : Hid _ := HB.out.trans (bT.mono HB.out.size)
            have HBXq : Hid _ := (bT.block _ (heap_lt HBX.out)).trans HBX.out
            clear q0 q1 bT HB HBX
            generalize wr.alloc (.cells #[.int .i64 f.pred, .slice ag f.args.length cg] 55) = wq at *
            generalize wr.heap.size = TB at *
            have c0 : wq.cell? ⟨w.heap.size, 0, none⟩ = some (.slice a0 p.arity.length n0) := by rw [Lib.cell_of_heap HBXq.out]; rfl
            have c1 : wq.cell? ⟨w.heap.size, 1, none⟩ = some (.slice a1 p.names.length n1) := by rw [Lib.cell_of_heap HBXq.out]; rfl
            have c2 : wq.cell? ⟨w.heap.size, 2, none⟩ = some (.slice a2 p.rules.length n2) := by rw [Lib.cell_of_heap HBXq.out]; rfl
            have f0 : wq.cell? ⟨TB, 0, none⟩ = some (.int .i64 f.pred) := by rw [Lib.cell_of_heap HTB.out]; rfl
            have f1 : wq.cell? ⟨TB, 1, none⟩ = some (.slice ag f.args.length cg) := by rw [Lib.cell_of_heap HTB.out]; rfl
            go_wp2_with fail
            refine Calls.mono (ScFact_any p _ _ _ f.pred f.args _ wq (ProgV.below HP.out HBq.out) HF.out (intsV_below HIV.out HBq.out) HFk.out) ?_
            rintro _ w3 ⟨rfl, hb3⟩
            have HB3 : Hid _ := HBq.out.trans (hb3.mono HBq.out.size)
            have HBX3 : Hid _ := (hb3.block _ (heap_lt HBXq.out)).trans HBXq.out
            clear c0 c1 c2 f0 f1 hb3 HBq HBXq HTB
            by_cases he : Sc.fact p f.pred f.args = 0
            · have ge : (Sc.fact p f.pred f.args != 0) = false := by simpa using he
              have HDN : Hid (Ru.factsErr p facts = Ru.factsErr p (facts.drop (k + 1))) := by show _ = _; rw [HD.out, HDD.out, if_neg (by simpa using he)]
              clear he HD HDD
              go_wp2_with fail
              go_roundw
              case rel => exact ⟨k + 1, hlt, by go_num, HDN.out, HB3.out, HBX3.out⟩
              case measure => simp [intOf]; omega
            · have ge : (Sc.fact p f.pred f.args != 0) = true := by simpa using he
              have HDN : Hid (Ru.check p i facts = Sc.fact p f.pred f.args) := by show _ = _; rw [HR2.out, HD.out, HDD.out, if_pos (by simpa using he)]
              clear he HD HDD
              go_wp2_with fail
              go_ret
              exact ⟨by rw [HDN.out]; rfl, HB3.out⟩
          · have hdd : decide (k < facts.length) = false := decide_eq_false hlt
            have HDN : Hid (Ru.check p i facts = 0) := by show _ = _; rw [HR2.out, HD.out, List.drop_of_length_le (by omega)]; rfl
            go_wp2_with fail
            go_ret
            exact ⟨by rw [HDN.out]; rfl, HB.out⟩
  · have g1 : (Sc.check p != 0) = true := by simpa using hc
    have HCK : Hid (Ru.check p i facts = Sc.check p) := by show _ = _; unfold Ru.check; rw [if_pos (by simpa using hc)]
    clear hc
    go_wp2_with fail
    go_ret
    exact ⟨by rw [HCK.out]; rfl, HB2.out⟩
end Go.Proofs.YthenjegmigeieaaGreat

/- The library's sort, of rows of numbers in a row of one's own. -/
namespace Go.Proofs.YthenjegmigeieaaGreat
open Go.Shelf Go.RowKit Go.Lib Go.Sort

abbrev Nv := List Int × Value
/-- Numbers that can be read wherever all but one block stands. -/
def NvOk (w : World) (g : Nat) (x : Nv) : Prop := (∀ w' : World, (∀ k, k < w.heap.size → ¬ k = g → w'.heap[k]? = w.heap[k]?) → IntsV w' x.2 x.1) ∧ x.1.length ≤ 9223372036854775807
abbrev NvS (w : World) (g : Nat) := { x : Nv // NvOk w g x }
theorem nvOk_nil (w : World) (g : Nat) : NvOk w g ([], .slice none 0 0) := ⟨fun _ _ => ⟨none, 0, rfl, .inl rfl⟩, by show ([] : List Int).length ≤ _; decide⟩
theorem nv_lift {w : World} {g : Nat} : ∀ {q : List Nv}, (∀ p, p ∈ q → NvOk w g p) → ∃ Q : List (NvS w g), Q.map (·.1) = q := by
  intro q
  induction q with
  | nil => intro _; exact ⟨[], rfl⟩
  | cons a r ih =>
    intro h
    obtain ⟨Q, hQ⟩ := ih (fun p hp => h p (by simp [hp]))
    exact ⟨⟨a, h a (by simp)⟩ :: Q, by simp [hQ]⟩
abbrev nvInh (w : World) (g : Nat) : Inhabited (NvS w g) := ⟨⟨_, nvOk_nil w g⟩⟩
def nvEnc {w : World} {g : Nat} (x : NvS w g) : Value := x.1.2
def nvCmp {w : World} {g : Nat} (x y : NvS w g) : Int := Rl.cmpL x.1.1 y.1.1
theorem ord0 (a b : List Int) : Rl.ord ⟨0, a⟩ ⟨0, b⟩ = Rl.cmpL a b := by unfold Rl.ord; rw [if_pos (Rl.cmpI_zero.mpr rfl)]
theorem nv_swo (w : World) (g : Nat) : SWO (ltOf (nvCmp (w := w) (g := g))) where
  irrefl x := by unfold ltOf nvCmp; rw [← ord0, Rl.ord_self]; decide
  trans x y z h1 h2 := by
    unfold ltOf nvCmp at *
    simp only [decide_eq_true_eq, ← ord0] at *
    exact Rl.ord_trans h1 h2
  ntrans x y z h1 h2 := by
    unfold ltOf nvCmp at *
    simp only [decide_eq_false_iff_not, ← ord0] at *
    intro h3
    rcases Rl.lt_or ⟨0, x.1.1⟩ ⟨0, y.1.1⟩ with h4 | h4 | h4
    · exact h1 h4
    · rw [h4] at h3; exact h2 h3
    · exact h2 (Rl.ord_trans h4 h3)
theorem nv_one {w : World} {g : Nat} : OneCell (nvEnc (w := w) (g := g)) := by
  intro x
  obtain ⟨⟨a, u⟩, h⟩ := x
  obtain ⟨ao, cap, hu, _⟩ := h.1 w (fun _ _ _ => rfl)
  have hu : u = .slice ao a.length cap := hu
  subst hu
  rfl
theorem sortWorld_block {α : Type} [Inhabited α] (enc : α → Value) (w : World) (g m : Nat) (d : Array α) (os : Array Obj) (i : Nat) (hi : i < w.heap.size) (hne : ¬ i = g) : (sortWorld enc w g 0 m d os).heap[i]? = w.heap[i]? := by
  unfold sortWorld putRow mapBlock Sort.ahead grow
  show ((w.heap.modify g _) ++ os)[i]? = _
  rw [Array.getElem?_append_left (by simpa using hi), Array.getElem?_modify, if_neg (fun e => hne e.symm)]
theorem sortWorld_size {α : Type} [Inhabited α] (enc : α → Value) (w : World) (g m : Nat) (d : Array α) (os : Array Obj) : w.heap.size ≤ (sortWorld enc w g 0 m d os).heap.size := by
  unfold sortWorld putRow mapBlock Sort.ahead grow
  show _ ≤ ((w.heap.modify g _) ++ os).size
  simp
theorem nv_lays (w : World) (g size : Nat) : @CmpLays1 (NvS w g) (nvInh w g) Tryz.prog 56 #[] nvEnc nvCmp g 0 size w := by
  letI : Inhabited (NvS w g) := nvInh w g
  intro m os dk _ x y
  have hl : ∀ k, k < w.heap.size → ¬ k = g → (sortWorld (nvEnc (w := w) (g := g)) w g 0 m dk os).heap[k]? = w.heap[k]? := fun k hk hne => sortWorld_block _ _ _ _ _ _ k hk hne
  refine Calls.mono (cmpInts_any x.1.1 y.1.1 x.1.2 y.1.2 _ (x.2.1 _ hl) (y.2.1 _ hl) x.2.2) ?_
  rintro e w' ⟨rfl, rfl⟩
  exact ⟨rfl, 0, #[], by simp [grow, World.drewN]⟩
theorem sortI_any (w : World) (B g cap : Nat) (q : List Nv) (hown : w.ownsRow B 22 1 (.slice (some ⟨g, 0, none⟩) q.length cap) q.length (q.map (·.2))) (hq : ∀ p, p ∈ q → NvOk w g p) (hn : q.length < 4611686018427387904) :
    Calls Tryz.prog 55 #[.slice (some ⟨g, 0, none⟩) q.length cap, .func (.func 56) #[] #[]] w fun e w' => e = .returned (.tuple #[]) ∧ ∃ q' : List Nv, q'.Perm q ∧ (q'.map (·.1)).Pairwise (fun a b => ¬ Rl.cmpL b a < 0) ∧ w'.ownsRow B 22 1 (.slice (some ⟨g, 0, none⟩) q'.length cap) q'.length (q'.map (·.2)) ∧ w.grownBy w' (some g) := by
  obtain ⟨Q, rfl⟩ := nv_lift hq
  letI : Inhabited (NvS w g) := nvInh w g
  have eg : ∀ args w, (callFunc 56 args).run Tryz.prog w = .ok (.enter 56 args) w := enters_of Tryz.func56 (by kernel_rfl) rfl
  have hsz : Q.toArray.size = Q.length := by simp
  have hlt : g < w.heap.size := (hown.lt g rfl).2
  rw [List.length_map] at hown
  have hH : Holds (nvEnc (w := w) (g := g)) w g 0 Q.toArray := by
    intro j hj
    have hj2 : j < Q.length := by simpa using hj
    refine ⟨?_, by rw [Nat.zero_add]; exact World.ownsRow.frozenAt hown j⟩
    rw [Nat.zero_add, World.ownsRow.cellAt hown j (by omega), List.getElem?_map, List.getElem?_map, List.getElem?_eq_getElem hj2]
    have h2 : (Q.toArray)[j]! = Q[j] := by simp [hj2]
    rw [h2]
    rfl
  have hcon := Any.slices_SortFunc Tryz.sortI nvEnc nv_one nvCmp (nv_swo w g) 56 #[] g 0 cap Q.toArray w eg (nv_lays w g _) hH hlt (by rw [hsz]; simpa using hn)
  rw [hsz] at hcon
  change Calls Tryz.prog 55 _ _ _ at hcon
  rw [List.length_map]
  refine hcon.mono ?_
  rintro e w' ⟨rfl, d', n, os, hp, hs, rfl⟩
  obtain ⟨p1, p2, p3⟩ := hp
  have hds : d'.size = Q.length := by rw [p1]; simp
  have e1 : d'.extract 0 Q.length = d' := by rw [← hds]; simp
  have e2 : Q.toArray.extract 0 Q.length = Q.toArray := by simp
  rw [e1, e2] at p3
  refine ⟨rfl, d'.toList.map (·.1), p3.map _, ?_, ?_, rfl, rfl, rfl, sortWorld_size _ _ _ _ _ _, fun k hk hne => sortWorld_block _ _ _ _ _ _ k hk (fun e => hne (by rw [e]))⟩
  · rw [List.pairwise_map, List.pairwise_map, List.pairwise_iff_getElem]
    intro i j hi hj hij
    have hi2 : i < d'.size := by simpa using hi
    have hj2 : j < d'.size := by simpa using hj
    have := hs i j (Nat.zero_le _) hij (by omega)
    rw [getElem!_pos d' j hj2, getElem!_pos d' i hi2] at this
    unfold ltOf nvCmp at this
    simp only [decide_eq_false_iff_not] at this
    simpa using this
  · have hl : (d'.toList.map (·.1)).length = Q.length := by rw [List.length_map, Array.length_toList, hds]
    obtain ⟨h1, h2⟩ := hown
    rcases h2 with ⟨h2, _⟩ | ⟨g', cap', cur, hv, hb, hh, hc1, hc2, hc3, hc4⟩
    · cases h2
    · injection hv with e1 _ e3
      injection e1 with e1
      injection e1 with e1
      subst e1 e3
      refine ⟨by rw [List.length_map, Nat.mul_one], .inr ⟨g, cap, putCells nvEnc 0 d' cur, rfl, hb, ?_, by rw [hl]; exact hc1, hc2, by simpa [putCells] using hc3, ?_⟩⟩
      · unfold sortWorld putRow mapBlock Sort.ahead grow
        show ((w.heap.modify g _) ++ os)[g]? = _
        rw [Array.getElem?_append_left (by simpa using hlt), Array.getElem?_modify, if_pos rfl, hh]
        rfl
      · apply List.ext_getElem?
        intro t
        rw [List.getElem?_take, Array.getElem?_toList, hl, Nat.mul_one]
        by_cases ht : t < Q.length
        · rw [if_pos ht]
          have hcs : t < cur.size := by rw [hc3]; omega
          have h4 : t < d'.size := by omega
          unfold putCells
          rw [Array.getElem?_mapIdx, Array.getElem?_eq_getElem hcs, Option.map_some, if_pos (by omega), Nat.sub_zero, getElem!_pos d' _ h4, List.getElem?_map, List.getElem?_map, Array.getElem?_toList, Array.getElem?_eq_getElem h4]
          rfl
        · rw [if_neg ht, List.getElem?_eq_none]
          rw [List.length_map, hl]
          omega
theorem sortI_none (p : Option Addr) (cap : Nat) (fv : Value) (w : World) : Calls Tryz.prog 55 #[.slice p 0 cap, fv] w fun e w' => e = .returned (.tuple #[]) ∧ w' = w :=
  AnyF.slices_SortFunc_none (P := Tryz.prog) (ρ := Tryz.sortI_ren) { Tryz.sortI with } p cap fv w
end Go.Proofs.YthenjegmigeieaaGreat

/- The library's BinarySearchFunc, of facts; package relation: Minus. -/
namespace Go.Proofs.YthenjegmigeieaaGreat
open Go.RowKit

theorem factsAt_below8 {w w' : World} {ao : Option Addr} {l : List Rl.Fc} (h : FactsAt w ao l) (hb : Below w.heap.size w w') : FactsAt w' ao l := by
  rcases h with h | ⟨b, off, rfl, h⟩
  · exact .inl h
  · exact .inr ⟨b, off, rfl, fun i hi => factIn_below (h i hi) hb⟩
theorem up_at {l : List Rl.Fc} (h : Rl.Up l) {a b : Nat} (hab : a < b) (hb : b < l.length) : Rl.ord (Rl.factD l a) (Rl.factD l b) < 0 := by
  have h1 := List.pairwise_iff_getElem.mp h a b (by omega) hb hab
  have ea : Rl.factD l a = l[a]'(by omega) := by simp [Rl.factD, show a < l.length by omega]
  have eb : Rl.factD l b = l[b]'hb := by simp [Rl.factD, hb]
  rw [ea, eb]
  exact h1
theorem has_at {l : List Rl.Fc} {f : Rl.Fc} {i : Nat} (h : Rl.Up l) (hlo : ∀ a, a < i → Rl.ord (Rl.factD l a) f < 0) (hhi : ∀ a, i ≤ a → a < l.length → 0 ≤ Rl.ord (Rl.factD l a) f) : Rl.has l f = (decide (i < l.length) && Rl.ord (Rl.factD l i) f == 0) := by
  rw [Bool.eq_iff_iff, Rl.has_iff, Bool.and_eq_true, decide_eq_true_eq, beq_iff_eq, Rl.ord_zero]
  constructor
  · intro hm
    obtain ⟨a, ha, he⟩ := List.getElem_of_mem hm
    have ea : Rl.factD l a = f := by simp [Rl.factD, ha, he]
    rcases Nat.lt_trichotomy a i with h1 | h1 | h1
    · have h2 := hlo a h1
      rw [ea, Rl.ord_self] at h2
      omega
    · subst h1
      exact ⟨ha, ea⟩
    · have h2 := up_at h h1 ha
      rw [ea] at h2
      have h3 := hhi i (Nat.le_refl _) (by omega)
      omega
  · rintro ⟨hi, he⟩
    rw [← he]
    exact factD_mem l i hi
set_option maxRecDepth 100000 in
set_option maxHeartbeats 2000000 in
theorem bsearch_any (l : List Rl.Fc) (f : Rl.Fc) (ao fa : Option Addr) (cap fc : Nat) (w : World) (hup : Rl.Up l) (hA : FactsAt w ao l) (hI : IntsV w (.slice fa f.args.length fc) f.args) (hl : l.length ≤ 4194304) (hf : ∀ f, f ∈ l → FFit f) (hF : FFit f) :
    Calls Tryz.prog 141 #[.slice ao l.length cap, fcVal f.pred (.slice fa f.args.length fc), .func (.func 71) #[] #[]] w fun e w' => ∃ i : Int, e = .returned (.tuple #[.int .i64 i, .bool (Rl.has l f)]) ∧ Below w.heap.size w w' := by
  have HA : Hid (FactsAt w ao l) := hA
  have HI : Hid (IntsV w (.slice fa f.args.length fc) f.args ∧ FFit f ∧ ∀ f, f ∈ l → FFit f) := ⟨hI, hF, hf⟩
  have HUP : Hid (Rl.Up l) := hup
  clear hA hI hf hF hup
  go_enter Tryz.func141, Tryz.ntmps141
  have hba : Below w.heap.size w (w.alloc (.cells #[.int .i64 f.pred, .slice fa f.args.length fc] 55)) := (Below.refl _ _).alloc (Nat.le_refl _) _
  have hFB := rl_new w (.cells #[.int .i64 f.pred, .slice fa f.args.length fc] 55)
  go_wp2_with fail
  generalize hwa : w.alloc (.cells #[.int .i64 f.pred, .slice fa f.args.length fc] 55) = wa at *
  have e0 : wa.cell? ⟨w.heap.size, 0, none⟩ = some (.int .i64 f.pred) := by rw [Lib.cell_of_heap hFB]; rfl
  have e1 : wa.cell? ⟨w.heap.size, 1, none⟩ = some (.slice fa f.args.length fc) := by rw [Lib.cell_of_heap hFB]; rfl
  have HE : Hid (wa.cell? ⟨w.heap.size, 0, none⟩ = some (.int .i64 f.pred) ∧ wa.cell? ⟨w.heap.size, 1, none⟩ = some (.slice fa f.args.length fc)) := ⟨e0, e1⟩
  clear hwa hFB e0 e1
  go_loopw [9, 10] (fun iv jv wr => ∃ i j : Nat, i ≤ j ∧ j ≤ l.length ∧ iv = .int .i64 i ∧ jv = .int .i64 j ∧ (∀ a, a < i → Rl.ord (Rl.factD l a) f < 0) ∧ (∀ a, j ≤ a → a < l.length → 0 ≤ Rl.ord (Rl.factD l a) f) ∧ Below wa.heap.size wa wr) (fun iv jv _ => (intOf jv).toNat - (intOf iv).toNat)
  case atStart => exact ⟨0, l.length, Nat.zero_le _, Nat.le_refl _, rfl, rfl, fun a h => absurd h (Nat.not_lt_zero _), fun a h1 h2 => absurd h2 (by omega), Below.refl _ _⟩
  case round =>
    obtain ⟨wo, hwo⟩ : ∃ wo, wo = wr := ⟨_, rfl⟩
    subst hwo
    obtain ⟨i, j, hij, hj, rfl, rfl, hlo, hhi, hb⟩ := hrel
    have HLO : Hid _ := hlo
    have HHI : Hid _ := hhi
    clear hlo hhi
    by_cases hlt : i < j
    · go_upto_region 5 with fail
      obtain ⟨h, hhe⟩ : ∃ h : Nat, h = (i + j) / 2 := ⟨_, rfl⟩
      have hh : ((i : Int) + (j : Int)) / 2 = (h : Int) := by omega
      have hih : i ≤ h := by omega
      have hhj : h < j := by omega
      have hhl : h < l.length := by omega
      obtain ⟨b, off, rfl, p0, fv, p1, hIv⟩ := facts_at HA.out h hhl
      have HG : Hid (FFit (Rl.factD l h)) := HI.out.2.2 _ (factD_mem l h hhl)
      have hbo := hba.trans (hb.mono hba.size)
      obtain ⟨ga, gc, rfl, _⟩ := id hIv
      have c0 := cell_below hbo p0
      have c1 := cell_below hbo p1
      have d0 := cell_below hb HE.out.1
      have d1 := cell_below hb HE.out.2
      have HN : Hid (∀ yy, yy.cell? ⟨b, off + h * 2, none⟩ = some (.int .i64 (Rl.factD l h).pred) ∧ yy.cell? ⟨b, off + h * 2 + 1, none⟩ = some (.slice ga (Rl.factD l h).args.length gc) ∧ yy.cell? ⟨w.heap.size, 0, none⟩ = some (.int .i64 f.pred) ∧ yy.cell? ⟨w.heap.size, 1, none⟩ = some (.slice fa f.args.length fc) ∧ Below wo.heap.size wo yy → Calls Tryz.prog 71 #[fcVal (Rl.factD l h).pred (.slice ga (Rl.factD l h).args.length gc), fcVal f.pred (.slice fa f.args.length fc)] yy fun e w' => e = .returned (.int .i64 (Rl.ord (Rl.factD l h) f)) ∧ Below wo.heap.size wo w' ∧ w'.cell? ⟨b, off + h * 2, none⟩ = some (.int .i64 (Rl.factD l h).pred) ∧ w'.cell? ⟨b, off + h * 2 + 1, none⟩ = some (.slice ga (Rl.factD l h).args.length gc) ∧ w'.cell? ⟨w.heap.size, 0, none⟩ = some (.int .i64 f.pred) ∧ w'.cell? ⟨w.heap.size, 1, none⟩ = some (.slice fa f.args.length fc)) := by
        intro yy hyy
        obtain ⟨y0, y1, y2, y3, y4⟩ := hyy
        have hby := hbo.trans (y4.mono hbo.size)
        refine Calls.mono (Order_any _ f _ _ yy (intsV_below hIv hby) (intsV_below HI.out.1 hby) HG.out HI.out.2.1) ?_
        rintro e w' ⟨rfl, hg⟩
        have hb9 := hg.below
        exact ⟨rfl, y4.trans (hb9.mono y4.size), cell_below hb9 y0, cell_below hb9 y1, cell_below hb9 y2, cell_below hb9 y3⟩
      have HGA : ∀ b o, Below wo.heap.size wo b → Below wo.heap.size wo (b.alloc o) := fun _ o h => h.alloc h.size o
      have HGD : ∀ b, Below wo.heap.size wo b → Below wo.heap.size wo b.drew := fun _ h => ⟨h.os, h.tape, h.output, h.size, h.block⟩
      have HGR : Below wo.heap.size wo wo := Below.refl _ _
      obtain ⟨g, hg⟩ : ∃ g, g = Rl.factD l h := ⟨_, rfl⟩
      have HGE : Hid (g = Rl.factD l h) := hg
      rw [← hg] at HN c0 c1
      clear hg p0 p1 hIv
      rw [hh]
      clear hh hhe
      go_region_held3 (fun yy => yy.cell? ⟨b, off + h * 2, none⟩ = some (.int .i64 g.pred) ∧ yy.cell? ⟨b, off + h * 2 + 1, none⟩ = some (.slice ga g.args.length gc) ∧ yy.cell? ⟨w.heap.size, 0, none⟩ = some (.int .i64 f.pred) ∧ yy.cell? ⟨w.heap.size, 1, none⟩ = some (.slice fa f.args.length fc) ∧ Below wo.heap.size wo yy) (go_keep) (
        (go_at_call 71; refine Calls.mono (HN.out _ ?_) ?_; (simp [*]); rintro e w2 ⟨rfl, hb2, hz2, hz3, hz4, hz5⟩))
      have hbz := hb.trans (hb2.mono hb.size)
      clear HGA HGD HGR HN hz2 hz3 hz4 hz5 c0 c1 d0 d1 hb hbo hb2
      by_cases ho : Rl.ord g f < 0
      · have HL2 : Hid (∀ a, a < h + 1 → Rl.ord (Rl.factD l a) f < 0) := by
          intro a ha
          rw [HGE.out] at ho
          rcases Nat.lt_or_ge a h with h1 | h1
          · exact Rl.ord_trans (up_at HUP.out h1 hhl) ho
          · rw [show a = h by omega]
            exact ho
        go_wp2_with fail
        go_roundw
        case rel => exact ⟨h + 1, j, by omega, hj, by go_num, rfl, HL2.out, HHI.out, hbz⟩
        case measure => simp [intOf]; omega
      · have HH2 : Hid (∀ a, h ≤ a → a < l.length → 0 ≤ Rl.ord (Rl.factD l a) f) := by
          intro a ha1 ha2
          rw [HGE.out] at ho
          rcases Nat.lt_or_ge h a with h1 | h1
          · rcases (show Rl.ord (Rl.factD l a) f < 0 ∨ 0 ≤ Rl.ord (Rl.factD l a) f by omega) with h2 | h2
            · exact absurd (Rl.ord_trans (up_at HUP.out h1 ha2) h2) ho
            · exact h2
          · rw [show a = h by omega]
            omega
        go_wp2_with fail
        go_roundw
        case rel => exact ⟨i, h, hih, by omega, rfl, rfl, HLO.out, HH2.out, hbz⟩
        case measure => simp [intOf]; omega
    · have hji : j = i := by omega
      subst hji
      have HR : Hid _ := has_at HUP.out HLO.out HHI.out
      go_upto_region 8 with fail
      by_cases hjl : j < l.length
      · rw [decide_eq_true hjl, Bool.true_and] at HR
        obtain ⟨b, off, rfl, p0, fv, p1, hIv⟩ := facts_at HA.out j hjl
        have HG : Hid (FFit (Rl.factD l j)) := HI.out.2.2 _ (factD_mem l j hjl)
        have hbo := hba.trans (hb.mono hba.size)
        obtain ⟨ga, gc, rfl, _⟩ := id hIv
        have c0 := cell_below hbo p0
        have c1 := cell_below hbo p1
        have d0 := cell_below hb HE.out.1
        have d1 := cell_below hb HE.out.2
        have HN : Hid (∀ yy, yy.cell? ⟨b, off + j * 2, none⟩ = some (.int .i64 (Rl.factD l j).pred) ∧ yy.cell? ⟨b, off + j * 2 + 1, none⟩ = some (.slice ga (Rl.factD l j).args.length gc) ∧ yy.cell? ⟨w.heap.size, 0, none⟩ = some (.int .i64 f.pred) ∧ yy.cell? ⟨w.heap.size, 1, none⟩ = some (.slice fa f.args.length fc) ∧ Below wo.heap.size wo yy → Calls Tryz.prog 71 #[fcVal (Rl.factD l j).pred (.slice ga (Rl.factD l j).args.length gc), fcVal f.pred (.slice fa f.args.length fc)] yy fun e w' => e = .returned (.int .i64 (Rl.ord (Rl.factD l j) f)) ∧ Below wo.heap.size wo w' ∧ w'.cell? ⟨b, off + j * 2, none⟩ = some (.int .i64 (Rl.factD l j).pred) ∧ w'.cell? ⟨b, off + j * 2 + 1, none⟩ = some (.slice ga (Rl.factD l j).args.length gc) ∧ w'.cell? ⟨w.heap.size, 0, none⟩ = some (.int .i64 f.pred) ∧ w'.cell? ⟨w.heap.size, 1, none⟩ = some (.slice fa f.args.length fc)) := by
          intro yy hyy
          obtain ⟨y0, y1, y2, y3, y4⟩ := hyy
          have hby := hbo.trans (y4.mono hbo.size)
          refine Calls.mono (Order_any _ f _ _ yy (intsV_below hIv hby) (intsV_below HI.out.1 hby) HG.out HI.out.2.1) ?_
          rintro e w' ⟨rfl, hg⟩
          have hb9 := hg.below
          exact ⟨rfl, y4.trans (hb9.mono y4.size), cell_below hb9 y0, cell_below hb9 y1, cell_below hb9 y2, cell_below hb9 y3⟩
        have HGA : ∀ b o, Below wo.heap.size wo b → Below wo.heap.size wo (b.alloc o) := fun _ o h => h.alloc h.size o
        have HGD : ∀ b, Below wo.heap.size wo b → Below wo.heap.size wo b.drew := fun _ h => ⟨h.os, h.tape, h.output, h.size, h.block⟩
        have HGR : Below wo.heap.size wo wo := Below.refl _ _
        obtain ⟨g, hg⟩ : ∃ g, g = Rl.factD l j := ⟨_, rfl⟩
        have HGE : Hid (g = Rl.factD l j) := hg
        rw [← hg] at HN c0 c1
        clear hg p0 p1 hIv
        rw [← HGE.out] at HR
        go_region_held3 (fun yy => yy.cell? ⟨b, off + j * 2, none⟩ = some (.int .i64 g.pred) ∧ yy.cell? ⟨b, off + j * 2 + 1, none⟩ = some (.slice ga g.args.length gc) ∧ yy.cell? ⟨w.heap.size, 0, none⟩ = some (.int .i64 f.pred) ∧ yy.cell? ⟨w.heap.size, 1, none⟩ = some (.slice fa f.args.length fc) ∧ Below wo.heap.size wo yy) (go_keep) (
          (go_at_call 71; refine Calls.mono (HN.out _ ?_) ?_; (simp [*]); rintro e w2 ⟨rfl, hb2, hz2, hz3, hz4, hz5⟩))
        have hbz := hba.trans ((hb.trans (hb2.mono hb.size)).mono hba.size)
        clear HGA HGD HGR HN hz2 hz3 hz4 hz5 c0 c1 d0 d1 hb hbo hb2
        go_wp2_with fail
        go_ret2
        exact ⟨j, by rw [HR.out]; rfl, hbz⟩
      · have hjd : decide (j < l.length) = false := decide_eq_false hjl
        rw [hjd, Bool.false_and] at HR
        have hbz : Below w.heap.size w wo.drew := by
          have h9 := hba.trans (hb.mono hba.size)
          exact ⟨h9.os, h9.tape, h9.output, h9.size, h9.block⟩
        go_region
        go_wp2_with fail
        go_ret2
        exact ⟨j, by rw [HR.out]; rfl, hbz⟩

set_option maxRecDepth 100000 in
set_option maxHeartbeats 1000000 in
theorem minus1_any (w : World) (B : Nat) (m : List Rl.Fc) (bo : Option Addr) (cbp : Nat) (h0 : w.cell? ⟨B, 0, none⟩ = some (.slice bo (Rl.set m).length cbp)) (hB : FactsAt w bo (Rl.set m)) (hl : (Rl.set m).length ≤ 4194304) (hf : ∀ f, f ∈ Rl.set m → FFit f) :
    Keeps1 140 #[.pointer (some ⟨B, 0, none⟩)] w (fun x => !Rl.has m x) := by
  intro v g ao cap hv hIg hFg
  show Calls Tryz.prog 140 #[fcVal g.pred (.slice ao g.args.length cap), .pointer (some ⟨B, 0, none⟩)] v _
  have hba : Below v.heap.size v (v.alloc (.cells #[.int .i64 g.pred, .slice ao g.args.length cap] 55)) := (Below.refl _ _).alloc (Nat.le_refl _) _
  have c0 := cell_below hba (cell_below hv h0)
  have c1 := cell_below hv h0
  have hGa := rl_new v (.cells #[.int .i64 g.pred, .slice ao g.args.length cap] 55)
  have d0 : (v.alloc (.cells #[.int .i64 g.pred, .slice ao g.args.length cap] 55)).cell? ⟨v.heap.size, 0, none⟩ = some (.int .i64 g.pred) := by rw [Lib.cell_of_heap hGa]; rfl
  have d1 : (v.alloc (.cells #[.int .i64 g.pred, .slice ao g.args.length cap] 55)).cell? ⟨v.heap.size, 1, none⟩ = some (.slice ao g.args.length cap) := by rw [Lib.cell_of_heap hGa]; rfl
  have HH : Hid (Rl.has (Rl.set m) g = Rl.has m g) := by
    show _ = _
    rw [Bool.eq_iff_iff, Rl.has_iff, Rl.has_iff, Rl.mem_set]
  have HC : Hid (∀ yy, Below v.heap.size v yy → Calls Tryz.prog 141 #[.slice bo (Rl.set m).length cbp, fcVal g.pred (.slice ao g.args.length cap), .func (.func 71) #[] #[]] yy fun e w' => ∃ i : Int, e = .returned (.tuple #[.int .i64 i, .bool (Rl.has m g)]) ∧ Below v.heap.size v w') := by
    intro yy hy
    refine Calls.mono (bsearch_any (Rl.set m) g bo ao cbp cap yy (Rl.set_isSet m).1 (factsAt_below8 (factsAt_below8 hB hv) hy) (intsV_below hIg hy) hl hf hFg) ?_
    rintro e w' ⟨i, rfl, hb⟩
    exact ⟨i, by rw [HH.out], hy.trans (hb.mono hy.size)⟩
  have hmf : ∀ (fn : Fn) (first cap : Array Value) (w : World), (Instr.makeFunc fn first cap).run Tryz.prog w = .ok (.func fn first cap) w := fun _ _ _ _ => rfl
  clear hB hf hGa h0 hIg HH
  generalize (Rl.set m).length = n at *
  go_enter Tryz.func140, Tryz.ntmps140
  go_wp2_with fail
  refine Calls.mono (HC.out _ hba) ?_
  rintro e w1 ⟨i, rfl, hb1⟩
  clear HC hba c0 c1 d0 d1 hv
  go_wp2_with fail
  go_ret
  exact ⟨rfl, hb1⟩
theorem rl_enters54 : ∀ args w, (callFunc 140 args).run Tryz.prog w = .ok (.enter 140 args) w := enters_of Tryz.func140 (by kernel_rfl) rfl
theorem set_length (l : List Rl.Fc) : (Rl.set l).length ≤ l.length := by
  have ins_len : ∀ (f : Rl.Fc) (s : List Rl.Fc), (Rl.ins f s).length ≤ s.length + 1 := by
    intro f s
    induction s with
    | nil => simp [Rl.ins]
    | cons a s ih =>
      unfold Rl.ins
      split
      · simp
      · split
        · simp
        · simp only [List.length_cons]
          omega
  induction l with
  | nil => exact Nat.le_refl _
  | cons a l ih =>
    have h1 := ins_len a (Rl.set l)
    show (Rl.ins a (Rl.set l)).length ≤ l.length + 1
    omega

set_option maxRecDepth 100000 in
set_option maxHeartbeats 1000000 in
theorem Minus_any (l m : List Rl.Fc) (v u : Value) (w : World) (hV : FactsV w v l) (hU : FactsV w u m) (hl : l.length ≤ 1048576) (hm : m.length ≤ 1048576) (hf : ∀ f, f ∈ l → f.args.length ≤ 1048576) (hg : ∀ f, f ∈ m → f.args.length ≤ 1048576) :
    Calls Tryz.prog 96 #[v, u] w fun e w' => ∃ v', e = .returned v' ∧ FactsV w' v' (Rl.minus l m) ∧ Below w.heap.size w w' := by
  have hmf : ∀ (fn : Fn) (first cap : Array Value) (w : World), (Instr.makeFunc fn first cap).run Tryz.prog w = .ok (.func fn first cap) w := fun _ _ _ _ => rfl
  have HS : Hid _ := Set_any m u w hU (by omega) hg
  have HF : Hid ((∀ f, f ∈ l → f.args.length ≤ 1048576) ∧ (∀ f, f ∈ Rl.set m → FFit f) ∧ (Rl.set m).length ≤ 4194304) := ⟨hf, fun f h => Nat.le_trans (hg f (Rl.mem_set.mp h)) (by decide), by have := set_length m; omega⟩
  have HV : Hid (FactsV w v l) := hV
  obtain ⟨ao, cap, rfl, _, _⟩ := id hV
  obtain ⟨bo, cbp, rfl, _, _⟩ := id hU
  clear hV hU hf hg
  go_enter Tryz.func96, Tryz.ntmps96
  go_wp2_with fail
  refine Calls.mono HS.out ?_
  rintro e w1 ⟨v1, rfl, hP, hb1⟩
  obtain ⟨a1, c1, rfl, _, hA1⟩ := hP.toV
  have HA1 : Hid (FactsAt w1 a1 (Rl.set m)) := hA1
  clear hP hA1 HS
  generalize hn : (Rl.set m).length = n at *
  have HN : Hid ((Rl.set m).length = n) := hn
  clear hn
  go_wp2_with fail
  have hb2 : Below w1.heap.size w1 (w1.alloc (Obj.cells #[Value.slice a1 n c1] 27)) := (Below.refl _ _).alloc (Nat.le_refl _) _
  have hb3 := hb1.trans (hb2.mono hb1.size)
  have e0 : (w1.alloc (Obj.cells #[Value.slice a1 n c1] 27)).cell? ⟨w1.heap.size, 0, none⟩ = some (.slice a1 (Rl.set m).length c1) := by rw [Lib.cell_of_heap (rl_new w1 _), HN.out]; rfl
  refine Calls.mono (keep_any l _ _ 140 _ (fun x => !Rl.has m x) (factsV_below HV.out hb3) (by omega) HF.out.1 rl_enters54 (minus1_any _ w1.heap.size m a1 c1 e0 (factsAt_below8 HA1.out hb2) (by rw [HN.out]; exact HF.out.2.2) HF.out.2.1)) ?_
  rintro e w3 ⟨v3, rfl, hS, hbk⟩
  have HS : Hid (FactsV w3 v3 (Rl.minus l m)) := hS.toV
  obtain ⟨q3, _, hown3, _⟩ := id hS
  obtain ⟨a3, c3, rfl⟩ := own_slice hown3
  have hb4 := hb3.trans (hbk.mono hb3.size)
  clear hown3 hS hbk hb1 hb2 hb3 e0 HV HF HA1 HN
  go_wp2_with fail
  go_ret
  exact ⟨_, rfl, HS.out, hb4⟩

end Go.Proofs.YthenjegmigeieaaGreat

/- Ways: the ways of a rule, in order. -/
namespace Go.Proofs.YthenjegmigeieaaGreat
open Go.RowKit

namespace Ru
def rule (p : Sc.Prog) (i : Int) : Sc.Rule := Sc.ruleD p.rules i.toNat
def waysErr (p : Sc.Prog) (i : Int) (l : List Rl.Fc) : Int := if check p i l ≠ 0 then check p i l else if 2000 < (ways (Rl.set l) (rule p i)).length then 2 else 0
def waysOut (p : Sc.Prog) (i : Int) (l : List Rl.Fc) : List (List Int) := if waysErr p i l ≠ 0 then [] else srt (ways (Rl.set l) (rule p i))
structure In (p : Sc.Prog) (i : Int) (l : List Rl.Fc) : Prop where
  ok : ProgOk p
  lo : 0 ≤ i
  hi : i < (p.rules.length : Int)
  len : l.length ≤ 60
  fs : ∀ f, f ∈ l → Right p.arity f
theorem check_in {p : Sc.Prog} {i : Int} {l : List Rl.Fc} (h : check p i l = 0) : In p i l := by
  unfold check at h
  by_cases h1 : Sc.check p = 0
  · rw [if_neg (by simpa using h1)] at h
    by_cases h2 : i < 0 ∨ (p.rules.length : Int) ≤ i
    · rw [if_pos h2] at h; cases h
    · rw [if_neg h2] at h
      by_cases h3 : 60 < l.length
      · rw [if_pos h3] at h; cases h
      · rw [if_neg h3] at h
        exact ⟨progOk_of h1, by omega, by omega, by omega, fun f hf => right_iff.mp (thn0 (first0 h f hf)).2⟩
  · rw [if_pos h1] at h
    exact absurd h h1
theorem ruleD_mem {l : List Sc.Rule} {k : Nat} (h : k < l.length) : Sc.ruleD l k ∈ l := by unfold Sc.ruleD; rw [List.getD_eq_getElem?_getD, List.getElem?_eq_getElem h]; exact List.getElem_mem h
theorem In.rule {p : Sc.Prog} {i : Int} {l : List Rl.Fc} (h : In p i l) : RuleOk p.arity (Ru.rule p i) := h.ok.rule _ (ruleD_mem (by have := h.lo; have := h.hi; omega))
theorem In.set {p : Sc.Prog} {i : Int} {l : List Rl.Fc} (h : In p i l) : ∀ f, f ∈ Rl.set l → Right p.arity f := fun f hf => h.fs f (Rl.mem_set.mp hf)
theorem right_short {p : Sc.Prog} (h : ProgOk p) {f : Rl.Fc} (hf : Right p.arity f) : f.args.length ≤ 3 := by
  have h1 := hf.al
  have h2 := h.ar f.pred.toNat (by have := hf.p0; have := hf.p1; omega)
  omega
theorem lit_short {p : Sc.Prog} (h : ProgOk p) {r : Sc.Rule} (hr : RuleOk p.arity r) {l : Sc.Lit} (hl : l ∈ r.body) : l.terms.length ≤ 3 := by
  have hi := litIn_of hr (facts := []) (fun f hf => absurd hf (by simp)) hl
  rcases hi.k with hk | hk | hk | hk
  · obtain ⟨h1, h2, h3⟩ := lit_preds hr hl (.inl hk)
    have := h.ar l.pred.toNat (by omega)
    omega
  · obtain ⟨h1, h2, h3⟩ := lit_preds hr hl (.inr hk)
    have := h.ar l.pred.toNat (by omega)
    omega
  · have := hi.k3 hk; omega
  · have := hi.k4 hk; omega
theorem lit_num {ar : List Int} {r : Sc.Rule} (hr : RuleOk ar r) {l : Sc.Lit} (hl : l ∈ r.body) : LitNum l := fun t ht _ => ((hr.lit l hl).2 t ht).num
theorem set_nodup (l : List Rl.Fc) : (Rl.set l).Nodup := (Rl.set_isSet l).1.imp fun {a b} h e => by subst e; exact Rl.Lt.irrefl _ h
theorem sorted_srt {L M : List (List Int)} (hp : L.Perm M) (hn : M.Nodup) (hs : L.Pairwise fun a b => ¬ Rl.cmpL b a < 0) : L = srt M := by
  refine srt_eq ?_ (fun x => hp.mem_iff)
  have hnd : L.Nodup := hp.nodup_iff.mpr hn
  refine (hs.and hnd).imp ?_
  rintro a b ⟨h1, h2⟩
  rcases Rl.lt_or ⟨0, a⟩ ⟨0, b⟩ with h | h | h
  · unfold Rl.Lt at h; rw [ord0] at h; exact h
  · injection h with _ h; exact absurd h h2
  · unfold Rl.Lt at h; rw [ord0] at h; exact absurd h h1
end Ru
/-- The bodies' slices of a program's rules are within their capacity. -/
def RulesCap (w : World) (vr : Value) : Prop := ∀ b off n cap, vr = .slice (some ⟨b, off, none⟩) n cap → ∀ k, k < n → ∀ v, w.cell? ⟨b, off + k * 5 + 3, none⟩ = some v → CapOk v
theorem sortWays {w y : World} {ao : Option Addr} {co : Nat} {q : List (List Int × Value)} {WS : List (List Int)} (hN : NumsP w.heap.size y (.slice ao q.length co) q) (hl : q.length ≤ 2000) (hq : q.map (·.1) = WS) (hn : WS.Nodup) (hb : Below w.heap.size w y) (hsh : ∀ x, x ∈ WS → x.length ≤ 8) :
    Calls Tryz.prog 55 #[.slice ao q.length co, .func (.func 56) #[] #[]] y fun e w' => e = .returned (.tuple #[]) ∧ ∃ q' : List (List Int × Value), NumsP w.heap.size w' (.slice ao q.length co) q' ∧ q'.map (·.1) = Ru.srt WS ∧ Below w.heap.size w w' := by
  obtain ⟨ho, hr⟩ := hN
  rcases id ho.2 with ⟨hv, h0⟩ | ⟨g, cap, cur, hv, hbg, hg, _⟩
  · injection hv with e1 e2 e3
    subst e1 e3
    have hq0 : q = [] := List.eq_nil_of_length_eq_zero h0
    subst hq0
    refine Calls.mono (sortI_none none 0 _ y) ?_
    rintro e w' ⟨rfl, rfl⟩
    have hW : WS = [] := hq.symm
    subst hW
    exact ⟨rfl, [], ⟨ho, hr⟩, rfl, hb⟩
  · injection hv with e1 e2 e3
    subst e1 e3
    have hne : ∀ (k : Nat) (a : Array Value), y.heap[k]? = some (.cells a 3) → ¬ k = g := fun k a hk e => by
      rw [e, hg] at hk
      injection hk with hk
      injection hk with _ hk
      cases hk
    refine Calls.mono (sortI_any y w.heap.size g co q ho (fun p hp => ⟨fun w' hk => own_ints (own_type (hr p hp) (fun k a ha => (hk k (heap_lt ha) (hne k a ha)).trans ha)), ?_⟩) (by omega)) ?_
    · have := hsh p.1 (by rw [← hq]; exact List.mem_map_of_mem hp)
      omega
    · rintro e w' ⟨rfl, q', hp, hs, ho', hgr⟩
      have hlen := hp.length_eq
      refine ⟨rfl, q', ⟨by rw [← hlen]; exact ho', fun p hpq => own_type (hr p (hp.mem_iff.mp hpq)) (fun k a ha => (hgr.block k (heap_lt ha) (fun e => hne k a ha (Option.some.inj e))).trans ha)⟩, Ru.sorted_srt (by rw [← hq]; exact hp.map _) hn hs, hb.grown hgr hb.size (fun k hk => (Option.some.inj hk) ▸ hbg)⟩
def ways4V (PV RV VF : Value) (X b off k : Nat) (tQ : Nat) (vQ : Value) : Prop :=
  match tQ with
  | 17 => vQ = (.pointer (some ⟨X, 2, none⟩) : Value)
  | 18 => vQ = (PV : Value)
  | 19 => vQ = (.int .i64 (k : Nat) : Value)
  | 20 => vQ = (.pointer (some ⟨b, off + k * 5, none⟩) : Value)
  | 21 => vQ = (RV : Value)
  | 22 => vQ = (VF : Value)
  | _ => True
def ways4T (PV RV VF : Value) (X b off k : Nat) (L : List Rl.Fc) (WS : List (List Int)) (tQ : Nat) (vQ : Value) (WQ : World) : Prop :=
  if tQ = 23 then FactsV WQ vQ L
  else if tQ = 24 then ∃ q, NumsP X WQ vQ q ∧ q.map (·.1) = WS else ways4V PV RV VF X b off k tQ vQ
theorem NumsP.below {B : Nat} {w w' : World} {v : Value} {q : List (List Int × Value)} (h : NumsP B w v q) (hb : Below w.heap.size w w') : NumsP B w' v q := ⟨ownsRow_below h.1 hb, fun p hp => ownsRow_below (h.2 p hp) hb⟩
theorem ways4T_mono (PV RV VF : Value) (X b off k : Nat) (L : List Rl.Fc) (WS : List (List Int)) (tQ : Nat) (vQ : Value) (W W' : World) (hb : Below W.heap.size W W') (h : ways4T PV RV VF X b off k L WS tQ vQ W) : ways4T PV RV VF X b off k L WS tQ vQ W' := by
  unfold ways4T at h ⊢
  by_cases ht : tQ = 23
  · rw [if_pos ht] at h ⊢
    exact factsV_below h hb
  · rw [if_neg ht] at h ⊢
    by_cases ht2 : tQ = 24
    · rw [if_pos ht2] at h ⊢
      obtain ⟨q, h1, h2⟩ := h
      exact ⟨q, h1.below hb, h2⟩
    · rw [if_neg ht2] at h ⊢
      exact h

set_option maxRecDepth 100000 in
set_option maxHeartbeats 2000000 in
theorem Ways_any (p : Sc.Prog) (i : Int) (facts : List Rl.Fc) (va vn vr vf : Value) (w : World) (hP : ProgV w va vn vr p) (hF : ProgFit p) (hcap : RulesCap w vr) (hV : FactsV w vf facts) (hFl : facts.length ≤ 9223372036854775807) (hFF : ∀ f, f ∈ facts → FFit f) :
    Calls Tryz.prog 14 #[progVal va vn vr, .int .i64 i, vf] w fun e w' => ∃ v q, e = .returned (.tuple #[v, .int .i64 (Ru.waysErr p i facts)]) ∧ NumsP w.heap.size w' v q ∧ q.map (·.1) = Ru.waysOut p i facts ∧ Below w.heap.size w w' := by
  obtain ⟨a0, n0, rfl, _⟩ := id hP.ar
  obtain ⟨a1, n1, rfl, _⟩ := id hP.nm
  obtain ⟨a2, n2, rfl, hRA⟩ := id hP.rl
  obtain ⟨af, cf, rfl, _, hFA⟩ := id hV
  have bT := (Below.refl w.heap.size w).alloc (Nat.le_refl _) (.cells #[.slice a0 p.arity.length n0, .slice a1 p.names.length n1, .slice a2 p.rules.length n2] 26)
  have HBX : Hid _ := heap_alloc_new w (.cells #[.slice a0 p.arity.length n0, .slice a1 p.names.length n1, .slice a2 p.rules.length n2] 26)
  have HB : Hid _ := bT
  have HC : Hid _ := ruCheck_any p i facts _ _ _ _ _ (hP.below bT) hF (factsV_below hV bT) hFl hFF
  have HFV : Hid (FactsV w (.slice af facts.length cf) facts) := hV
  have HFF : Hid _ := hFF
  have HRA : Hid _ := hRA
  have HCAP : Hid (RulesCap w (.slice a2 p.rules.length n2)) := hcap
  clear hP hF hV hFA hFF bT hcap hRA
  go_enter Tryz.func14, Tryz.ntmps14
  go_upto_region 1 with fail
  generalize w.alloc (.cells #[.slice a0 p.arity.length n0, .slice a1 p.names.length n1, .slice a2 p.rules.length n2] 26) = w1 at *
  have c0 : w1.cell? ⟨w.heap.size, 0, none⟩ = some (.slice a0 p.arity.length n0) := by rw [Lib.cell_of_heap HBX.out]; rfl
  have c1 : w1.cell? ⟨w.heap.size, 1, none⟩ = some (.slice a1 p.names.length n1) := by rw [Lib.cell_of_heap HBX.out]; rfl
  have c2 : w1.cell? ⟨w.heap.size, 2, none⟩ = some (.slice a2 p.rules.length n2) := by rw [Lib.cell_of_heap HBX.out]; rfl
  go_wp2_with fail
  refine Calls.mono HC.out ?_
  rintro _ w2 ⟨rfl, hb2⟩
  have HB2 : Hid (Below w.heap.size w w2) := HB.out.trans (hb2.mono HB.out.size)
  have HBX2 : Hid _ := (hb2.block _ (heap_lt HBX.out)).trans HBX.out
  have HSZ : Hid (w.heap.size ≤ w2.heap.size) := HB2.out.size
  clear c0 c1 c2 hb2 HB HBX HC
  by_cases hc : Ru.check p i facts = 0
  · have g0 : (Ru.check p i facts != 0) = false := by simpa using hc
    have hin := Ru.check_in hc
    obtain ⟨k, rfl⟩ : ∃ k : Nat, i = k := ⟨i.toNat, by have := hin.lo; omega⟩
    have hk : k < p.rules.length := by have := hin.hi; omega
    have HCK : Hid _ := hc
    have HRU : Hid (Ru.rule p (k : Int) = Sc.ruleD p.rules k) := by show _ = _; unfold Ru.rule; rw [Int.toNat_natCast]
    have hro : Ru.RuleOk p.arity (Sc.ruleD p.rules k) := by have := hin.rule; rw [HRU.out] at this; exact this
    have hri := Ru.ruleIn_of hro hin.set
    have hnums := Ru.right_nums hin.set
    have HND : Hid ((Ru.ways (Rl.set facts) (Sc.ruleD p.rules k)).Nodup) := Ru.ways_nodup hri hnums (Ru.set_nodup facts)
    have HSZ0 : Hid (∀ x, x ∈ Ru.ways (Rl.set facts) (Sc.ruleD p.rules k) → x.length ≤ 8) := fun x hx => by
      have := ((Ru.mem_ways hri hnums x).mp hx).1
      have := hri.v8
      omega
    obtain ⟨b, off, rfl, q0, ⟨vt, q1, hT⟩, q2, ⟨vb, q3, hL⟩, q4⟩ := prules_at HRA.out k hk
    have hcb := HCAP.out _ _ _ _ rfl k hk _ q3
    obtain ⟨at_, ct, rfl, _⟩ := id hT
    obtain ⟨ab, cb, rfl, _⟩ := id hL
    have HSET : Hid (∀ y_, Below w2.heap.size w2 y_ → Calls Tryz.prog 54 #[.slice af facts.length cf] y_ fun e w' => ∃ v', e = .returned v' ∧ FactsP y_.heap.size w' v' (Rl.set facts) ∧ Below y_.heap.size y_ w') := fun y_ hb => Set_any facts _ y_ (factsV_below HFV.out (HB2.out.trans (hb.mono HB2.out.size))) (by have := hin.len; omega) (fun f hf => by have := Ru.right_short hin.ok (hin.fs f hf); omega)
    have HFND : Hid (∀ y_ v, Below w2.heap.size w2 y_ → FactsV y_ v (Rl.set facts) → Calls Tryz.prog 53 #[pruleVal (Sc.ruleD p.rules k) (.slice at_ (Sc.ruleD p.rules k).terms.length ct) (.slice ab (Sc.ruleD p.rules k).body.length cb), v] y_ fun e w' => ∃ v' q, e = .returned v' ∧ NumsP y_.heap.size w' v' q ∧ q.map (·.1) = (Ru.ways (Rl.set facts) (Sc.ruleD p.rules k)).take 2001 ∧ Below y_.heap.size y_ w') := fun y_ v hb hv => by
      have hb' : Below w.heap.size w y_ := HB2.out.trans (hb.mono HB2.out.size)
      exact found_any (Rl.set facts) (Sc.ruleD p.rules k) _ _ v y_ hv (by have := set_length facts; have := hin.len; omega) (fun f hf => by unfold FFit; have := Ru.right_short hin.ok (hin.set f hf); omega) hri hnums (fun l hl => by have := Ru.lit_short hin.ok hro hl; omega) (fun l hl => Ru.lit_num hro hl) (ptermsV_below hT hb') (plitsV_below hL hb') hcb (by have := hro.b4; omega) hro.v0
    have p0 := cell_below HB2.out q0
    have p1 := cell_below HB2.out q1
    have p2 := cell_below HB2.out q2
    have p3 := cell_below HB2.out q3
    have p4 := cell_below HB2.out q4
    have c2 : w2.cell? ⟨w.heap.size, 2, none⟩ = some (.slice (some ⟨b, off, none⟩) p.rules.length n2) := by rw [Lib.cell_of_heap HBX2.out]; rfl
    clear q0 q1 q2 q3 q4 hT hL hcb hin hro hri hnums hc HBX2 HFV HFF HRA HCAP
    generalize Sc.ruleD p.rules k = r at *
    go_upto_region 4 with fail
    refine wp_region_tail (ways4T (.slice (some ⟨b, off, none⟩) p.rules.length n2) (pruleVal r (.slice at_ r.terms.length ct) (.slice ab r.body.length cb)) (.slice af facts.length cf) w.heap.size b off k (Rl.set facts) ((Ru.ways (Rl.set facts) r).take 2001)) 8 (by decide) (by kernel_rfl) (by kernel_rfl) (by kernel_rfl) (ways4T_mono (.slice (some ⟨b, off, none⟩) p.rules.length n2) (pruleVal r (.slice at_ r.terms.length ct) (.slice ab r.body.length cb)) (.slice af facts.length cf) w.heap.size b off k (Rl.set facts) ((Ru.ways (Rl.set facts) r).take 2001)) ?hopA ?htailA
    case hopA =>
      refine AllOps.cons (fun a y_ h => ?_) ?_
      · have e3 : a.eval (.tmp 3) = (.pointer (some ⟨w.heap.size, 0, none⟩) : Value) := h.old 3 (by kernel_rfl)
        refine opOk_val (v := .pointer (some ⟨w.heap.size, 2, none⟩)) (w' := y_) (wanted_none rfl) ?_ (fun t ht => by cases ht; exact rfl) (Below.refl _ _)
        have ec : ∀ v, a.eval (.const v) = v := fun _ => rfl
        generalize a.eval = ev at *
        clear h
        go_simp
      refine AllOps.cons (fun a y_ h => ?_) ?_
      · have e17 : a.eval (.tmp 17) = (.pointer (some ⟨w.heap.size, 2, none⟩) : Value) := h.of 17 (by kernel_rfl)
        have c0 := cell_below h.below c2
        refine opOk_val (v := .slice (some ⟨b, off, none⟩) p.rules.length n2) (w' := y_) (wanted_none rfl) ?_ (fun t ht => by cases ht; exact rfl) (Below.refl _ _)
        have ec : ∀ v, a.eval (.const v) = v := fun _ => rfl
        generalize a.eval = ev at *
        clear h
        go_simp
      refine AllOps.cons (fun a y_ h => ?_) ?_
      · have e1 : a.eval (.tmp 1) = (.int .i64 (k : Nat) : Value) := h.old 1 (by kernel_rfl)
        refine opOk_val (v := .int .i64 (k : Nat)) (w' := y_) (wanted_none rfl) ?_ (fun t ht => by cases ht; exact rfl) (Below.refl _ _)
        have ec : ∀ v, a.eval (.const v) = v := fun _ => rfl
        generalize a.eval = ev at *
        clear h
        go_simp
      refine AllOps.cons (fun a y_ h => ?_) ?_
      · have e18 : a.eval (.tmp 18) = (.slice (some ⟨b, off, none⟩) p.rules.length n2 : Value) := h.of 18 (by kernel_rfl)
        have e19 : a.eval (.tmp 19) = (.int .i64 (k : Nat) : Value) := h.of 19 (by kernel_rfl)
        refine opOk_val (v := .pointer (some ⟨b, off + k * 5, none⟩)) (w' := y_) (wanted_none rfl) ?_ (fun t ht => by cases ht; exact rfl) (Below.refl _ _)
        have ec : ∀ v, a.eval (.const v) = v := fun _ => rfl
        generalize a.eval = ev at *
        clear h
        go_simp
      refine AllOps.cons (fun a y_ h => ?_) ?_
      · have e20 : a.eval (.tmp 20) = (.pointer (some ⟨b, off + k * 5, none⟩) : Value) := h.of 20 (by kernel_rfl)
        have c0 := cell_below h.below p0
        have c1 := cell_below h.below p1
        have c2 := cell_below h.below p2
        have c3 := cell_below h.below p3
        have c4 := cell_below h.below p4
        refine opOk_val (v := pruleVal r (.slice at_ r.terms.length ct) (.slice ab r.body.length cb)) (w' := y_) (wanted_none rfl) ?_ (fun t ht => by cases ht; exact rfl) (Below.refl _ _)
        have ec : ∀ v, a.eval (.const v) = v := fun _ => rfl
        generalize a.eval = ev at *
        clear h
        go_simp
      refine AllOps.cons (fun a y_ h => ?_) ?_
      · have e2 : a.eval (.tmp 2) = (.slice af facts.length cf : Value) := h.old 2 (by kernel_rfl)
        refine opOk_val (v := .slice af facts.length cf) (w' := y_) (wanted_none rfl) ?_ (fun t ht => by cases ht; exact rfl) (Below.refl _ _)
        have ec : ∀ v, a.eval (.const v) = v := fun _ => rfl
        generalize a.eval = ev at *
        clear h
        go_simp
      refine AllOps.cons (fun a y_ h => ?_) ?_
      · have e22 : a.eval (.tmp 22) = (.slice af facts.length cf : Value) := h.of 22 (by kernel_rfl)
        refine opOk_call (f := 54) (args := #[.slice af facts.length cf]) (wanted_none rfl) ?_ ?_
        · have ec : ∀ v, a.eval (.const v) = v := fun _ => rfl
          have ef : ∀ f, a.eval (.func f) = .func (.func f) #[] #[] := fun _ => rfl
          generalize a.eval = ev at *
          clear h
          go_simp
        · refine Calls.mono (HSET.out y_ h.below) ?_
          rintro _ y2 ⟨v', rfl, hfp, hb2⟩
          refine ⟨_, rfl, fun t ht => ?_, hb2⟩
          cases ht
          exact hfp.toV
      refine AllOps.cons (fun a y_ h => ?_) ?_
      · have e21 : a.eval (.tmp 21) = (pruleVal r (.slice at_ r.terms.length ct) (.slice ab r.body.length cb) : Value) := h.of 21 (by kernel_rfl)
        have hfv : FactsV y_ (a.eval (.tmp 23)) (Rl.set facts) := h.of 23 (by kernel_rfl)
        refine opOk_call (f := 53) (args := #[pruleVal r (.slice at_ r.terms.length ct) (.slice ab r.body.length cb), a.eval (.tmp 23)]) (wanted_none rfl) ?_ ?_
        · have ec : ∀ v, a.eval (.const v) = v := fun _ => rfl
          have ef : ∀ f, a.eval (.func f) = .func (.func f) #[] #[] := fun _ => rfl
          generalize a.eval = ev at *
          clear h
          go_simp
        · refine Calls.mono (HFND.out y_ _ h.below hfv) ?_
          rintro _ y2 ⟨v', q, rfl, hnp, hqe, hb2⟩
          refine ⟨_, rfl, fun t ht => ?_, hb2⟩
          cases ht
          exact ⟨q, ⟨rl_own_le hnp.1 (Nat.le_trans HSZ.out h.below.size), fun p hp => rl_own_le (hnp.2 p hp) (Nat.le_trans HSZ.out h.below.size)⟩, hqe⟩
      exact AllOps.nil
    case htailA =>
      rintro ⟨tm0, df⟩ y_ hI
      obtain ⟨q, hNP, hqe⟩ : ∃ q, NumsP w.heap.size y_ (Act.eval ⟨tm0, df⟩ (.tmp 24)) q ∧ q.map (·.1) = (Ru.ways (Rl.set facts) r).take 2001 := hI.all 7 _ 24 (by decide) rfl rfl
      obtain ⟨ao, co, eo⟩ := own_slice hNP.1
      have e24 : Act.eval ⟨tm0, df⟩ (.tmp 24) = .slice ao q.length co := eo
      rw [e24] at hNP
      have hsN : tm0.size = 31 := hI.size
      have HBy : Hid (Below w.heap.size w y_) := HB2.out.trans (hI.below.mono HB2.out.size)
      show wpOps Tryz.prog _ _ [8] _ _
      rw [wpOps_cons]
      refine wpOp_val (v := .slice ao q.length co) (w' := y_) rfl (wanted_none rfl) ?_ ?_
      · show Sem.run Tryz.prog (execOp (Act.eval ⟨tm0, df⟩) _) y_ = _
        generalize Act.eval ⟨tm0, df⟩ = ev at *
        clear hI
        go_simp
      have hst : ∀ t, t ∉ [17, 18, 19, 20, 21, 22, 23, 24, 9] → (tm0.setIfInBounds 9 (.slice ao q.length co)).getD t undef = _ := fun t ht => by
        have hA : t ≠ 9 := fun e => ht (by rw [e]; decide)
        exact (put_get_ne (a := ⟨tm0, df⟩) hA).trans (hI.still t ht)
      have h9 : (tm0.setIfInBounds 9 (.slice ao q.length co)).getD 9 undef = .slice ao q.length co := put_get_self (a := ⟨tm0, df⟩) (by show 9 < tm0.size; omega)
      obtain rfl : df = [] := hI.defers
      have hs2 : (tm0.setIfInBounds 9 (.slice ao q.length co)).size = 31 := by simp [hsN]
      have HNP : Hid (NumsP w.heap.size y_ (.slice ao q.length co) q) := hNP
      have HQE : Hid _ := hqe
      clear hI hNP hqe e24 eo hsN
      show Exit.then _ _ Exit.normal ⟨tm0.setIfInBounds 9 (.slice ao q.length co), []⟩ y_
      generalize tm0.setIfInBounds 9 (.slice ao q.length co) = tm at *
      have hF8 := tmps_fold [17, 18, 19, 20, 21, 22, 23, 24, 9] tm _ (hs2.trans (by rfl)) hst
      clear hs2 hst
      simp only [List.foldl_cons, List.foldl_nil, h9] at hF8
      clear h9
      generalize tm.getD 17 undef = x17 at hF8
      generalize tm.getD 18 undef = x18 at hF8
      generalize tm.getD 19 undef = x19 at hF8
      generalize tm.getD 20 undef = x20 at hF8
      generalize tm.getD 21 undef = x21 at hF8
      generalize tm.getD 22 undef = x22 at hF8
      generalize tm.getD 23 undef = x23 at hF8
      generalize tm.getD 24 undef = x24 at hF8
      simp only [List.setIfInBounds_toArray, List.set_cons_zero, List.set_cons_succ] at hF8
      subst hF8
      clear p0 p1 p2 p3 p4 c2
      have hmin : q.length = min 2001 (Ru.ways (Rl.set facts) r).length := by have h9 := congrArg List.length HQE.out; rw [List.length_map, List.length_take] at h9; exact h9
      by_cases hm : 2000 < q.length
      · have g1 : decide (2000 < q.length) = true := decide_eq_true hm
        have g1i : decide ((2000 : Int) < (q.length : Int)) = true := decide_eq_true (by omega)
        have HER : Hid (Ru.waysErr p k facts = 2) := by show _ = _; unfold Ru.waysErr; rw [if_neg (by rw [HCK.out]; simp), HRU.out, if_pos (by omega)]
        clear hm hmin
        go_wp2_with fail
        refine bodyPost_ret (results_tmp2 rfl _ _ _) rfl ?_
        exact ⟨_, [], by rw [HER.out]; rfl, ⟨World.ownsRow_nil _ _ _ _, fun p hp => absurd hp (by simp)⟩, by unfold Ru.waysOut; rw [if_pos (by rw [HER.out]; decide)]; rfl, HBy.out⟩
      · have g1 : decide (2000 < q.length) = false := decide_eq_false hm
        have g1i : decide ((2000 : Int) < (q.length : Int)) = false := decide_eq_false (by omega)
        have HER : Hid (Ru.waysErr p k facts = 0) := by show _ = _; unfold Ru.waysErr; rw [if_neg (by rw [HCK.out]; simp), HRU.out, if_neg (by omega)]
        have HQE2 : Hid (q.map (·.1) = Ru.ways (Rl.set facts) r) := by show _ = _; rw [HQE.out, List.take_of_length_le (by omega)]
        have HSO : Hid (Calls Tryz.prog 55 #[.slice ao q.length co, .func (.func 56) #[] #[]] y_ fun e w' => e = .returned (.tuple #[]) ∧ ∃ q', NumsP w.heap.size w' (.slice ao q.length co) q' ∧ q'.map (·.1) = Ru.srt (Ru.ways (Rl.set facts) r) ∧ Below w.heap.size w w') := sortWays HNP.out (by omega) HQE2.out HND.out HBy.out HSZ0.out
        clear hm hmin
        go_wp2_with fail
        refine Calls.mono HSO.out ?_
        rintro _ w5 ⟨rfl, q', hN5, hq5, hb5⟩
        have HN5 : Hid _ := hN5
        clear hN5 HSO
        go_wp2_with fail
        refine bodyPost_ret (results_tmp2 rfl _ _ _) rfl ?_
        exact ⟨_, q', by rw [HER.out]; rfl, HN5.out, by unfold Ru.waysOut; rw [if_neg (by rw [HER.out]; simp), HRU.out]; exact hq5, hb5⟩
  · have g0 : (Ru.check p i facts != 0) = true := by simpa using hc
    have HER : Hid (Ru.waysErr p i facts = Ru.check p i facts) := by show _ = _; unfold Ru.waysErr; rw [if_pos (by simpa using hc)]
    have HNE : Hid _ := hc
    clear hc
    go_wp2_with fail
    refine bodyPost_ret (results_tmp2 rfl _ _ _) rfl ?_
    exact ⟨_, [], by rw [HER.out]; rfl, ⟨World.ownsRow_nil _ _ _ _, fun p hp => absurd hp (by simp)⟩, by unfold Ru.waysOut; rw [if_pos (by rw [HER.out]; exact HNE.out)]; rfl, HB2.out⟩
end Go.Proofs.YthenjegmigeieaaGreat

/- What is folded of a group: Min, Max, foldedNumber. -/
namespace Go.Proofs.YthenjegmigeieaaGreat
open Go.RowKit

namespace Ru
theorem take_succ_last {r : List Int} {j : Nat} (h : j < r.length) : r.take (j + 1) = r.take j ++ [Sc.intD r j] := by
  rw [List.take_add_one, List.getElem?_eq_getElem h]
  unfold Sc.intD
  rw [List.getD_eq_getElem?_getD, List.getElem?_eq_getElem h]
  rfl
theorem minL_take {l : List Int} {k : Nat} (h0 : 0 < k) (h : k < l.length) : minL (l.take (k + 1)) = min (minL (l.take k)) (Sc.intD l k) := by
  rw [show min (minL (l.take k)) (Sc.intD l k) = if Sc.intD l k < minL (l.take k) then Sc.intD l k else minL (l.take k) from by split <;> omega, take_succ_last h]
  cases l with
  | nil => simp at h
  | cons a r =>
    obtain ⟨j, rfl⟩ : ∃ j, k = j + 1 := ⟨k - 1, by omega⟩
    rw [List.take_succ_cons]
    show (r.take j ++ [_]).foldl _ a = _
    rw [List.foldl_append]
    rfl
theorem maxL_take {l : List Int} {k : Nat} (h0 : 0 < k) (h : k < l.length) : maxL (l.take (k + 1)) = max (maxL (l.take k)) (Sc.intD l k) := by
  rw [show max (maxL (l.take k)) (Sc.intD l k) = if maxL (l.take k) < Sc.intD l k then Sc.intD l k else maxL (l.take k) from by split <;> omega, take_succ_last h]
  cases l with
  | nil => simp at h
  | cons a r =>
    obtain ⟨j, rfl⟩ : ∃ j, k = j + 1 := ⟨k - 1, by omega⟩
    rw [List.take_succ_cons]
    show (r.take j ++ [_]).foldl _ a = _
    rw [List.foldl_append]
    rfl
theorem minL_one {l : List Int} (h : 0 < l.length) : minL (l.take 1) = Sc.intD l 0 := by
  cases l with
  | nil => simp at h
  | cons a r => rfl
theorem maxL_one {l : List Int} (h : 0 < l.length) : maxL (l.take 1) = Sc.intD l 0 := by
  cases l with
  | nil => simp at h
  | cons a r => rfl
end Ru
theorem ints_cell {w : World} {ao : Option Addr} {l : List Int} (h : IntsAt w ao l) {k : Nat} (hk : k < l.length) : ∃ b off, ao = some ⟨b, off, none⟩ ∧ w.cell? ⟨b, off + k, none⟩ = some (.int .i64 (Sc.intD l k)) := by
  rcases h with h | ⟨b, off, ha, hc⟩
  · rw [h] at hk; exact absurd hk (by simp)
  · exact ⟨b, off, ha, hc k hk⟩
set_option maxRecDepth 100000 in
set_option maxHeartbeats 1000000 in
theorem Min_any (l : List Int) (v : Value) (w : World) (hV : IntsV w v l) (h0 : 0 < l.length) (hl : l.length ≤ 1000000) : Calls Tryz.prog 161 #[v] w fun e w' => e = .returned (.int .i64 (Ru.minL l)) ∧ w' = w := by
  obtain ⟨ao, cap, rfl, hA⟩ := hV
  obtain ⟨b, off, rfl, hc0⟩ := ints_cell hA h0
  have HA : Hid _ := hA
  have HM1 : Hid _ := Ru.minL_one h0
  have g0 : decide ((l.length : Int) < 1) = false := decide_eq_false (by omega)
  have g0n : decide (l.length < 1) = false := decide_eq_false (by omega)
  clear hA
  rw [Nat.add_zero] at hc0
  go_enter Tryz.func161, Tryz.ntmps161
  go_wp2_with fail
  go_loopw [3, 4] (fun mv iv wr => w = wr ∧ ∃ k : Nat, 0 < k ∧ k ≤ l.length ∧ iv = .int .i64 k ∧ mv = .int .i64 (Ru.minL (l.take k))) (fun _ iv _ => l.length - (intOf iv).toNat)
  case atStart => exact ⟨rfl, 1, by omega, by omega, rfl, by rw [HM1.out]⟩
  case round =>
    obtain ⟨rfl, k, hk0, hk, rfl, rfl⟩ := hrel
    by_cases hlt : k < l.length
    · obtain ⟨b', off', hb', hck⟩ := ints_cell HA.out hlt
      injection hb' with hb'
      injection hb' with e1 e2
      subst e1 e2
      have HT : Hid _ := Ru.minL_take hk0 hlt
      generalize Ru.minL (l.take k) = m at *
      generalize Sc.intD l k = x at *
      go_wp2_with fail
      go_roundw
      case rel => exact ⟨trivial, k + 1, by omega, hlt, by go_num, by rw [HT.out]⟩
      case measure => simp [intOf]; omega
    · have hdd : decide (k < l.length) = false := decide_eq_false hlt
      have HE : Hid (Ru.minL (l.take k) = Ru.minL l) := by show _ = _; rw [List.take_of_length_le (by omega)]
      go_wp2_with fail
      go_ret
      exact ⟨by rw [← HE.out]; rfl, rfl⟩
set_option maxRecDepth 100000 in
set_option maxHeartbeats 1000000 in
theorem Max_any (l : List Int) (v : Value) (w : World) (hV : IntsV w v l) (h0 : 0 < l.length) (hl : l.length ≤ 1000000) : Calls Tryz.prog 162 #[v] w fun e w' => e = .returned (.int .i64 (Ru.maxL l)) ∧ w' = w := by
  obtain ⟨ao, cap, rfl, hA⟩ := hV
  obtain ⟨b, off, rfl, hc0⟩ := ints_cell hA h0
  have HA : Hid _ := hA
  have HM1 : Hid _ := Ru.maxL_one h0
  have g0 : decide ((l.length : Int) < 1) = false := decide_eq_false (by omega)
  have g0n : decide (l.length < 1) = false := decide_eq_false (by omega)
  clear hA
  rw [Nat.add_zero] at hc0
  go_enter Tryz.func162, Tryz.ntmps162
  go_wp2_with fail
  go_loopw [3, 4] (fun mv iv wr => w = wr ∧ ∃ k : Nat, 0 < k ∧ k ≤ l.length ∧ iv = .int .i64 k ∧ mv = .int .i64 (Ru.maxL (l.take k))) (fun _ iv _ => l.length - (intOf iv).toNat)
  case atStart => exact ⟨rfl, 1, by omega, by omega, rfl, by rw [HM1.out]⟩
  case round =>
    obtain ⟨rfl, k, hk0, hk, rfl, rfl⟩ := hrel
    by_cases hlt : k < l.length
    · obtain ⟨b', off', hb', hck⟩ := ints_cell HA.out hlt
      injection hb' with hb'
      injection hb' with e1 e2
      subst e1 e2
      have HT : Hid _ := Ru.maxL_take hk0 hlt
      generalize Ru.maxL (l.take k) = m at *
      generalize Sc.intD l k = x at *
      go_wp2_with fail
      go_roundw
      case rel => exact ⟨trivial, k + 1, by omega, hlt, by go_num, by rw [HT.out]⟩
      case measure => simp [intOf]; omega
    · have hdd : decide (k < l.length) = false := decide_eq_false hlt
      have HE : Hid (Ru.maxL (l.take k) = Ru.maxL l) := by show _ = _; rw [List.take_of_length_le (by omega)]
      go_wp2_with fail
      go_ret
      exact ⟨by rw [← HE.out]; rfl, rfl⟩
theorem sum_take {l : List Int} {k : Nat} (h : k < l.length) : (l.take (k + 1)).sum = (l.take k).sum + Sc.intD l k := by
  rw [Ru.take_succ_last h, List.sum_append]
  simp
theorem sum_le : ∀ {l : List Int} , (∀ n, n ∈ l → Sc.isNum n = true) → l.sum ≤ 1000000 * (l.length : Int) ∧ -(1000000 * (l.length : Int)) ≤ l.sum
  | [], _ => by simp
  | a :: r, h => by
    have h1 := sum_le (l := r) (fun n hn => h n (List.mem_cons_of_mem _ hn))
    have h2 := h a List.mem_cons_self
    unfold Sc.isNum at h2
    have h3 := Ru.between_iff.mp h2
    rw [List.sum_cons, List.length_cons]
    omega
set_option maxRecDepth 100000 in
set_option maxHeartbeats 1000000 in
theorem foldedNumber_any (f : Int) (l : List Int) (v : Value) (w : World) (hV : IntsV w v l) (h0 : 0 < l.length) (hl : l.length ≤ 1000000) (hN : ∀ n, n ∈ l → Sc.isNum n = true) : Calls Tryz.prog 108 #[.int .i64 f, v] w fun e w' => e = .returned (.int .i64 (Ru.foldN f l)) ∧ w' = w := by
  have HV : Hid _ := hV
  obtain ⟨ao, cap, rfl, hA⟩ := id hV
  by_cases h1 : f = 1
  · subst h1
    go_enter Tryz.func108, Tryz.ntmps108
    go_wp2_with fail
    go_ret
    exact ⟨rfl, rfl⟩
  · by_cases h3 : f = 3
    · subst h3
      go_enter Tryz.func108, Tryz.ntmps108
      go_wp2_with fail
      refine Calls.mono (Min_any l _ w HV.out h0 hl) ?_
      rintro _ w2 ⟨rfl, rfl⟩
      go_wp2_with fail
      go_ret
      exact ⟨rfl, rfl⟩
    · by_cases h4 : f = 4
      · subst h4
        go_enter Tryz.func108, Tryz.ntmps108
        go_wp2_with fail
        refine Calls.mono (Max_any l _ w HV.out h0 hl) ?_
        rintro _ w2 ⟨rfl, rfl⟩
        go_wp2_with fail
        go_ret
        exact ⟨rfl, rfl⟩
      · have HE : Hid (Ru.foldN f l = l.sum) := by show _ = _; unfold Ru.foldN; rw [if_neg h1, if_neg h3, if_neg h4]
        have g1 : (f == 1) = false := by simpa using h1
        have g3 : (f == 3) = false := by simpa using h3
        have g4 : (f == 4) = false := by simpa using h4
        have HA : Hid _ := hA
        have HN : Hid _ := hN
        clear h1 h3 h4 hA hV hN
        go_enter Tryz.func108, Tryz.ntmps108
        go_wp2_with fail
        go_loopw [5, 23] (fun sv iv wr => w = wr ∧ ∃ k : Nat, k ≤ l.length ∧ iv = .int .i64 k ∧ sv = .int .i64 (l.take k).sum) (fun _ iv _ => l.length - (intOf iv).toNat)
        case atStart => exact ⟨rfl, 0, by omega, rfl, rfl⟩
        case round =>
          obtain ⟨rfl, k, hk, rfl, rfl⟩ := hrel
          by_cases hlt : k < l.length
          · obtain ⟨b', off', rfl, hck⟩ := ints_cell HA.out hlt
            have HT : Hid _ := sum_take hlt
            have hs1 := sum_le (l := l.take (k + 1)) (fun n hn => HN.out n (List.mem_of_mem_take hn))
            rw [HT.out, List.length_take, Nat.min_eq_left hlt] at hs1
            have hwr : IntKind.i64.wrap ((l.take k).sum + Sc.intD l k) = (l.take k).sum + Sc.intD l k := by
              simp [IntKind.wrap, IntKind.bits, IntKind.signed]
              omega
            clear hs1
            generalize (l.take k).sum = m at *
            generalize Sc.intD l k = x at *
            go_wp2_with fail
            go_roundw
            case rel => exact ⟨trivial, k + 1, hlt, by go_num, by rw [HT.out]⟩
            case measure => simp [intOf]; omega
          · have hdd : decide (k < l.length) = false := decide_eq_false hlt
            have HE2 : Hid ((l.take k).sum = l.sum) := by show _ = _; rw [List.take_of_length_le (by omega)]
            go_wp2_with fail
            go_ret
            exact ⟨by rw [HE.out, ← HE2.out]; rfl, rfl⟩
end Go.Proofs.YthenjegmigeieaaGreat

/- slices.Equal of numbers. -/
namespace Go.Proofs.YthenjegmigeieaaGreat
open Go.RowKit

namespace Ru
theorem eq_step {x y : List Int} (hl : x.length = y.length) {k : Nat} (hk : k < x.length) : (x.drop k = y.drop k) ↔ (Sc.intD x k = Sc.intD y k ∧ x.drop (k + 1) = y.drop (k + 1)) := by
  have e1 : x.drop k = Sc.intD x k :: x.drop (k + 1) := by rw [List.drop_eq_getElem_cons hk]; unfold Sc.intD; rw [List.getD_eq_getElem?_getD, List.getElem?_eq_getElem hk]; rfl
  have e2 : y.drop k = Sc.intD y k :: y.drop (k + 1) := by rw [List.drop_eq_getElem_cons (by omega)]; unfold Sc.intD; rw [List.getD_eq_getElem?_getD, List.getElem?_eq_getElem (by omega)]; rfl
  rw [e1, e2, List.cons.injEq]
end Ru
set_option maxRecDepth 100000 in
set_option maxHeartbeats 1000000 in
theorem EqualI_any (x y : List Int) (v u : Value) (w : World) (hV : IntsV w v x) (hU : IntsV w u y) (hl : x.length ≤ 1000000) : Calls Tryz.prog 107 #[v, u] w fun e w' => e = .returned (.bool (decide (x = y))) ∧ Below w.heap.size w w' := by
  obtain ⟨ao, cap, rfl, hA⟩ := hV
  obtain ⟨bo, cbp, rfl, hB⟩ := hU
  have HA : Hid _ := hA
  have HB : Hid _ := hB
  clear hA hB
  by_cases hlen : x.length = y.length
  · have HLEN : Hid _ := hlen
    have g0 : ((x.length : Int) != (y.length : Int)) = false := by rw [hlen]; simp
    clear hlen
    go_enter Tryz.func107, Tryz.ntmps107
    go_wp2_with fail
    go_loopw [13] (fun iv wr => ∃ k : Nat, k ≤ x.length ∧ iv = .int .i64 k ∧ Hid (x = y ↔ x.drop k = y.drop k) ∧ Hid (Below w.heap.size w wr)) (fun iv _ => x.length - (intOf iv).toNat)
    case atStart => exact ⟨0, by omega, rfl, Iff.rfl, Below.refl _ _⟩
    case round =>
      obtain ⟨k, hk, rfl, HR, HBr⟩ := hrel
      by_cases hlt : k < x.length
      · have hlt2 : k < y.length := by have := HLEN.out; omega
        obtain ⟨b', off', rfl, hck⟩ := ints_cell HA.out hlt
        obtain ⟨b2, off2, rfl, hck2⟩ := ints_cell HB.out hlt2
        have q1 := cell_below HBr.out hck
        have q2 := cell_below HBr.out hck2
        have HS : Hid _ := Ru.eq_step HLEN.out hlt
        clear hck hck2
        generalize Sc.intD x k = a at *
        generalize Sc.intD y k = c at *
        by_cases hac : a = c
        · have gx : (a != c) = false := by simpa using hac
          have HR2 : Hid (x = y ↔ x.drop (k + 1) = y.drop (k + 1)) := HR.out.trans (HS.out.trans ⟨fun h => h.2, fun h => ⟨hac, h⟩⟩)
          clear hac
          go_upto_region 6 with fail
          go_quiet (fail)
          go_wp2_with fail
          go_roundw
          case rel => exact ⟨k + 1, hlt, by go_num, HR2.out, HBr.out.trans ((blw_drewN _ _).mono HBr.out.size)⟩
          case measure => simp [intOf]; omega
        · have gx : (a != c) = true := by simpa using hac
          have HE : Hid (decide (x = y) = false) := decide_eq_false (fun h => hac (HS.out.mp (HR.out.mp h)).1)
          clear hac
          go_upto_region 6 with fail
          go_quiet (fail)
          go_wp2_with fail
          go_ret
          exact ⟨by rw [HE.out]; rfl, HBr.out.trans ((blw_drewN _ _).mono HBr.out.size)⟩
      · have hdd : decide (k < x.length) = false := decide_eq_false hlt
        have HE : Hid (decide (x = y) = true) := decide_eq_true (HR.out.mpr (by have := HLEN.out; rw [List.drop_of_length_le (by omega), List.drop_of_length_le (by omega)]))
        go_wp2_with fail
        go_ret
        exact ⟨by rw [HE.out]; rfl, HBr.out⟩
  · have HE : Hid (decide (x = y) = false) := decide_eq_false (fun h => hlen (by rw [h]))
    have g0 : ((x.length : Int) != (y.length : Int)) = true := by simp; omega
    clear hlen
    go_enter Tryz.func107, Tryz.ntmps107
    go_wp2_with fail
    go_ret
    exact ⟨by rw [HE.out]; rfl, Below.refl _ _⟩
end Go.Proofs.YthenjegmigeieaaGreat

/- The library's sort, of facts in a row of one's own, whose numbers may lie behind the row. -/
namespace Go.Proofs.YthenjegmigeieaaGreat
open Go.Shelf Go.RowKit Go.Lib Go.Sort

/-- A fact whose numbers can be read wherever all but one block stands. -/
def FwOk (w : World) (g : Nat) (x : Fv) : Prop := (∀ w' : World, (∀ k, k < w.heap.size → ¬ k = g → w'.heap[k]? = w.heap[k]?) → IntsV w' x.2 x.1.args) ∧ FFit x.1
abbrev FwS (w : World) (g : Nat) := { x : Fv // FwOk w g x }
theorem fwOk_nil (w : World) (g : Nat) : FwOk w g (⟨0, []⟩, .slice none 0 0) := ⟨fun _ _ => ⟨none, 0, rfl, .inl rfl⟩, by show ([] : List Int).length ≤ _; decide⟩
theorem fw_lift {w : World} {g : Nat} : ∀ {q : List Fv}, (∀ p, p ∈ q → FwOk w g p) → ∃ Q : List (FwS w g), Q.map (·.1) = q := by
  intro q
  induction q with
  | nil => intro _; exact ⟨[], rfl⟩
  | cons a r ih =>
    intro h
    obtain ⟨Q, hQ⟩ := ih (fun p hp => h p (by simp [hp]))
    exact ⟨⟨a, h a (by simp)⟩ :: Q, by simp [hQ]⟩
abbrev fwInh (w : World) (g : Nat) : Inhabited (FwS w g) := ⟨⟨_, fwOk_nil w g⟩⟩
def fwEnc {w : World} {g : Nat} (x : FwS w g) : List Value := fcCells x.1
def fwCmp {w : World} {g : Nat} (x y : FwS w g) : Int := Rl.ord x.1.1 y.1.1
theorem fw_swo (w : World) (g : Nat) : SWO (ltOf (fwCmp (w := w) (g := g))) where
  irrefl x := by unfold ltOf fwCmp; rw [Rl.ord_self]; decide
  trans x y z h1 h2 := by
    unfold ltOf fwCmp at *
    simp only [decide_eq_true_eq] at *
    exact Rl.ord_trans h1 h2
  ntrans x y z h1 h2 := by
    unfold ltOf fwCmp at *
    simp only [decide_eq_false_iff_not] at *
    intro h3
    rcases Rl.lt_or x.1.1 y.1.1 with h4 | h4 | h4
    · exact h1 h4
    · rw [h4] at h3; exact h2 h3
    · exact h2 (Rl.ord_trans h4 h3)
theorem fw_one {w : World} {g : Nat} (x : FwS w g) : ∀ v ∈ fwEnc x, v.oneCell' = true := by
  intro v hv
  obtain ⟨⟨⟨p, a⟩, u⟩, h⟩ := x
  obtain ⟨ao, cap, hu, _⟩ := h.1 w (fun _ _ _ => rfl)
  have hu : u = .slice ao a.length cap := hu
  subst hu
  simp [fwEnc, fcCells] at hv
  rcases hv with rfl | rfl <;> rfl
theorem fw_lays (w : World) (g size : Nat) : @CmpLays (FwS w g) (fwInh w g) Tryz.prog 71 #[] fwEnc 2 fwCmp g 0 size w := by
  letI : Inhabited (FwS w g) := fwInh w g
  intro m os dk _ x y
  have hl : ∀ k, k < w.heap.size → ¬ k = g → (sortWorldK (fwEnc (w := w) (g := g)) 2 w g 0 m dk os).heap[k]? = w.heap[k]? := fun k hk hne => sortWorldK_block _ _ _ _ _ _ _ k hk hne
  exact Order_any x.1.1 y.1.1 x.1.2 y.1.2 _ (x.2.1 _ hl) (y.2.1 _ hl) x.2.2 y.2.2

theorem holdsF_row {w1 w : World} {B g cap : Nat} {Q : List (FwS w1 g)} (h : FRow w B g cap (Q.map (·.1))) : @HoldsK (FwS w1 g) (fwInh w1 g) fwEnc 2 w g 0 Q.toArray := by
  letI : Inhabited (FwS w1 g) := fwInh w1 g
  intro t ht
  have ht2 : t < Q.length * 2 := by simpa using ht
  refine ⟨?_, by rw [Nat.zero_add]; exact h.frozen t⟩
  rw [Nat.zero_add]
  have hc := World.ownsRow.cellAt h t (by rw [List.length_map]; exact ht2)
  obtain ⟨x, hx, hx2⟩ := fc_at (Q.map (·.1)) t (by rw [List.length_map]; exact ht2)
  rw [hc, hx2]
  have h1 : t / 2 < Q.length := by omega
  rw [List.getElem?_map, List.getElem?_eq_getElem h1] at hx
  have hx3 : Q[t / 2].1 = x := by simpa using hx
  show (fcCells x)[t % 2]? = some ((flatK fwEnc 2 Q.toArray)[t]!)
  rw [get_flatK fwEnc 2 Q.toArray t (by simpa using ht2)]
  have h2 : (Q.toArray)[t / 2]! = Q[t / 2] := by simp [h1]
  rw [h2]
  show _ = some ((fcCells Q[t / 2].1)[t % 2]!)
  rw [hx3]
  have h3 : t % 2 < (fcCells x).length := by show t % 2 < 2; omega
  rw [List.getElem?_eq_getElem h3, getElem!_pos (fcCells x) (t % 2) h3]
theorem rowF_sorted {w1 w : World} {B g cap n : Nat} {Q : List (FwS w1 g)} {d : Array (FwS w1 g)} {os : Array Obj} (h : FRow w B g cap (Q.map (·.1))) (hd : d.size = Q.length) :
    FRow (@sortWorldK (FwS w1 g) (fwInh w1 g) fwEnc 2 w g 0 n d os) B g cap (d.toList.map (·.1)) := by
  letI : Inhabited (FwS w1 g) := fwInh w1 g
  have hg := h.lt
  obtain ⟨h1, h2⟩ := h
  rcases h2 with ⟨h2, _⟩ | ⟨g', cap', cur, hv, hb, hh, hc1, hc2, hc3, hc4⟩
  · cases h2
  · injection hv with e1 _ e3
    injection e1 with e1
    injection e1 with e1
    subst e1 e3
    have hl : (d.toList.map (·.1)).length = Q.length := by rw [List.length_map, Array.length_toList, hd]
    refine ⟨fc_length _, .inr ⟨g, cap, putCells id 0 (flatK fwEnc 2 d) cur, rfl, hb, ?_, by rw [hl]; simpa using hc1, hc2, by simpa [putCells] using hc3, ?_⟩⟩
    · unfold sortWorldK putRowK putRow mapBlock Sort.ahead grow
      show ((w.heap.modify g _) ++ os)[g]? = _
      rw [Array.getElem?_append_left (by simpa using hg.2), Array.getElem?_modify, if_pos rfl, hh]
      rfl
    · apply List.ext_getElem?
      intro t
      rw [List.getElem?_take, Array.getElem?_toList, hl]
      by_cases ht : t < Q.length * 2
      · rw [if_pos ht]
        have hq : (Q.map (·.1)).length = Q.length := List.length_map _
        have hcs : t < cur.size := by
          rw [hc3]
          have : Q.length ≤ cap := by simpa using hc1
          omega
        obtain ⟨x, hx, hx2⟩ := fc_at (d.toList.map (·.1)) t (by rw [hl]; exact ht)
        rw [hx2]
        unfold putCells
        rw [Array.getElem?_mapIdx, Array.getElem?_eq_getElem hcs, Option.map_some, if_pos (by rw [size_flatK, hd]; omega)]
        have h4 : t / 2 < d.size := by omega
        rw [List.getElem?_map, Array.getElem?_toList, Array.getElem?_eq_getElem h4] at hx
        have hx3 : d[t / 2].1 = x := by simpa using hx
        rw [Nat.sub_zero, get_flatK fwEnc 2 d t (by rw [hd]; exact ht), getElem!_pos d _ h4]
        show some ((fcCells d[t / 2].1)[t % 2]!) = _
        rw [hx3]
        have h3 : t % 2 < (fcCells x).length := by show t % 2 < 2; omega
        rw [List.getElem?_eq_getElem h3, getElem!_pos (fcCells x) (t % 2) h3]
      · rw [if_neg ht, List.getElem?_eq_none]
        rw [fc_length, hl]
        omega

theorem sortF_any (w : World) (B g cap : Nat) (q : List Fv) (hown : FRow w B g cap q) (hq : ∀ p, p ∈ q → FwOk w g p) (hn : q.length < 4611686018427387904) :
    Calls Tryz.prog 106 #[.slice (some ⟨g, 0, none⟩) q.length cap, .func (.func 71) #[] #[]] w fun e w' => e = .returned (.tuple #[]) ∧ ∃ q', q'.Perm q ∧ (q'.map (·.1)).Pairwise (fun a b => ¬ Rl.Lt b a) ∧ FRow w' B g cap q' ∧ w.grownBy w' (some g) := by
  obtain ⟨Q, rfl⟩ := fw_lift hq
  letI : Inhabited (FwS w g) := fwInh w g
  have eg : ∀ args w, (callFunc 71 args).run Tryz.prog w = .ok (.enter 71 args) w := enters_of Tryz.func71 (by kernel_rfl) rfl
  have hsz : Q.toArray.size = Q.length := by simp
  have hcon := AnyQ.slices_SortFunc Tryz.sortF 2 Tryz.isAgg55 Tryz.sizeOf55 fwEnc (fun _ => rfl) fw_one fwCmp (fw_swo w g) 71 #[] g 0 cap Q.toArray w eg (fw_lays w g _) (holdsF_row hown) hown.lt.2 (by rw [hsz]; simpa using hn)
  rw [hsz] at hcon
  change Calls Tryz.prog 106 _ _ _ at hcon
  rw [List.length_map]
  refine hcon.mono ?_
  rintro e w' ⟨rfl, d', n, os, hp, hs, rfl⟩
  obtain ⟨p1, p2, p3⟩ := hp
  have hds : d'.size = Q.length := by rw [p1]; simp
  have e1 : d'.extract 0 Q.length = d' := by rw [← hds]; simp
  have e2 : Q.toArray.extract 0 Q.length = Q.toArray := by simp
  rw [e1, e2] at p3
  refine ⟨rfl, d'.toList.map (·.1), ?_, ?_, rowF_sorted hown hds, rfl, rfl, rfl, sortWorldK_size _ _ _ _ _ _ _, fun k hk hne => sortWorldK_block _ _ _ _ _ _ _ k hk (fun e => hne (by rw [e]))⟩
  · exact p3.map _
  · rw [List.pairwise_iff_getElem]
    intro i j hi hj hij
    have hi2 : i < d'.size := by simpa using hi
    have hj2 : j < d'.size := by simpa using hj
    have := hs i j (Nat.zero_le _) hij (by omega)
    rw [getElem!_pos d' j hj2, getElem!_pos d' i hi2] at this
    unfold ltOf fwCmp at this
    simp only [decide_eq_false_iff_not] at this
    simpa [Rl.Lt] using this

end Go.Proofs.YthenjegmigeieaaGreat

/- What folded does with one head: pure. -/
namespace Go.Proofs.YthenjegmigeieaaGreat
open Go.RowKit
namespace Ru
theorem drop_fact {S : List Rl.Fc} {k : Nat} (hk : k < S.length) : S.drop k = Rl.factD S k :: S.drop (k + 1) := by
  rw [List.drop_eq_getElem_cons hk]
  unfold Rl.factD
  rw [List.getD_eq_getElem?_getD, List.getElem?_eq_getElem hk]
  rfl
theorem folded_go (f : Int) {S : List Rl.Fc} {k : Nat} (hk : k + 1 < S.length) (hp : pre (Rl.factD S k).args = pre (Rl.factD S (k + 1)).args) (ns : List Int) : folded f (S.drop k) ns = folded f (S.drop (k + 1)) (ns ++ [lst (Rl.factD S k).args]) := by
  rw [drop_fact (show k < S.length by omega), drop_fact hk]
  show (if pre (Rl.factD S k).args = pre (Rl.factD S (k + 1)).args then _ else _) = _
  rw [if_pos hp]
theorem folded_cut (f : Int) {S : List Rl.Fc} {k : Nat} (hk : k < S.length) (hp : ¬ (k + 1 < S.length ∧ pre (Rl.factD S k).args = pre (Rl.factD S (k + 1)).args)) (ns : List Int) : folded f (S.drop k) ns = emit f (Rl.factD S k).pred (pre (Rl.factD S k).args) (ns ++ [lst (Rl.factD S k).args]) ++ folded f (S.drop (k + 1)) [] := by
  by_cases h1 : k + 1 < S.length
  · rw [drop_fact hk, drop_fact h1]
    show (if pre (Rl.factD S k).args = pre (Rl.factD S (k + 1)).args then _ else _) = _
    rw [if_neg (fun e => hp ⟨h1, e⟩)]
    rfl
  · rw [drop_fact hk, List.drop_of_length_le (show S.length ≤ k + 1 by omega)]
    show _ = emit f _ _ _ ++ []
    rw [List.append_nil]
    rfl
theorem lst_eq (l : List Int) : lst l = Sc.intD l (l.length - 1) := by
  unfold lst Sc.intD
  rw [List.getLastD_eq_getLast?, List.getLast?_eq_getElem?, List.getD_eq_getElem?_getD]
theorem pre_length (l : List Int) : (pre l).length = l.length - 1 := List.length_dropLast
theorem pre_intD {l : List Int} {i : Nat} (h : i < l.length - 1) : Sc.intD (pre l) i = Sc.intD l i := by
  unfold pre Sc.intD
  rw [List.getD_eq_getElem?_getD, List.getD_eq_getElem?_getD, List.getElem?_dropLast, if_pos h]
theorem lst_num {l : List Int} (h : 0 < l.length) (hn : ∀ n, n ∈ l → Sc.isNum n = true) : Sc.isNum (lst l) = true := by
  refine hn _ ?_
  rw [lst_eq]
  unfold Sc.intD
  rw [List.getD_eq_getElem?_getD, List.getElem?_eq_getElem (by omega)]
  exact List.getElem_mem _
theorem emit_length (f pd : Int) (p ns : List Int) : (emit f pd p ns).length ≤ 1 := by unfold emit; split <;> simp
theorem folded_length (f : Int) : ∀ (S : List Rl.Fc) (ns : List Int), (folded f S ns).length ≤ S.length
  | [], _ => Nat.le_refl _
  | h :: t, ns => by
    by_cases hp : 0 + 1 < (h :: t).length ∧ pre (Rl.factD (h :: t) 0).args = pre (Rl.factD (h :: t) (0 + 1)).args
    · have := folded_go f (S := h :: t) (k := 0) hp.1 hp.2 ns
      rw [List.drop_zero] at this
      rw [this]
      have := folded_length f t (ns ++ [lst (Rl.factD (h :: t) 0).args])
      show (folded f t _).length ≤ t.length + 1
      omega
    · have := folded_cut f (S := h :: t) (k := 0) (by simp) hp ns
      rw [List.drop_zero] at this
      rw [this, List.length_append]
      have h1 := emit_length f (Rl.factD (h :: t) 0).pred (pre (Rl.factD (h :: t) 0).args) (ns ++ [lst (Rl.factD (h :: t) 0).args])
      have := folded_length f t []
      show _ + (folded f t []).length ≤ t.length + 1
      omega
theorem folded_args (f : Int) (T : Nat) : ∀ (S : List Rl.Fc) (ns : List Int), (∀ g, g ∈ S → g.args.length = T) → ∀ g, g ∈ folded f S ns → g.args.length ≤ T + 1
  | [], _, _, g, hg => by cases hg
  | h :: t, ns, hS, g, hg => by
    by_cases hp : 0 + 1 < (h :: t).length ∧ pre (Rl.factD (h :: t) 0).args = pre (Rl.factD (h :: t) (0 + 1)).args
    · have := folded_go f (S := h :: t) (k := 0) hp.1 hp.2 ns
      rw [List.drop_zero] at this
      rw [this] at hg
      exact folded_args f T t _ (fun x hx => hS x (List.mem_cons_of_mem _ hx)) g hg
    · have := folded_cut f (S := h :: t) (k := 0) (by simp) hp ns
      rw [List.drop_zero] at this
      rw [this] at hg
      rcases List.mem_append.mp hg with hg | hg
      · unfold emit at hg
        split at hg
        · rw [List.mem_singleton.mp hg]
          show (pre h.args ++ _).length ≤ _
          rw [List.length_append, pre_length, hS h List.mem_cons_self]
          simp
        · cases hg
      · exact folded_args f T t _ (fun x hx => hS x (List.mem_cons_of_mem _ hx)) g hg
end Ru
theorem ints_pre {w : World} {ao : Option Addr} {l : List Int} (cap : Nat) (h : IntsAt w ao l) : IntsV w (.slice ao (l.length - 1) cap) (Ru.pre l) := by
  refine ⟨ao, cap, by rw [Ru.pre_length], ?_⟩
  rcases h with h | ⟨b, off, ha, hc⟩
  · exact .inl (by rw [h]; rfl)
  · refine .inr ⟨b, off, ha, fun i hi => ?_⟩
    rw [Ru.pre_length] at hi
    rw [Ru.pre_intD hi]
    exact hc i (by omega)
end Go.Proofs.YthenjegmigeieaaGreat

/- A region by a table with a tail, where the tail writes what the table reads. -/
namespace Go.Proofs.YthenjegmigeieaaGreat
open Go.RowKit

section
variable {P : Program} {ops : Array Oper} {Q : Exit → Act → World → Prop}
theorem wp_region_tail2 (T : Nat → Value → World → Prop) (L : Nat) {id : Nat} {a0 : Act} {w0 : World} (hL : L < ops.size) (htf : tailFine ops L = true) (hm : P.follows .mixedOrders = true)
    (hf : tabFine ops a0.tmps.size = true)
    (hmono : ∀ t v w w', Below w.heap.size w w' → T t v w → T t v w')
    (hop : AllOps (fun o => ∀ a w, OpIn ops T a0 w0 o a w → (∀ t, t ∉ (ops.toList.take L).filterMap (·.dst) → a.tmps.getD t undef = a0.tmps.getD t undef) → OpOk P ops Q T o a w) (ops.toList.take L))
    (htail : ∀ a w, OpInT ops T a0 w0 L a w → (∀ t, t ∉ (ops.toList.take L).filterMap (·.dst) → a.tmps.getD t undef = a0.tmps.getD t undef) → wpOps P ops Q (List.range' L (ops.size - L)) a w) :
    (Code.region id ops true).wp P Q a0 w0 := by
  unfold tailFine at htf
  rw [Bool.and_eq_true] at htf
  have ht1 : ∀ j, j < L → reach ops 12 L j = true := fun j hj => List.all_eq_true.mp htf.1 j (List.mem_range.mpr hj)
  have ht2 : ∀ i, i < ops.size → L < i → reach ops 12 i (i - 1) = true := fun i hi hLi => by
    have h := List.all_eq_true.mp htf.2 i (List.mem_range.mpr hi)
    rw [decide_eq_true hLi] at h
    simpa using h
  unfold tabFine at hf
  rw [Bool.and_eq_true, Bool.and_eq_true] at hf
  obtain ⟨⟨hnd, hlt⟩, hah⟩ := hf
  have hnd := of_decide_eq_true hnd
  have hlt' : ∀ t, t ∈ ops.toList.filterMap (·.dst) → t < a0.tmps.size := fun t ht => of_decide_eq_true (List.all_eq_true.mp hlt t ht)
  have hah' : ∀ (i : Nat) (o : Oper), ops[i]? = some o → ∀ e, e ∈ o.after → e.on < i := fun i o ho e he => by
    have hi : i < ops.size := (Array.getElem?_eq_some_iff.mp ho).1
    have h := List.all_eq_true.mp hah i (List.mem_range.mpr hi)
    rw [ho, Option.map_some, Option.getD_some] at h
    exact of_decide_eq_true (List.all_eq_true.mp h e (by simpa using he))
  refine wp_region_inv (fun s a w => (s.size = ops.size ∧ Closed ops s) ∧ (((∀ i, L ≤ i → i < ops.size → s[i]? = some false) ∧ (∀ t, t ∉ (ops.toList.take L).filterMap (·.dst) → a.tmps.getD t undef = a0.tmps.getD t undef) ∧ Tabbed ops T a0 w0 s a w) ∨
    (∃ m, L ≤ m ∧ m ≤ ops.size ∧ (∀ i, i < m → s[i]? = some true) ∧ (∀ i, m ≤ i → i < ops.size → s[i]? = some false) ∧ wpOps P ops Q (List.range' m (ops.size - m)) a w))) hm ?_ ?_ ?_
  · rintro s a w hr ⟨⟨hs, hC⟩, hI⟩
    have hall : ∀ n : Nat, n ≤ ops.size → ∀ i : Nat, i < n → s[i]? = some true := by
      intro n
      induction n with
      | zero => intro _ i hi; exact absurd hi (Nat.not_lt_zero _)
      | succ n ih =>
        intro hn i hi
        have ih := ih (by omega)
        by_cases hin : i < n
        · exact ih i hin
        · have hin : i = n := by omega
          subst hin
          cases hsi : s[i]? with
          | none => rw [Array.getElem?_eq_none_iff] at hsi; omega
          | some b =>
            cases b with
            | true => rfl
            | false =>
              exfalso
              have hio : i < ops.size := by omega
              have : i ∈ Region.ready .any ops s := by
                unfold Region.ready
                refine List.mem_filter.mpr ⟨List.mem_range.mpr hio, ?_⟩
                rw [Bool.and_eq_true]
                refine ⟨by simp [Array.getD_eq_getD_getElem?, hsi], ?_⟩
                have ho : ops[i]? = some ops[i] := Array.getElem?_eq_getElem hio
                rw [ho, Option.map_some, Option.getD_some, Array.all_eq_true_iff_forall_mem]
                intro e he
                have h1 := ih e.on (hah' i _ ho e he)
                simp [Array.getD_eq_getD_getElem?, h1]
              rw [hr] at this
              exact absurd this (by simp)
    have hd := hall ops.size (Nat.le_refl _)
    rcases hI with ⟨hF, _, _⟩ | ⟨m, _, hm1, _, hF, hW⟩
    · have h1 := hF L (Nat.le_refl _) hL
      rw [hd L hL] at h1
      cases h1
    · by_cases hme : m = ops.size
      · subst hme
        rw [Nat.sub_self] at hW
        exact hW
      · have h1 := hF m (Nat.le_refl _) (by omega)
        rw [hd m (by omega)] at h1
        cases h1
  · rintro s a w i hi ⟨⟨hs, hC⟩, hI⟩
    obtain ⟨hsi, o, ho, haf⟩ := ready_mem hi
    have his : i < ops.size := (Array.getElem?_eq_some_iff.mp ho).1
    have hup : ∀ j, s[j]? = some true → (s.setIfInBounds i true)[j]? = some true := fun j hj => by
      rw [Array.getElem?_setIfInBounds]
      by_cases hij : i = j
      · rw [if_pos hij, if_pos (by omega)]
      · rw [if_neg hij]; exact hj
    have hss : (s.setIfInBounds i true).size = ops.size ∧ Closed ops (s.setIfInBounds i true) := by
      refine ⟨by simp [hs], fun i' o' hi' ho' e he hb => ?_⟩
      by_cases hii : i = i'
      · subst hii
        rw [ho] at ho'
        cases ho'
        exact hup _ (haf e he hb)
      · rw [Array.getElem?_setIfInBounds, if_neg hii] at hi'
        exact hup _ (hC i' o' hi' ho' e he hb)
    have go : ∀ m, L ≤ m → m < ops.size → i = m → (∀ j, j < m → s[j]? = some true) → (∀ j, m ≤ j → j < ops.size → s[j]? = some false) → wpOps P ops Q (List.range' m (ops.size - m)) a w →
        wpOp P ops Q i (fun a' w' => ((s.setIfInBounds i true).size = ops.size ∧ Closed ops (s.setIfInBounds i true)) ∧ (((∀ j, L ≤ j → j < ops.size → (s.setIfInBounds i true)[j]? = some false) ∧ (∀ t, t ∉ (ops.toList.take L).filterMap (·.dst) → a'.tmps.getD t undef = a0.tmps.getD t undef) ∧ Tabbed ops T a0 w0 (s.setIfInBounds i true) a' w') ∨
          (∃ m, L ≤ m ∧ m ≤ ops.size ∧ (∀ j, j < m → (s.setIfInBounds i true)[j]? = some true) ∧ (∀ j, m ≤ j → j < ops.size → (s.setIfInBounds i true)[j]? = some false) ∧ wpOps P ops Q (List.range' m (ops.size - m)) a' w'))) a w := by
      intro m hLm hms him hT hF hW
      subst him
      obtain ⟨d, hd⟩ : ∃ d, ops.size - i = d + 1 := ⟨ops.size - i - 1, by omega⟩
      rw [hd, List.range'_succ, wpOps_cons] at hW
      refine wpOp_mono (fun a' w' h' => ⟨hss, .inr ⟨i + 1, by omega, by omega, fun j hj => ?_, fun j hj hjs => ?_, ?_⟩⟩) hW
      · by_cases hji : j = i
        · subst hji
          rw [Array.getElem?_setIfInBounds, if_pos rfl, if_pos (by omega)]
        · exact hup j (hT j (by omega))
      · rw [Array.getElem?_setIfInBounds, if_neg (by omega)]
        exact hF j (by omega) hjs
      · rw [show ops.size - (i + 1) = d by omega]
        exact h'
    rcases hI with ⟨hF, hO, hI⟩ | ⟨m, hLm, hm1, hT, hF, hW⟩
    · by_cases hiL : L ≤ i
      · have hiL2 : i = L := by
          rcases Nat.lt_or_ge L i with h | h
          · have h1 := reach_done hC 12 i (i - 1) o ho haf (ht2 i his h)
            rw [hF (i - 1) (by omega) (by omega)] at h1
            cases h1
          · omega
        subst hiL2
        have hdn : ∀ j, j < i → s[j]? = some true := fun j hj => reach_done hC 12 i j o ho haf (ht1 j hj)
        exact go i (Nat.le_refl _) his rfl hdn (fun j hj hjs => hF j hj hjs) (htail a w ⟨hI.below, hI.defers, hI.size, hI.still, fun j oj t hj hoj hd => hI.done j oj t (hdn j hj) hoj hd⟩ hO)
      · have hmo : o ∈ ops.toList.take L := by
          rw [← Array.getElem?_toList] at ho
          refine List.mem_of_getElem? (i := i) ?_
          rw [List.getElem?_take, if_pos (by omega)]
          exact ho
        have hop' : OpOk P ops Q T o a w := AllOps.mem _ hop o hmo a w ⟨hI.below, hI.still, fun e he hb o' t ho' hd => hI.done e.on o' t (haf e he hb) ho' hd⟩ hO
        have hOset : ∀ (v : Value) t, t ∉ (ops.toList.take L).filterMap (·.dst) → (a.put o.dst v).tmps.getD t undef = a0.tmps.getD t undef := fun v t ht => by
          cases hd : o.dst with
          | none => exact hO t ht
          | some u =>
            have hne : t ≠ u := fun h => ht (h ▸ List.mem_filterMap.mpr ⟨o, hmo, hd⟩)
            rw [put_get_ne hne]
            exact hO t ht
        have hset : ∀ {v : Value} {w' : World}, (∀ t, o.dst = some t → T t v w') → Below w.heap.size w w' → Tabbed ops T a0 w0 (s.setIfInBounds i true) (a.put o.dst v) w' := by
          intro v w' hv hb
          refine ⟨hI.below.trans (hb.mono hI.below.size), by rw [put_defers]; exact hI.defers, by rw [put_size]; exact hI.size, fun t ht => ?_, fun j oj t hj hoj hd => ?_⟩
          · cases hd : o.dst with
            | none => exact hI.still t ht
            | some u =>
              have hne : t ≠ u := fun h => ht (h ▸ dst_mem ho hd)
              rw [put_get_ne hne]
              exact hI.still t ht
          · by_cases hij : j = i
            · subst hij
              rw [ho] at hoj
              cases hoj
              rw [hd, put_get_self (by rw [hI.size]; exact hlt' t (dst_mem ho hd))]
              exact hv t hd
            · have hj' : s[j]? = some true := by
                rw [Array.getElem?_setIfInBounds, if_neg (fun h => hij h.symm)] at hj
                exact hj
              have h1 := hmono t _ w w' hb (hI.done j oj t hj' hoj hd)
              cases hd2 : o.dst with
              | none => exact h1
              | some u =>
                have hne : t ≠ u := fun h => hij (dst_inj ops.toList hnd j i oj o t (by rw [Array.getElem?_toList]; exact hoj) (by rw [Array.getElem?_toList]; exact ho) hd (h ▸ hd2))
                rw [put_get_ne hne]
                exact h1
        have hF' : ∀ j, L ≤ j → j < ops.size → (s.setIfInBounds i true)[j]? = some false := fun j hj hjs => by
          rw [Array.getElem?_setIfInBounds, if_neg (by omega)]
          exact hF j hj hjs
        unfold OpOk at hop'
        unfold wpOp
        rw [ho]
        dsimp only
        by_cases hw : Region.wanted o (yielded ops a.tmps) = true
        · rw [if_pos hw] at hop' ⊢
          refine hop'.imp (Oper.wp_mono ?_) (fun h => h)
          rintro a' w' ⟨v, rfl, hv, hb⟩
          exact ⟨hss, .inl ⟨hF', hOset v, hset hv hb⟩⟩
        · rw [if_neg hw] at hop' ⊢
          exact ⟨hss, .inl ⟨hF', hOset _, hset hop' (Below.refl _ _)⟩⟩
    · have him : m ≤ i := by
        rcases Nat.lt_or_ge i m with h | h
        · have h1 := hT i h
          rw [hsi] at h1
          cases h1
        · exact h
      have him2 : i = m := by
        rcases Nat.lt_or_ge m i with h | h
        · have h1 := reach_done hC 12 i (i - 1) o ho haf (ht2 i his (by omega))
          rw [hF (i - 1) (by omega) (by omega)] at h1
          cases h1
        · omega
      exact go m hLm (by omega) him2 hT hF hW
  · refine ⟨⟨by simp, fun i o h => ?_⟩, .inl ⟨fun i _ hi => ?_, fun _ _ => rfl, ⟨⟨rfl, rfl, rfl, Nat.le_refl _, fun _ _ => rfl⟩, rfl, rfl, fun _ _ => rfl, fun i o t h _ _ => ?_⟩⟩⟩
    · rw [Array.getElem?_replicate] at h
      split at h <;> simp at h
    · rw [Array.getElem?_replicate, if_pos hi]
    · rw [Array.getElem?_replicate] at h
      split at h <;> simp at h
end

end Go.Proofs.YthenjegmigeieaaGreat

/- A region by a table with a tail, in which one operation ahead of the tail changes what others of the table had made: what they say of it need hold only until then. -/
namespace Go.Proofs.YthenjegmigeieaaGreat
open Go.RowKit

/-- Of what does not wait for S, all that is written is early. -/
def earlyFine (ops : Array Oper) (S : Nat) (early : Nat → Bool) : Bool := (List.range ops.size).all fun i => i == S || reach ops 12 i S || ((ops[i]?).map fun o => (o.dst.map early).getD true).getD true
section
variable {P : Program} {ops : Array Oper} {Q : Exit → Act → World → Prop}
theorem wp_region_tailS (T T1 : Nat → Value → World → Prop) (L S : Nat) (early : Nat → Bool) {id : Nat} {a0 : Act} {w0 : World} (hL : L < ops.size) (htf : tailFine ops L = true) (hm : P.follows .mixedOrders = true)
    (hf : tabFine ops a0.tmps.size = true) (hear : earlyFine ops S early = true)
    (hmono : ∀ t v w w', Below w.heap.size w w' → T t v w → T t v w') (hmono1 : ∀ t v w w', Below w.heap.size w w' → T1 t v w → T1 t v w')
    (hmonoE : ∀ t v w w', early t = true → Below w0.heap.size w w' → T t v w → T t v w')
    (hop : AllOpsI (fun i o => ∀ a w, OpIn ops T a0 w0 o a w → (∀ t, t ∉ (ops.toList.take L).filterMap (·.dst) → a.tmps.getD t undef = a0.tmps.getD t undef) → if i = S then (OpIn ops T1 a0 w0 o a w → Region.wanted o (yielded ops a.tmps) = true ∧ o.wp P a w (fun a' w' => ∃ v, a' = a.put o.dst v ∧ (∀ t, o.dst = some t → T t v w') ∧ w.heap.size ≤ w'.heap.size ∧ Below w0.heap.size w w') Q) else OpOk P ops Q (fun t v w => T t v w ∧ T1 t v w) o a w) 0 (ops.toList.take L))
    (htail : ∀ a w, OpInT ops T a0 w0 L a w → (∀ t, t ∉ (ops.toList.take L).filterMap (·.dst) → a.tmps.getD t undef = a0.tmps.getD t undef) → wpOps P ops Q (List.range' L (ops.size - L)) a w) :
    (Code.region id ops true).wp P Q a0 w0 := by
  have hear' : ∀ (i : Nat) (o : Oper) (t : Nat), ops[i]? = some o → o.dst = some t → ¬ i = S → reach ops 12 i S = false → early t = true := fun i o t ho hd hne hr => by
    unfold earlyFine at hear
    have h := List.all_eq_true.mp hear i (List.mem_range.mpr (Array.getElem?_eq_some_iff.mp ho).1)
    rw [ho, hr] at h
    simp only [Option.map_some, Option.getD_some, hd, Bool.or_false, Bool.or_eq_true, beq_iff_eq] at h
    rcases h with h | h
    · exact absurd h hne
    · exact h
  unfold tailFine at htf
  rw [Bool.and_eq_true] at htf
  have ht1 : ∀ j, j < L → reach ops 12 L j = true := fun j hj => List.all_eq_true.mp htf.1 j (List.mem_range.mpr hj)
  have ht2 : ∀ i, i < ops.size → L < i → reach ops 12 i (i - 1) = true := fun i hi hLi => by
    have h := List.all_eq_true.mp htf.2 i (List.mem_range.mpr hi)
    rw [decide_eq_true hLi] at h
    simpa using h
  unfold tabFine at hf
  rw [Bool.and_eq_true, Bool.and_eq_true] at hf
  obtain ⟨⟨hnd, hlt⟩, hah⟩ := hf
  have hnd := of_decide_eq_true hnd
  have hlt' : ∀ t, t ∈ ops.toList.filterMap (·.dst) → t < a0.tmps.size := fun t ht => of_decide_eq_true (List.all_eq_true.mp hlt t ht)
  have hah' : ∀ (i : Nat) (o : Oper), ops[i]? = some o → ∀ e, e ∈ o.after → e.on < i := fun i o ho e he => by
    have hi : i < ops.size := (Array.getElem?_eq_some_iff.mp ho).1
    have h := List.all_eq_true.mp hah i (List.mem_range.mpr hi)
    rw [ho, Option.map_some, Option.getD_some] at h
    exact of_decide_eq_true (List.all_eq_true.mp h e (by simpa using he))
  refine wp_region_inv (fun s a w => (s.size = ops.size ∧ Closed ops s) ∧ (((∀ i, L ≤ i → i < ops.size → s[i]? = some false) ∧ (∀ t, t ∉ (ops.toList.take L).filterMap (·.dst) → a.tmps.getD t undef = a0.tmps.getD t undef) ∧ (s[S]? = some false → Tabbed ops T1 a0 w0 s a w) ∧ Tabbed ops T a0 w0 s a w) ∨
    (∃ m, L ≤ m ∧ m ≤ ops.size ∧ (∀ i, i < m → s[i]? = some true) ∧ (∀ i, m ≤ i → i < ops.size → s[i]? = some false) ∧ wpOps P ops Q (List.range' m (ops.size - m)) a w))) hm ?_ ?_ ?_
  · rintro s a w hr ⟨⟨hs, hC⟩, hI⟩
    have hall : ∀ n : Nat, n ≤ ops.size → ∀ i : Nat, i < n → s[i]? = some true := by
      intro n
      induction n with
      | zero => intro _ i hi; exact absurd hi (Nat.not_lt_zero _)
      | succ n ih =>
        intro hn i hi
        have ih := ih (by omega)
        by_cases hin : i < n
        · exact ih i hin
        · have hin : i = n := by omega
          subst hin
          cases hsi : s[i]? with
          | none => rw [Array.getElem?_eq_none_iff] at hsi; omega
          | some b =>
            cases b with
            | true => rfl
            | false =>
              exfalso
              have hio : i < ops.size := by omega
              have : i ∈ Region.ready .any ops s := by
                unfold Region.ready
                refine List.mem_filter.mpr ⟨List.mem_range.mpr hio, ?_⟩
                rw [Bool.and_eq_true]
                refine ⟨by simp [Array.getD_eq_getD_getElem?, hsi], ?_⟩
                have ho : ops[i]? = some ops[i] := Array.getElem?_eq_getElem hio
                rw [ho, Option.map_some, Option.getD_some, Array.all_eq_true_iff_forall_mem]
                intro e he
                have h1 := ih e.on (hah' i _ ho e he)
                simp [Array.getD_eq_getD_getElem?, h1]
              rw [hr] at this
              exact absurd this (by simp)
    have hd := hall ops.size (Nat.le_refl _)
    rcases hI with ⟨hF, _, _, _⟩ | ⟨m, _, hm1, _, hF, hW⟩
    · have h1 := hF L (Nat.le_refl _) hL
      rw [hd L hL] at h1
      cases h1
    · by_cases hme : m = ops.size
      · subst hme
        rw [Nat.sub_self] at hW
        exact hW
      · have h1 := hF m (Nat.le_refl _) (by omega)
        rw [hd m (by omega)] at h1
        cases h1
  · rintro s a w i hi ⟨⟨hs, hC⟩, hI⟩
    obtain ⟨hsi, o, ho, haf⟩ := ready_mem hi
    have his : i < ops.size := (Array.getElem?_eq_some_iff.mp ho).1
    have hup : ∀ j, s[j]? = some true → (s.setIfInBounds i true)[j]? = some true := fun j hj => by
      rw [Array.getElem?_setIfInBounds]
      by_cases hij : i = j
      · rw [if_pos hij, if_pos (by omega)]
      · rw [if_neg hij]; exact hj
    have hss : (s.setIfInBounds i true).size = ops.size ∧ Closed ops (s.setIfInBounds i true) := by
      refine ⟨by simp [hs], fun i' o' hi' ho' e he hb => ?_⟩
      by_cases hii : i = i'
      · subst hii
        rw [ho] at ho'
        cases ho'
        exact hup _ (haf e he hb)
      · rw [Array.getElem?_setIfInBounds, if_neg hii] at hi'
        exact hup _ (hC i' o' hi' ho' e he hb)
    have go : ∀ m, L ≤ m → m < ops.size → i = m → (∀ j, j < m → s[j]? = some true) → (∀ j, m ≤ j → j < ops.size → s[j]? = some false) → wpOps P ops Q (List.range' m (ops.size - m)) a w →
        wpOp P ops Q i (fun a' w' => ((s.setIfInBounds i true).size = ops.size ∧ Closed ops (s.setIfInBounds i true)) ∧ (((∀ j, L ≤ j → j < ops.size → (s.setIfInBounds i true)[j]? = some false) ∧ (∀ t, t ∉ (ops.toList.take L).filterMap (·.dst) → a'.tmps.getD t undef = a0.tmps.getD t undef) ∧ ((s.setIfInBounds i true)[S]? = some false → Tabbed ops T1 a0 w0 (s.setIfInBounds i true) a' w') ∧ Tabbed ops T a0 w0 (s.setIfInBounds i true) a' w') ∨
          (∃ m, L ≤ m ∧ m ≤ ops.size ∧ (∀ j, j < m → (s.setIfInBounds i true)[j]? = some true) ∧ (∀ j, m ≤ j → j < ops.size → (s.setIfInBounds i true)[j]? = some false) ∧ wpOps P ops Q (List.range' m (ops.size - m)) a' w'))) a w := by
      intro m hLm hms him hT hF hW
      subst him
      obtain ⟨d, hd⟩ : ∃ d, ops.size - i = d + 1 := ⟨ops.size - i - 1, by omega⟩
      rw [hd, List.range'_succ, wpOps_cons] at hW
      refine wpOp_mono (fun a' w' h' => ⟨hss, .inr ⟨i + 1, by omega, by omega, fun j hj => ?_, fun j hj hjs => ?_, ?_⟩⟩) hW
      · by_cases hji : j = i
        · subst hji
          rw [Array.getElem?_setIfInBounds, if_pos rfl, if_pos (by omega)]
        · exact hup j (hT j (by omega))
      · rw [Array.getElem?_setIfInBounds, if_neg (by omega)]
        exact hF j (by omega) hjs
      · rw [show ops.size - (i + 1) = d by omega]
        exact h'
    rcases hI with ⟨hF, hO, hI1, hI⟩ | ⟨m, hLm, hm1, hT, hF, hW⟩
    · by_cases hiL : L ≤ i
      · have hiL2 : i = L := by
          rcases Nat.lt_or_ge L i with h | h
          · have h1 := reach_done hC 12 i (i - 1) o ho haf (ht2 i his h)
            rw [hF (i - 1) (by omega) (by omega)] at h1
            cases h1
          · omega
        subst hiL2
        have hdn : ∀ j, j < i → s[j]? = some true := fun j hj => reach_done hC 12 i j o ho haf (ht1 j hj)
        exact go i (Nat.le_refl _) his rfl hdn (fun j hj hjs => hF j hj hjs) (htail a w ⟨hI.below, hI.defers, hI.size, hI.still, fun j oj t hj hoj hd => hI.done j oj t (hdn j hj) hoj hd⟩ hO)
      · have hmo : o ∈ ops.toList.take L := by
          rw [← Array.getElem?_toList] at ho
          refine List.mem_of_getElem? (i := i) ?_
          rw [List.getElem?_take, if_pos (by omega)]
          exact ho
        have hopI := AllOpsI.get _ 0 hop i o (by
          rw [List.getElem?_take, if_pos (by omega), Array.getElem?_toList]
          exact ho) a w ⟨hI.below, hI.still, fun e he hb o' t ho' hd => hI.done e.on o' t (haf e he hb) ho' hd⟩ hO
        rw [Nat.zero_add] at hopI
        have hOset : ∀ (v : Value) t, t ∉ (ops.toList.take L).filterMap (·.dst) → (a.put o.dst v).tmps.getD t undef = a0.tmps.getD t undef := fun v t ht => by
          cases hd : o.dst with
          | none => exact hO t ht
          | some u =>
            have hne : t ≠ u := fun h => ht (h ▸ List.mem_filterMap.mpr ⟨o, hmo, hd⟩)
            rw [put_get_ne hne]
            exact hO t ht
        have hset : ∀ {T : Nat → Value → World → Prop} {v : Value} {w' : World}, Tabbed ops T a0 w0 s a w → (∀ t, o.dst = some t → T t v w') → w.heap.size ≤ w'.heap.size → Below w0.heap.size w w' → (∀ (j : Nat) (oj : Oper) (t : Nat), s[j]? = some true → ops[j]? = some oj → oj.dst = some t → ∀ u, T t u w → T t u w') → Tabbed ops T a0 w0 (s.setIfInBounds i true) (a.put o.dst v) w' := by
          intro T v w' hI hv hsz hb hmono
          refine ⟨hI.below.trans hb, by rw [put_defers]; exact hI.defers, by rw [put_size]; exact hI.size, fun t ht => ?_, fun j oj t hj hoj hd => ?_⟩
          · cases hd : o.dst with
            | none => exact hI.still t ht
            | some u =>
              have hne : t ≠ u := fun h => ht (h ▸ dst_mem ho hd)
              rw [put_get_ne hne]
              exact hI.still t ht
          · by_cases hij : j = i
            · subst hij
              rw [ho] at hoj
              cases hoj
              rw [hd, put_get_self (by rw [hI.size]; exact hlt' t (dst_mem ho hd))]
              exact hv t hd
            · have hj' : s[j]? = some true := by
                rw [Array.getElem?_setIfInBounds, if_neg (fun h => hij h.symm)] at hj
                exact hj
              have h1 := hmono j oj t hj' hoj hd _ (hI.done j oj t hj' hoj hd)
              cases hd2 : o.dst with
              | none => exact h1
              | some u =>
                have hne : t ≠ u := fun h => hij (dst_inj ops.toList hnd j i oj o t (by rw [Array.getElem?_toList]; exact hoj) (by rw [Array.getElem?_toList]; exact ho) hd (h ▸ hd2))
                rw [put_get_ne hne]
                exact h1
        have hF' : ∀ j, L ≤ j → j < ops.size → (s.setIfInBounds i true)[j]? = some false := fun j hj hjs => by
          rw [Array.getElem?_setIfInBounds, if_neg (by omega)]
          exact hF j hj hjs
        by_cases hiS : i = S
        · rw [if_pos hiS] at hopI
          have hT1 := hI1 (by rw [← hiS]; exact hsi)
          obtain ⟨hw, hwp⟩ := hopI ⟨hT1.below, hT1.still, fun e he hb o' t ho' hd => hT1.done e.on o' t (haf e he hb) ho' hd⟩
          unfold wpOp
          rw [ho]
          dsimp only
          rw [if_pos hw]
          refine .inl (Oper.wp_mono ?_ hwp)
          rintro a' w' ⟨v, rfl, hv, hsz, hb⟩
          refine ⟨hss, .inl ⟨hF', hOset v, fun h => ?_, hset hI hv hsz hb (fun j oj t hj hoj hd u hu => ?_)⟩⟩
          · rw [hiS, Array.getElem?_setIfInBounds, if_pos rfl, if_pos (by omega)] at h
            cases h
          · have hjS : ¬ j = S := fun e => by rw [e, ← hiS, hsi] at hj; cases hj
            have hr : reach ops 12 j S = false := by
              cases hr : reach ops 12 j S with
              | false => rfl
              | true =>
                have h1 := reach_done hC 12 j S oj hoj (fun e he hb => hC j oj hj hoj e he hb) hr
                rw [← hiS, hsi] at h1
                cases h1
            exact hmonoE t u w w' (hear' j oj t hoj hd hjS hr) hb hu
        · rw [if_neg hiS] at hopI
          have hSs : (s.setIfInBounds i true)[S]? = some false → s[S]? = some false := fun h => by
            rw [Array.getElem?_setIfInBounds, if_neg hiS] at h
            exact h
          have hlow : ∀ {w' : World}, Below w.heap.size w w' → Below w0.heap.size w w' := fun hb => hb.mono hI.below.size
          unfold OpOk at hopI
          unfold wpOp
          rw [ho]
          dsimp only
          by_cases hw : Region.wanted o (yielded ops a.tmps) = true
          · rw [if_pos hw] at hopI ⊢
            refine hopI.imp (Oper.wp_mono ?_) (fun h => h)
            rintro a' w' ⟨v, rfl, hv, hb⟩
            exact ⟨hss, .inl ⟨hF', hOset v, fun h => hset (hI1 (hSs h)) (fun t ht => (hv t ht).2) hb.size (hlow hb) (fun _ _ t _ _ _ u hu => hmono1 t u w w' hb hu), hset hI (fun t ht => (hv t ht).1) hb.size (hlow hb) (fun _ _ t _ _ _ u hu => hmono t u w w' hb hu)⟩⟩
          · rw [if_neg hw] at hopI ⊢
            exact ⟨hss, .inl ⟨hF', hOset _, fun h => hset (hI1 (hSs h)) (fun t ht => (hopI t ht).2) (Nat.le_refl _) (hlow (Below.refl _ _)) (fun _ _ t _ _ _ u hu => hu), hset hI (fun t ht => (hopI t ht).1) (Nat.le_refl _) (hlow (Below.refl _ _)) (fun _ _ t _ _ _ u hu => hu)⟩⟩
    · have him : m ≤ i := by
        rcases Nat.lt_or_ge i m with h | h
        · have h1 := hT i h
          rw [hsi] at h1
          cases h1
        · exact h
      have him2 : i = m := by
        rcases Nat.lt_or_ge m i with h | h
        · have h1 := reach_done hC 12 i (i - 1) o ho haf (ht2 i his (by omega))
          rw [hF (i - 1) (by omega) (by omega)] at h1
          cases h1
        · omega
      exact go m hLm (by omega) him2 hT hF hW
  · refine ⟨⟨by simp, fun i o h => ?_⟩, .inl ⟨fun i _ hi => ?_, fun _ _ => rfl, fun _ => ⟨⟨rfl, rfl, rfl, Nat.le_refl _, fun _ _ => rfl⟩, rfl, rfl, fun _ _ => rfl, fun i o t h _ _ => ?_⟩, ⟨⟨rfl, rfl, rfl, Nat.le_refl _, fun _ _ => rfl⟩, rfl, rfl, fun _ _ => rfl, fun i o t h _ _ => ?_⟩⟩⟩
    · rw [Array.getElem?_replicate] at h
      split at h <;> simp at h
    · rw [Array.getElem?_replicate, if_pos hi]
    · rw [Array.getElem?_replicate] at h
      split at h <;> simp at h
    · rw [Array.getElem?_replicate] at h
      split at h <;> simp at h
end

end Go.Proofs.YthenjegmigeieaaGreat

