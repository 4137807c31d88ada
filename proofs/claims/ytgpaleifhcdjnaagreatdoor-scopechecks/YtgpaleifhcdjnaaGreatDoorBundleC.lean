/- Own texts, one behind the other (part 3). -/
import Derived.Test.YtgpaleifhcdjnaaGreatDoorBundleB
import Derived.Test.YtgpaleifhcdjnaaGreatDoorRows
import Derived.Test.YtgpaleifhcdjnaaGreatDoorCards
import Derived.Test.YtgpaleifhcdjnaaGreatDoorTie
import Derived.RegionTactic
import Derived.BigRegion
import Derived.Lib.AtoiBound
import Derived.Deep.OwnRows
import Derived.Maps.OwnSet
/- Package tree: terms that are right. -/
namespace Go.Proofs.YtgpaleifhcdjnaaGreatDoor
open Go.RowKit

set_option maxRecDepth 100000 in
set_option maxHeartbeats 400000 in
theorem termIsRight_any (t : Tr.Term) (w : World) : Calls Tryz.prog 140 #[termVal t] w fun e w' => e = .returned (.bool (Tr.termOk t)) ∧ Below w.heap.size w w' := by
  unfold Tr.termOk
  cases h1 : t.var.isEmpty
  · cases h2 : (t.n == 0)
    · go_enter Tryz.func140, Tryz.ntmps140
      go_wp2
      go_ret
      exact ⟨rfl, (Below.refl _ _).alloc (Nat.le_refl _) _⟩
    · go_enter Tryz.func140, Tryz.ntmps140
      go_wp2_with fail
      refine (isToken_any t.var 2 _).mono ?_
      rintro e w1 ⟨rfl, hb⟩
      go_wp2
      go_ret
      exact ⟨rfl, below_box hb⟩
  · unfold Tr.between
    by_cases h : -9999999 ≤ t.n
    · go_enter Tryz.func140, Tryz.ntmps140
      go_wp2
      go_ret
      exact ⟨by simp, (Below.refl _ _).alloc (Nat.le_refl _) _⟩
    · have hd : decide (-9999999 ≤ t.n) = false := by simpa using h
      go_enter Tryz.func140, Tryz.ntmps140
      go_wp2
      go_ret
      exact ⟨rfl, (Below.refl _ _).alloc (Nat.le_refl _) _⟩

set_option maxRecDepth 100000 in
set_option maxHeartbeats 400000 in
theorem termsAreRight_none (w : World) (ao : Option Addr) (cap : Nat) : Calls Tryz.prog 104 #[.slice ao 0 cap] w fun e w' => e = .returned (.bool true) ∧ Below w.heap.size w w' := by
  go_enter Tryz.func104, Tryz.ntmps104
  go_wp2_with fail
  refine wp_loop_rounds 1 ?_
  rw [rounds_succ]
  go_wp2_with fail
  go_ret
  exact ⟨rfl, Below.refl _ _⟩

set_option maxRecDepth 100000 in
set_option maxHeartbeats 400000 in
theorem termsAreRight_some (l : List Tr.Term) (w : World) (n b off cap : Nat) (hn : l.length = n) (hmax : n ≤ 140737488355328) (hA : ∀ i, i < n → TermIn w b (off + i * 2) (Tr.termD l i)) :
    Calls Tryz.prog 104 #[.slice (some ⟨b, off, none⟩) n cap] w fun e w' => e = .returned (.bool (Tr.termsOk l)) ∧ Below w.heap.size w w' := by
  have HN : Hid (l.length = n) := hn
  clear hn
  go_enter Tryz.func104, Tryz.ntmps104
  go_wp2_with fail
  go_loopw [7] (fun i wr => ∃ k : Nat, k ≤ n ∧ i = .int .i64 k ∧ Tr.termsOk l = (l.drop k).all Tr.termOk ∧ Below w.heap.size w wr) (fun i _ => n - (intOf i).toNat)
  case atStart => exact ⟨0, Nat.zero_le _, rfl, rfl, Below.refl _ _⟩
  case round =>
    obtain ⟨k, hk, rfl, hall, hbel⟩ := hrel
    have HA : Hid (Tr.termsOk l = (l.drop k).all Tr.termOk) := hall
    clear hall
    by_cases hlt : k < n
    · obtain ⟨a0, a1⟩ := hA k hlt
      have hbw : b < w.heap.size := World.block_lt_of_cell? w _ a0
      have a0' := (hbel.cell (p := ⟨b, off + k * 2, none⟩) hbw).trans a0
      have a1' := (hbel.cell (p := ⟨b, off + k * 2 + 1, none⟩) hbw).trans a1
      have HD : Hid (Tr.termsOk l = (Tr.termOk (Tr.termD l k) && (l.drop (k + 1)).all Tr.termOk)) := HA.out.trans (all_drop _ _ _ k (by rw [HN.out]; exact hlt))
      clear a0 a1 hA HA
      generalize Tr.termD l k = t at *
      cases hT : Tr.termOk t
      · have HV : Hid (Tr.termsOk l = false) := by show _ = _; rw [HD.out, hT]; rfl
        go_wp2_with fail
        refine (termIsRight_any t _).mono ?_
        rintro e w1 ⟨he, hb1⟩
        rw [hT] at he
        subst he
        have hb2 := hbel.trans ((below_box hb1).mono hbel.size)
        go_wp2_with fail
        go_ret
        exact ⟨ret_bool HV.out.symm, hb2⟩
      · have HV : Hid (Tr.termsOk l = (l.drop (k + 1)).all Tr.termOk) := by show _ = _; rw [HD.out, hT]; rfl
        go_wp2_with fail
        refine (termIsRight_any t _).mono ?_
        rintro e w1 ⟨he, hb1⟩
        rw [hT] at he
        subst he
        have hb2 := hbel.trans ((below_box hb1).mono hbel.size)
        clear hb1 hT HD
        go_wp2_with fail
        go_roundw
        case rel => exact ⟨k + 1, by omega, by go_num, HV.out, hb2⟩
        case measure => simp [intOf]; omega
    · have HV : Hid (Tr.termsOk l = true) := by show _ = _; rw [HA.out, List.drop_of_length_le (by rw [HN.out]; omega)]; rfl
      clear hA
      go_wp2_with fail
      go_ret
      exact ⟨ret_bool HV.out.symm, hbel⟩

theorem termsAreRight_any (l : List Tr.Term) (v : Value) (w : World) (hmax : l.length ≤ 140737488355328) (hA : TermsV w v l) :
    Calls Tryz.prog 104 #[v] w fun e w' => e = .returned (.bool (Tr.termsOk l)) ∧ Below w.heap.size w w' := by
  obtain ⟨ao, cap, rfl, hA⟩ := hA
  rcases hA with rfl | ⟨b, off, rfl, hA⟩
  · exact termsAreRight_none w ao cap
  · exact termsAreRight_some l w l.length b off cap rfl hmax hA

end Go.Proofs.YtgpaleifhcdjnaaGreatDoor

/- Package tree: literals and rules that are right. -/
namespace Go.Proofs.YtgpaleifhcdjnaaGreatDoor
open Go.RowKit

abbrev litObj (x : Tr.Lit) (v : Value) : Obj := .cells #[.int .i64 x.kind, .int .i64 x.at_, .int .i64 x.op, .string ⟨x.name.toArray⟩, v] 61
abbrev ruleObj (r : Tr.Rule) (v u : Value) : Obj := .cells #[.int .i64 r.at_, .string ⟨r.name.toArray⟩, v, .int .i64 r.fold, u] 57

theorem litBox {w w1 : World} {x : Tr.Lit} {v : Value} (hb : Below (w.alloc (litObj x v)).heap.size (w.alloc (litObj x v)) w1) :
    w1.cell? ⟨w.heap.size, 0, none⟩ = some (.int .i64 x.kind) ∧ w1.cell? ⟨w.heap.size, 1, none⟩ = some (.int .i64 x.at_) ∧ w1.cell? ⟨w.heap.size, 2, none⟩ = some (.int .i64 x.op) ∧
    w1.cell? ⟨w.heap.size, 3, none⟩ = some (.string ⟨x.name.toArray⟩) ∧ w1.cell? ⟨w.heap.size, 4, none⟩ = some v := by
  obtain ⟨hc, hf⟩ := bcell hb
  have h : w.heap.size < (w.alloc (litObj x v)).heap.size := by simp
  refine ⟨?_, ?_, ?_, ?_, ?_⟩
  · rw [hc _ _ h]; simp [go_sem]
  · rw [hc _ _ h]; simp [go_sem]
  · rw [hc _ _ h]; simp [go_sem]
  · rw [hc _ _ h]; simp [go_sem]
  · rw [hc _ _ h]; simp [go_sem]
theorem ruleBox {w w1 : World} {r : Tr.Rule} {v u : Value} (hb : Below (w.alloc (ruleObj r v u)).heap.size (w.alloc (ruleObj r v u)) w1) :
    w1.cell? ⟨w.heap.size, 0, none⟩ = some (.int .i64 r.at_) ∧ w1.cell? ⟨w.heap.size, 1, none⟩ = some (.string ⟨r.name.toArray⟩) ∧ w1.cell? ⟨w.heap.size, 2, none⟩ = some v ∧
    w1.cell? ⟨w.heap.size, 3, none⟩ = some (.int .i64 r.fold) ∧ w1.cell? ⟨w.heap.size, 4, none⟩ = some u := by
  obtain ⟨hc, hf⟩ := bcell hb
  have h : w.heap.size < (w.alloc (ruleObj r v u)).heap.size := by simp
  refine ⟨?_, ?_, ?_, ?_, ?_⟩
  · rw [hc _ _ h]; simp [go_sem]
  · rw [hc _ _ h]; simp [go_sem]
  · rw [hc _ _ h]; simp [go_sem]
  · rw [hc _ _ h]; simp [go_sem]
  · rw [hc _ _ h]; simp [go_sem]
theorem below_alloc (w : World) (o : Obj) : Below w.heap.size w (w.alloc o) := (Below.refl _ _).alloc (Nat.le_refl _) _

set_option maxRecDepth 100000 in
set_option maxHeartbeats 1000000 in
theorem litIsRight_any (x : Tr.Lit) (v : Value) (w : World) (hmax : x.terms.length ≤ 140737488355328) (hA : TermsV w v x.terms) :
    Calls Tryz.prog 106 #[litVal x v] w fun e w' => e = .returned (.bool (Tr.litOk x)) ∧ Below w.heap.size w w' := by
  have HC : Hid (_) := termsAreRight_any x.terms v (w.alloc (litObj x v)) hmax (termsV_below hA (below_alloc _ _))
  obtain ⟨ao, cap, rfl, _⟩ := hA
  have HV : Hid (Tr.litOk x = (Tr.termsOk x.terms && (if x.kind = 1 ∨ x.kind = 2 then (x.op == 0) && Tr.isName x.name
    else if x.kind = 3 then Tr.between x.op 1 4 && x.name.isEmpty && ((x.terms.length : Int) == 2)
    else if x.kind = 4 then Tr.between x.op 5 7 && x.name.isEmpty && ((x.terms.length : Int) == 3) else false))) := rfl
  generalize Tr.litOk x = V at *
  cases hT : Tr.termsOk x.terms
  · have HF : Hid (V = false) := by show _ = _; rw [HV.out, hT]; rfl
    clear HV
    go_enter Tryz.func106, Tryz.ntmps106
    go_wp2_with fail
    refine Calls.mono HC.out ?_
    rintro e w1 ⟨he, hb⟩
    rw [hT] at he
    subst he
    go_wp2_with fail
    go_ret
    exact ⟨ret_bool HF.out.symm, below_box hb⟩
  · rw [hT, Bool.true_and] at HV
    by_cases k12 : x.kind = 1 ∨ x.kind = 2
    · rw [if_pos k12] at HV
      cases g0 : (x.op == 0)
      · have HF : Hid (V = false) := by show _ = _; rw [HV.out, g0]; rfl
        clear HV
        rcases k12 with k1 | k2
        · have t1 : (x.kind == 1) = true := beq_iff_eq.2 k1
          clear k1
          go_enter Tryz.func106, Tryz.ntmps106
          go_wp2_with fail
          refine Calls.mono HC.out ?_
          rintro e w1 ⟨he, hb⟩
          rw [hT] at he
          subst he
          obtain ⟨c0, c1, c2, c3, c4⟩ := litBox hb
          go_wp2_with fail
          go_ret
          exact ⟨ret_bool HF.out.symm, below_box hb⟩
        · have t1 : (x.kind == 1) = false := beq_eq_false_iff_ne.2 (by omega)
          have t2 : (x.kind == 2) = true := beq_iff_eq.2 k2
          clear k2
          go_enter Tryz.func106, Tryz.ntmps106
          go_wp2_with fail
          refine Calls.mono HC.out ?_
          rintro e w1 ⟨he, hb⟩
          rw [hT] at he
          subst he
          obtain ⟨c0, c1, c2, c3, c4⟩ := litBox hb
          go_wp2_with fail
          go_ret
          exact ⟨ret_bool HF.out.symm, below_box hb⟩
      · have HF : Hid (V = Tr.isName x.name) := by show _ = _; rw [HV.out, g0]; rfl
        clear HV
        rcases k12 with k1 | k2
        · have t1 : (x.kind == 1) = true := beq_iff_eq.2 k1
          clear k1
          go_enter Tryz.func106, Tryz.ntmps106
          go_wp2_with fail
          refine Calls.mono HC.out ?_
          rintro e w1 ⟨he, hb⟩
          rw [hT] at he
          subst he
          obtain ⟨c0, c1, c2, c3, c4⟩ := litBox hb
          go_wp2_with fail
          refine (isName_any x.name _).mono ?_
          rintro e w2 ⟨rfl, hb2⟩
          go_wp2_with fail
          go_ret
          exact ⟨ret_bool HF.out.symm, (below_box hb).trans (hb2.mono (below_box hb).size)⟩
        · have t1 : (x.kind == 1) = false := beq_eq_false_iff_ne.2 (by omega)
          have t2 : (x.kind == 2) = true := beq_iff_eq.2 k2
          clear k2
          go_enter Tryz.func106, Tryz.ntmps106
          go_wp2_with fail
          refine Calls.mono HC.out ?_
          rintro e w1 ⟨he, hb⟩
          rw [hT] at he
          subst he
          obtain ⟨c0, c1, c2, c3, c4⟩ := litBox hb
          go_wp2_with fail
          refine (isName_any x.name _).mono ?_
          rintro e w2 ⟨rfl, hb2⟩
          go_wp2_with fail
          go_ret
          exact ⟨ret_bool HF.out.symm, (below_box hb).trans (hb2.mono (below_box hb).size)⟩
    · rw [if_neg k12] at HV
      have t1 : (x.kind == 1) = false := beq_eq_false_iff_ne.2 (fun h => k12 (.inl h))
      have t2 : (x.kind == 2) = false := beq_eq_false_iff_ne.2 (fun h => k12 (.inr h))
      clear k12
      by_cases k3 : x.kind = 3
      · rw [if_pos k3] at HV
        have t3 : (x.kind == 3) = true := beq_iff_eq.2 k3
        clear k3
        cases g0 : Tr.between x.op 1 4
        · have HF : Hid (V = false) := by show _ = _; rw [HV.out, g0]; rfl
          clear HV
          go_enter Tryz.func106, Tryz.ntmps106
          go_wp2_with fail
          refine Calls.mono HC.out ?_
          rintro e w1 ⟨he, hb⟩
          rw [hT] at he
          subst he
          obtain ⟨c0, c1, c2, c3, c4⟩ := litBox hb
          go_wp2_with (go_at_call 141; refine (isTest_any _ _).mono ?_; rintro e w' ⟨rfl, rfl⟩)
          go_ret
          exact ⟨ret_bool HF.out.symm, below_box hb⟩
        · cases g1 : x.name.isEmpty
          · have HF : Hid (V = false) := by show _ = _; rw [HV.out, g1]; simp
            clear HV
            go_enter Tryz.func106, Tryz.ntmps106
            go_wp2_with fail
            refine Calls.mono HC.out ?_
            rintro e w1 ⟨he, hb⟩
            rw [hT] at he
            subst he
            obtain ⟨c0, c1, c2, c3, c4⟩ := litBox hb
            go_wp2_with (go_at_call 141; refine (isTest_any _ _).mono ?_; rintro e w' ⟨rfl, rfl⟩)
            go_ret
            exact ⟨ret_bool HF.out.symm, below_box hb⟩
          · have HF : Hid (V = ((x.terms.length : Int) == 2)) := by show _ = _; rw [HV.out, g0, g1]; rfl
            clear HV
            go_enter Tryz.func106, Tryz.ntmps106
            go_wp2_with fail
            refine Calls.mono HC.out ?_
            rintro e w1 ⟨he, hb⟩
            rw [hT] at he
            subst he
            obtain ⟨c0, c1, c2, c3, c4⟩ := litBox hb
            go_wp2_with (go_at_call 141; refine (isTest_any _ _).mono ?_; rintro e w' ⟨rfl, rfl⟩)
            go_ret
            exact ⟨ret_bool HF.out.symm, below_box hb⟩
      · rw [if_neg k3] at HV
        have t3 : (x.kind == 3) = false := beq_eq_false_iff_ne.2 k3
        clear k3
        by_cases k4 : x.kind = 4
        · rw [if_pos k4] at HV
          have t4 : (x.kind == 4) = true := beq_iff_eq.2 k4
          clear k4
          cases g0 : Tr.between x.op 5 7
          · have HF : Hid (V = false) := by show _ = _; rw [HV.out, g0]; rfl
            clear HV
            go_enter Tryz.func106, Tryz.ntmps106
            go_wp2_with fail
            refine Calls.mono HC.out ?_
            rintro e w1 ⟨he, hb⟩
            rw [hT] at he
            subst he
            obtain ⟨c0, c1, c2, c3, c4⟩ := litBox hb
            go_wp2_with (go_at_call 142; refine (isCalc_any _ _).mono ?_; rintro e w' ⟨rfl, rfl⟩)
            go_ret
            exact ⟨ret_bool HF.out.symm, below_box hb⟩
          · cases g1 : x.name.isEmpty
            · have HF : Hid (V = false) := by show _ = _; rw [HV.out, g1]; simp
              clear HV
              go_enter Tryz.func106, Tryz.ntmps106
              go_wp2_with fail
              refine Calls.mono HC.out ?_
              rintro e w1 ⟨he, hb⟩
              rw [hT] at he
              subst he
              obtain ⟨c0, c1, c2, c3, c4⟩ := litBox hb
              go_wp2_with (go_at_call 142; refine (isCalc_any _ _).mono ?_; rintro e w' ⟨rfl, rfl⟩)
              go_ret
              exact ⟨ret_bool HF.out.symm, below_box hb⟩
            · have HF : Hid (V = ((x.terms.length : Int) == 3)) := by show _ = _; rw [HV.out, g0, g1]; rfl
              clear HV
              go_enter Tryz.func106, Tryz.ntmps106
              go_wp2_with fail
              refine Calls.mono HC.out ?_
              rintro e w1 ⟨he, hb⟩
              rw [hT] at he
              subst he
              obtain ⟨c0, c1, c2, c3, c4⟩ := litBox hb
              go_wp2_with (go_at_call 142; refine (isCalc_any _ _).mono ?_; rintro e w' ⟨rfl, rfl⟩)
              go_ret
              exact ⟨ret_bool HF.out.symm, below_box hb⟩
        · rw [if_neg k4] at HV
          have t4 : (x.kind == 4) = false := beq_eq_false_iff_ne.2 k4
          have HF : Hid (V = false) := HV.out
          clear k4 HV
          go_enter Tryz.func106, Tryz.ntmps106
          go_wp2_with fail
          refine Calls.mono HC.out ?_
          rintro e w1 ⟨he, hb⟩
          rw [hT] at he
          subst he
          obtain ⟨c0, c1, c2, c3, c4⟩ := litBox hb
          go_wp2_with fail
          go_ret
          exact ⟨ret_bool HF.out.symm, below_box hb⟩

set_option maxRecDepth 100000 in
set_option maxHeartbeats 1000000 in
theorem foldIsRight_any (r : Tr.Rule) (ao bo : Option Addr) (ca cb : Nat) (w : World) :
    Calls Tryz.prog 105 #[ruleVal r (.slice ao r.terms.length ca) (.slice bo r.body.length cb)] w fun e w' => e = .returned (.bool (Tr.foldOk r.fold r.terms.length r.body.length)) ∧ Below w.heap.size w w' := by
  have HV : Hid (Tr.foldOk r.fold r.terms.length r.body.length = ((r.fold == 0) || (decide (1 ≤ r.fold) && decide (r.fold ≤ 4) && decide (0 < r.terms.length) && decide (0 < r.body.length)))) := rfl
  generalize Tr.foldOk r.fold r.terms.length r.body.length = V at *
  cases g0 : (r.fold == 0)
  · cases g1 : decide (1 ≤ r.fold)
    · have HF : Hid (V = false) := by show _ = _; rw [HV.out, g0, g1]; rfl
      clear HV
      go_enter Tryz.func105, Tryz.ntmps105
      go_wp2
      go_ret
      exact ⟨ret_bool HF.out.symm, below_alloc _ _⟩
    · cases g2 : decide (r.fold ≤ 4)
      · have HF : Hid (V = false) := by show _ = _; rw [HV.out, g0, g1, g2]; rfl
        clear HV
        go_enter Tryz.func105, Tryz.ntmps105
        go_wp2
        go_ret
        exact ⟨ret_bool HF.out.symm, below_alloc _ _⟩
      · cases g3 : decide (0 < r.terms.length)
        · have HF : Hid (V = false) := by show _ = _; rw [HV.out, g0, g1, g2, g3]; rfl
          clear HV
          go_enter Tryz.func105, Tryz.ntmps105
          go_wp2
          go_ret
          exact ⟨ret_bool HF.out.symm, below_alloc _ _⟩
        · have HF : Hid (V = decide (0 < r.body.length)) := by show _ = _; rw [HV.out, g0, g1, g2, g3]; rfl
          clear HV
          go_enter Tryz.func105, Tryz.ntmps105
          go_wp2
          go_ret
          exact ⟨ret_bool (by rw [HF.out]), below_alloc _ _⟩
  · have HF : Hid (V = true) := by show _ = _; rw [HV.out, g0]; rfl
    clear HV
    go_enter Tryz.func105, Tryz.ntmps105
    go_wp2
    go_ret
    exact ⟨ret_bool HF.out.symm, below_alloc _ _⟩

end Go.Proofs.YtgpaleifhcdjnaaGreatDoor

/- Package tree: rules, and what is too many. -/
namespace Go.Proofs.YtgpaleifhcdjnaaGreatDoor
open Go.RowKit

/-- Terms of literals are not too many to count. -/
def Fits (l : List Tr.Lit) : Prop := ∀ i, i < l.length → (Tr.litD l i).terms.length ≤ 140737488355328

set_option maxRecDepth 100000 in
set_option maxHeartbeats 2000000 in
theorem ruleIsRight_any (r : Tr.Rule) (v u : Value) (w : World) (hm1 : r.terms.length ≤ 140737488355328) (hm2 : r.body.length ≤ 140737488355328) (hm3 : Fits r.body) (hA : TermsV w v r.terms) (hB : LitsV w u r.body) :
    Calls Tryz.prog 74 #[ruleVal r v u] w fun e w' => e = .returned (.bool (Tr.ruleOk r)) ∧ Below w.heap.size w w' := by
  have hA0 := termsV_below hA (below_alloc w (ruleObj r v u))
  have hB0 := litsV_below hB (below_alloc w (ruleObj r v u))
  obtain ⟨ao, ca, rfl, _⟩ := hA
  obtain ⟨bo, cb, rfl, _⟩ := hB
  have HV : Hid (Tr.ruleOk r = (Tr.isName r.name && Tr.termsOk r.terms && Tr.foldOk r.fold r.terms.length r.body.length && Tr.litsOk r.body)) := rfl
  generalize Tr.ruleOk r = V at *
  go_enter Tryz.func74, Tryz.ntmps74
  go_wp2_with fail
  refine (isName_any r.name _).mono ?_
  rintro e w1 ⟨he, hb1⟩
  have hbel1 : Below w.heap.size w w1 := below_box hb1
  obtain ⟨c0, c1, c2, c3, c4⟩ := ruleBox hb1
  have hA1 := termsV_below hA0 hb1
  have hB1 := litsV_below hB0 hb1
  cases g1 : Tr.isName r.name
  · have HF : Hid (V = false) := by show _ = _; rw [HV.out, g1]; rfl
    rw [g1] at he
    subst he
    clear HV hA0 hB0 hA1 hB1
    go_wp2_with fail
    go_ret
    exact ⟨ret_bool HF.out.symm, hbel1⟩
  · rw [g1] at he
    subst he
    go_wp2_with fail
    refine (termsAreRight_any r.terms _ _ hm1 hA1).mono ?_
    rintro e w2 ⟨he, hb2⟩
    have hbel2 := hbel1.trans (hb2.mono hbel1.size)
    have hB2 := litsV_below hB1 hb2
    have c0 := cell_below hb2 c0
    have c1 := cell_below hb2 c1
    have c2 := cell_below hb2 c2
    have c3 := cell_below hb2 c3
    have c4 := cell_below hb2 c4
    clear hA0 hB0 hA1 hB1
    cases g2 : Tr.termsOk r.terms
    · have HF : Hid (V = false) := by show _ = _; rw [HV.out, g2]; simp
      rw [g2] at he
      subst he
      go_wp2_with fail
      go_ret
      exact ⟨ret_bool HF.out.symm, hbel2⟩
    · rw [g2] at he
      subst he
      go_wp2_with fail
      refine (foldIsRight_any r ao bo ca cb _).mono ?_
      rintro e w3 ⟨he, hb3⟩
      have hbel3 := hbel2.trans (hb3.mono hbel2.size)
      have hB3 := litsV_below hB2 hb3
      have c4 := cell_below hb3 c4
      cases g3 : Tr.foldOk r.fold r.terms.length r.body.length
      · have HF : Hid (V = false) := by show _ = _; rw [HV.out, g3]; simp
        rw [g3] at he
        subst he
        go_wp2_with fail
        go_ret
        exact ⟨ret_bool HF.out.symm, hbel3⟩
      · rw [g3] at he
        subst he
        have HW : Hid (V = Tr.litsOk r.body) := by show _ = _; rw [HV.out, g1, g2, g3]; rfl
        clear HV g1 g2 g3 hb1 hb2 hb3 hB2 hbel1 hbel2
        go_wp2_with fail
        go_loopw [23] (fun i wr => ∃ k : Nat, k ≤ r.body.length ∧ i = .int .i64 k ∧ Tr.litsOk r.body = (r.body.drop k).all Tr.litOk ∧ Below w3.heap.size w3 wr) (fun i _ => r.body.length - (intOf i).toNat)
        case atStart => exact ⟨0, Nat.zero_le _, rfl, rfl, Below.refl _ _⟩
        case round =>
          obtain ⟨k, hk, rfl, hall, hbelr⟩ := hrel
          have HA : Hid (Tr.litsOk r.body = (r.body.drop k).all Tr.litOk) := hall
          clear hall
          by_cases hlt : k < r.body.length
          · obtain ⟨bo', cb', hv, hL⟩ := litsV_below hB3 hbelr
            rcases hL with h | ⟨b, off, rfl, hc⟩
            · rw [h] at hlt; exact absurd hlt (by simp)
            injection hv with e1 _ e3
            subst e1 e3
            obtain ⟨a0, a1, a2, a3, v4, a4, hT⟩ := hc k hlt
            have HD : Hid (Tr.litsOk r.body = (Tr.litOk (Tr.litD r.body k) && (r.body.drop (k + 1)).all Tr.litOk)) := HA.out.trans (all_drop _ _ _ k hlt)
            have hfit := hm3 k hlt
            clear hc HA hB3
            generalize Tr.litD r.body k = x at *
            have HC : Hid (_) := litIsRight_any x v4 (wr.alloc (litObj x v4)) hfit (termsV_below hT (below_alloc _ _))
            obtain ⟨ao4, ca4, rfl, _⟩ := hT
            cases g : Tr.litOk x
            · have HF : Hid (V = false) := by show _ = _; rw [HW.out, HD.out, g]; rfl
              clear HD HW
              go_wp2_with fail
              refine Calls.mono HC.out ?_
              rintro e w4 ⟨he, hb4⟩
              rw [g] at he
              subst he
              have hbel4 := hbel3.trans ((hbelr.trans ((below_box hb4).mono hbelr.size)).mono hbel3.size)
              go_wp2_with fail
              go_ret
              exact ⟨ret_bool HF.out.symm, hbel4⟩
            · have HN : Hid (Tr.litsOk r.body = (r.body.drop (k + 1)).all Tr.litOk) := by show _ = _; rw [HD.out, g]; rfl
              clear HD
              go_wp2_with fail
              refine Calls.mono HC.out ?_
              rintro e w4 ⟨he, hb4⟩
              rw [g] at he
              subst he
              have hbel4 := hbelr.trans ((below_box hb4).mono hbelr.size)
              clear hb4 HC g a0 a1 a2 a3 a4
              go_wp2_with fail
              go_roundw
              case rel => exact ⟨k + 1, by omega, by go_num, HN.out, hbel4⟩
              case measure => simp [intOf]; omega
          · have HF : Hid (V = true) := by show _ = _; rw [HW.out, HA.out, List.drop_of_length_le (by omega)]; rfl
            have hbel4 := hbel3.trans (hbelr.mono hbel3.size)
            clear hB3 HA
            go_wp2_with fail
            go_ret
            exact ⟨ret_bool HF.out.symm, hbel4⟩

end Go.Proofs.YtgpaleifhcdjnaaGreatDoor

/- Package tree: Check. -/
namespace Go.Proofs.YtgpaleifhcdjnaaGreatDoor
open Go.RowKit

abbrev treeVal (v : Value) : Value := .agg #[v]

set_option maxRecDepth 100000 in
set_option maxHeartbeats 2000000 in
theorem tooMany_any (l : List Tr.Rule) (v : Value) (w : World) (hA : RulesV w v l) :
    Calls Tryz.prog 73 #[treeVal v] w fun e w' => e = .returned (.bool (Tr.many l)) ∧ Below w.heap.size w w' := by
  have hA0 := rulesV_below hA (below_alloc w (.cells #[v] 36))
  have hbel0 := below_alloc w (.cells #[v] 36)
  obtain ⟨ao, ca, rfl, _⟩ := hA
  by_cases h12 : 12 < l.length
  · have HF : Hid (Tr.many l = true) := by show _ = _; unfold Tr.many; rw [decide_eq_true h12]; rfl
    go_enter Tryz.func73, Tryz.ntmps73
    go_wp2_with fail
    go_ret
    exact ⟨ret_bool HF.out.symm, hbel0⟩
  · have HV : Hid (Tr.many l = l.any Tr.ruleMany) := by show _ = _; unfold Tr.many; rw [decide_eq_false h12]; rfl
    go_enter Tryz.func73, Tryz.ntmps73
    go_wp2_with fail
    generalize (w.alloc (.cells #[.slice ao l.length ca] 36)) = w0 at *
    go_loopw [14] (fun i wr => ∃ k : Nat, k ≤ l.length ∧ i = .int .i64 k ∧ Tr.many l = (l.drop k).any Tr.ruleMany ∧ Below w0.heap.size w0 wr) (fun i _ => l.length - (intOf i).toNat)
    case atStart => exact ⟨0, Nat.zero_le _, rfl, HV.out, Below.refl _ _⟩
    case round =>
      obtain ⟨k, hk, rfl, hany, hbelr⟩ := hrel
      have HA : Hid (Tr.many l = (l.drop k).any Tr.ruleMany) := hany
      clear hany HV
      by_cases hlt : k < l.length
      · obtain ⟨ao', ca', hv, hR⟩ := rulesV_below hA0 hbelr
        rcases hR with h | ⟨b, off, rfl, hc⟩
        · rw [h] at hlt; exact absurd hlt (by simp)
        injection hv with e1 _ e3
        subst e1 e3
        obtain ⟨a0, a1, ⟨v2, a2, hT⟩, a3, v4, a4, hL⟩ := hc k hlt
        have HD : Hid (Tr.many l = (Tr.ruleMany (Tr.ruleD l k) || (l.drop (k + 1)).any Tr.ruleMany)) := HA.out.trans (any_drop _ _ _ k hlt)
        clear hc HA
        generalize Tr.ruleD l k = r at *
        have hL0 := litsV_below hL (below_alloc wr (ruleObj r v2 v4))
        have hbel1 : Below w.heap.size w (wr.alloc (ruleObj r v2 v4)) := (hbel0.trans (hbelr.mono hbel0.size)).trans ((below_alloc wr _).mono (hbel0.trans (hbelr.mono hbel0.size)).size)
        have hbelr1 : Below w0.heap.size w0 (wr.alloc (ruleObj r v2 v4)) := hbelr.trans ((below_alloc wr _).mono hbelr.size)
        obtain ⟨ao2, ca2, rfl, _⟩ := hT
        obtain ⟨ao4, ca4, rfl, _⟩ := hL
        by_cases h4 : 4 < r.body.length
        rotate_left
        · have g1 : decide ((4 : Int) < (r.body.length : Int)) = false := decide_eq_false (by omega)
          by_cases h3 : 3 < r.terms.length
          rotate_left
          · have g2 : decide ((3 : Int) < (r.terms.length : Int)) = false := decide_eq_false (by omega)
            have HM : Hid (Tr.ruleMany r = Tr.litsMany r.body) := by show _ = _; unfold Tr.ruleMany; rw [decide_eq_false h4, decide_eq_false h3]; rfl
            go_wp2_with fail
            generalize (wr.alloc (ruleObj r (.slice ao2 r.terms.length ca2) (.slice ao4 r.body.length ca4))) = w1 at *
            go_loopw [31] (fun i wq => ∃ j : Nat, j ≤ r.body.length ∧ i = .int .i64 j ∧ Tr.litsMany r.body = (r.body.drop j).any (fun x => decide (3 < x.terms.length)) ∧ Below w1.heap.size w1 wq) (fun i _ => r.body.length - (intOf i).toNat)
            case atStart => exact ⟨0, Nat.zero_le _, rfl, rfl, Below.refl _ _⟩
            case round =>
              obtain ⟨j, hj, rfl, hany, hbelq⟩ := hrel
              have HB : Hid (Tr.litsMany r.body = (r.body.drop j).any (fun x => decide (3 < x.terms.length))) := hany
              clear hany
              by_cases hltj : j < r.body.length
              · obtain ⟨bo', cb', hv, hL⟩ := litsV_below hL0 hbelq
                rcases hL with h | ⟨b2, off2, rfl, hc⟩
                · rw [h] at hltj; exact absurd hltj (by simp)
                injection hv with e1 _ e3
                subst e1 e3
                obtain ⟨q0, q1, q2, q3, u4, q4, hT⟩ := hc j hltj
                have HE : Hid (Tr.litsMany r.body = (decide (3 < (Tr.litD r.body j).terms.length) || (r.body.drop (j + 1)).any (fun x => decide (3 < x.terms.length)))) := HB.out.trans (any_drop _ _ _ j hltj)
                clear hc HB hL0 hA0
                generalize Tr.litD r.body j = x at *
                obtain ⟨ao5, ca5, rfl, _⟩ := hT
                by_cases hx : 3 < x.terms.length
                rotate_left
                · have g : decide ((3 : Int) < (x.terms.length : Int)) = false := decide_eq_false (by omega)
                  have HN : Hid (Tr.litsMany r.body = (r.body.drop (j + 1)).any (fun x => decide (3 < x.terms.length))) := by show _ = _; rw [HE.out, decide_eq_false hx]; rfl
                  have hbq := hbelq.trans ((below_alloc _ (litObj x (.slice ao5 x.terms.length ca5))).mono hbelq.size)
                  clear HE
                  go_wp2_with fail
                  go_roundw
                  case rel => exact ⟨j + 1, by omega, by go_num, HN.out, hbq⟩
                  case measure => simp [intOf]; omega
                · have g : decide ((3 : Int) < (x.terms.length : Int)) = true := decide_eq_true (by omega)
                  have HF : Hid (Tr.many l = true) := by show _ = _; rw [HD.out, HM.out, HE.out, decide_eq_true hx]; rfl
                  have hbq := hbel1.trans ((hbelq.trans ((below_alloc _ (litObj x (.slice ao5 x.terms.length ca5))).mono hbelq.size)).mono hbel1.size)
                  clear HE HD HM
                  go_wp2_with fail
                  go_ret
                  exact ⟨ret_bool HF.out.symm, hbq⟩
              · have HN : Hid (Tr.many l = (l.drop (k + 1)).any Tr.ruleMany) := by
                  show _ = _
                  rw [HD.out, HM.out, HB.out, List.drop_of_length_le (by omega)]
                  rfl
                have hbq := hbelr1.trans (hbelq.mono hbelr1.size)
                clear HB HD HM hL0 hA0
                go_wp2_with fail
                go_roundw
                case rel => exact ⟨k + 1, by omega, by go_num, HN.out, hbq⟩
                case measure => simp [intOf]; omega
          · have g2 : decide ((3 : Int) < (r.terms.length : Int)) = true := decide_eq_true (by omega)
            have HF : Hid (Tr.many l = true) := by show _ = _; rw [HD.out]; unfold Tr.ruleMany; rw [decide_eq_true h3]; simp
            clear HD hA0 hL0
            go_wp2_with fail
            go_ret
            exact ⟨ret_bool HF.out.symm, hbel1⟩
        · have g1 : decide ((4 : Int) < (r.body.length : Int)) = true := decide_eq_true (by omega)
          have HF : Hid (Tr.many l = true) := by show _ = _; rw [HD.out]; unfold Tr.ruleMany; rw [decide_eq_true h4]; simp
          clear HD hA0 hL0
          go_wp2_with fail
          go_ret
          exact ⟨ret_bool HF.out.symm, hbel1⟩
      · have HF : Hid (Tr.many l = false) := by show _ = _; rw [HA.out, List.drop_of_length_le (by omega)]; rfl
        have hbq := hbel0.trans (hbelr.mono hbel0.size)
        clear hA0 HA
        go_wp2_with fail
        go_ret
        exact ⟨ret_bool HF.out.symm, hbq⟩

theorem ruleMany_no {r : Tr.Rule} (h : Tr.ruleMany r = false) : r.terms.length ≤ 3 ∧ r.body.length ≤ 4 ∧ Fits r.body := by
  unfold Tr.ruleMany at h
  simp only [Bool.or_eq_false_iff, decide_eq_false_iff_not] at h
  refine ⟨by omega, by omega, fun i hi => ?_⟩
  have hx := h.2
  unfold Tr.litsMany at hx
  rw [List.any_eq_false] at hx
  have e : Tr.litD r.body i = r.body[i] := by rw [Tr.litD, List.getD_eq_getElem?_getD, List.getElem?_eq_getElem hi]; rfl
  have := hx _ (List.getElem_mem hi)
  rw [e]
  simp at this
  omega

set_option maxRecDepth 100000 in
set_option maxHeartbeats 2000000 in
theorem Check_any (l : List Tr.Rule) (v : Value) (w : World) (hA : RulesV w v l) :
    Calls Tryz.prog 41 #[treeVal v] w fun e w' => e = .returned (.int .i64 (Tr.check l)) ∧ Below w.heap.size w w' := by
  have hA0 := rulesV_below hA (below_alloc w (.cells #[v] 36))
  have hbel0 := below_alloc w (.cells #[v] 36)
  have HT : Hid (_) := tooMany_any l v (w.alloc (.cells #[v] 36)) hA0
  obtain ⟨ao, ca, rfl, _⟩ := hA
  go_enter Tryz.func41, Tryz.ntmps41
  go_wp2_with fail
  refine Calls.mono HT.out ?_
  rintro e w1 ⟨he, hb1⟩
  have hbel1 := hbel0.trans (hb1.mono hbel0.size)
  have hA1 := rulesV_below hA0 hb1
  have c0 : w1.cell? ⟨w.heap.size, 0, none⟩ = some (.slice ao l.length ca) := cell_below hb1 (by simp [go_sem])
  clear HT hA0 hb1 hbel0
  cases gm : Tr.many l
  · rw [gm] at he
    subst he
    have hl12 : l.length ≤ 12 := by
      unfold Tr.many at gm
      simp only [Bool.or_eq_false_iff, decide_eq_false_iff_not] at gm
      omega
    have hMany : ∀ k, k < l.length → Tr.ruleMany (Tr.ruleD l k) = false := fun k hk => by
      unfold Tr.many at gm
      simp only [Bool.or_eq_false_iff] at gm
      have e : Tr.ruleD l k = l[k] := by rw [Tr.ruleD, List.getD_eq_getElem?_getD, List.getElem?_eq_getElem hk]; rfl
      rw [e]
      have := List.any_eq_false.1 gm.2 _ (List.getElem_mem hk)
      simpa using this
    have HM : Hid (∀ k, k < l.length → Tr.ruleMany (Tr.ruleD l k) = false) := hMany
    have HV : Hid (Tr.check l = if l.all Tr.ruleOk then 0 else 1) := by show _ = _; unfold Tr.check; rw [gm]; rfl
    clear hMany gm
    go_wp2_with fail
    go_loopw [10] (fun i wr => ∃ k : Nat, k ≤ l.length ∧ i = .int .i64 k ∧ l.all Tr.ruleOk = (l.drop k).all Tr.ruleOk ∧ Below w1.heap.size w1 wr) (fun i _ => l.length - (intOf i).toNat)
    case atStart => exact ⟨0, Nat.zero_le _, rfl, rfl, Below.refl _ _⟩
    case round =>
      obtain ⟨k, hk, rfl, hall, hbelr⟩ := hrel
      have HA : Hid (l.all Tr.ruleOk = (l.drop k).all Tr.ruleOk) := hall
      clear hall
      by_cases hlt : k < l.length
      · obtain ⟨ao', ca', hv, hR⟩ := rulesV_below hA1 hbelr
        rcases hR with h | ⟨b, off, rfl, hc⟩
        · rw [h] at hlt; exact absurd hlt (by simp)
        injection hv with e1 _ e3
        subst e1 e3
        obtain ⟨a0, a1, ⟨v2, a2, hT⟩, a3, v4, a4, hL⟩ := hc k hlt
        have HD : Hid (l.all Tr.ruleOk = (Tr.ruleOk (Tr.ruleD l k) && (l.drop (k + 1)).all Tr.ruleOk)) := HA.out.trans (all_drop _ _ _ k hlt)
        obtain ⟨f1, f2, f3⟩ := ruleMany_no (HM.out k hlt)
        clear hc HA hA1
        generalize Tr.ruleD l k = r at *
        have HC : Hid (_) := ruleIsRight_any r v2 v4 (wr.alloc (ruleObj r v2 v4)) (by omega) (by omega) f3 (termsV_below hT (below_alloc _ _)) (litsV_below hL (below_alloc _ _))
        obtain ⟨ao2, ca2, rfl, _⟩ := hT
        obtain ⟨ao4, ca4, rfl, _⟩ := hL
        clear f3
        cases g : Tr.ruleOk r
        · have HF : Hid (Tr.check l = 1) := by show _ = _; rw [HV.out, HD.out, g]; rfl
          clear HD HV
          go_wp2_with fail
          refine Calls.mono HC.out ?_
          rintro e w4 ⟨he, hb4⟩
          rw [g] at he
          subst he
          have hbel4 := hbel1.trans ((hbelr.trans ((below_box hb4).mono hbelr.size)).mono hbel1.size)
          go_wp2_with fail
          go_ret
          exact ⟨ret_int HF.out.symm, hbel4⟩
        · have HN : Hid (l.all Tr.ruleOk = (l.drop (k + 1)).all Tr.ruleOk) := by show _ = _; rw [HD.out, g]; rfl
          clear HD
          go_wp2_with fail
          refine Calls.mono HC.out ?_
          rintro e w4 ⟨he, hb4⟩
          rw [g] at he
          subst he
          have hbel4 := hbelr.trans ((below_box hb4).mono hbelr.size)
          clear hb4 HC g a0 a1 a2 a3 a4
          go_wp2_with fail
          go_roundw
          case rel => exact ⟨k + 1, by omega, by go_num, HN.out, hbel4⟩
          case measure => simp [intOf]; omega
      · have HF : Hid (Tr.check l = 0) := by show _ = _; rw [HV.out, HA.out, List.drop_of_length_le (by omega)]; rfl
        have hbel4 := hbel1.trans (hbelr.mono hbel1.size)
        clear hA1 HA HV
        go_wp2_with fail
        go_ret
        exact ⟨ret_int HF.out.symm, hbel4⟩
  · rw [gm] at he
    subst he
    have HF : Hid (Tr.check l = 2) := by show _ = _; unfold Tr.check; rw [gm]; rfl
    go_wp2_with fail
    go_ret
    exact ⟨ret_int HF.out.symm, hbel1⟩

end Go.Proofs.YtgpaleifhcdjnaaGreatDoor

/- The parser in memory. -/
namespace Go.Proofs.YtgpaleifhcdjnaaGreatDoor
open Go.RowKit

/-- The parser's block: its tokens, where it is, where the text ends. -/
def PS (w : World) (P : Nat) (L : List Tk.Tok) (nx : Nat) (en : Int) : Prop :=
  ∃ ao cap, w.heap[P]? = some (.cells #[.slice ao L.length cap, .int .i64 nx, .int .i64 en] 152 (0, 0)) ∧
    (L = [] ∨ ∃ b off, ao = some ⟨b, off, none⟩ ∧ b + 3 < P ∧ ∀ i, i < L.length → TokIn w b (off + i * 3) (tokD L i))

theorem PS.below {w w' : World} {P : Nat} {L : List Tk.Tok} {nx : Nat} {en : Int} (h : PS w P L nx en) (hb : Below w.heap.size w w') : PS w' P L nx en := by
  obtain ⟨ao, cap, h1, h2⟩ := h
  have hlt : P < w.heap.size := by
    rcases Nat.lt_or_ge P w.heap.size with h | h
    · exact h
    · rw [Array.getElem?_eq_none h] at h1; cases h1
  refine ⟨ao, cap, by rw [hb.block P hlt]; exact h1, ?_⟩
  rcases h2 with h2 | ⟨b, off, rfl, hne, hc⟩
  · exact .inl h2
  · exact .inr ⟨b, off, rfl, hne, fun i hi => ⟨cell_below hb (hc i hi).1, cell_below hb (hc i hi).2.1, cell_below hb (hc i hi).2.2⟩⟩
theorem PS.lt {w : World} {P : Nat} {L : List Tk.Tok} {nx : Nat} {en : Int} (h : PS w P L nx en) : P < w.heap.size := by
  obtain ⟨ao, cap, h1, h2⟩ := h
  rcases Nat.lt_or_ge P w.heap.size with h | h
  · exact h
  · rw [Array.getElem?_eq_none h] at h1; cases h1
/-- One token on. -/
theorem PS.next {w : World} {P : Nat} {L : List Tk.Tok} {nx : Nat} {en : Int} (h : PS w P L nx en) (m : Nat) : PS (w.setCell ⟨P, 1, none⟩ (.int .i64 m)) P L m en := by
  obtain ⟨ao, cap, h1, h2⟩ := h
  refine ⟨ao, cap, by simp [World.setCell, Array.getElem?_modify, h1], ?_⟩
  rcases h2 with h2 | ⟨b, off, rfl, hne, hc⟩
  · exact .inl h2
  · refine .inr ⟨b, off, rfl, hne, fun i hi => ?_⟩
    obtain ⟨c0, c1, c2⟩ := hc i hi
    have e : ∀ o, (w.setCell ⟨P, 1, none⟩ (.int .i64 m)).cell? ⟨b, o, none⟩ = w.cell? ⟨b, o, none⟩ := fun o =>
      World.cell?_of_block (a := ⟨b, o, none⟩) (Below.heap_setCell _ _ _ _ (show ¬ b = P by omega))
    exact ⟨(e _).trans c0, (e _).trans c1, (e _).trans c2⟩

/-- Tokens that a scan may answer: not too many, and numbers that are numbers. -/
def Fit (L : List Tk.Tok) : Prop := L.length ≤ 5000 ∧ ∀ t, t ∈ L → t.kind = 3 → t.text.length ≤ 18 ∧ ∃ n, Lib.atoi t.text = some n

/-- The parser stands before these tokens. -/
def At (w : World) (P : Nat) (L : List Tk.Tok) (en : Int) (r : List Tk.Tok) : Prop := ∃ nx, nx ≤ L.length ∧ L.drop nx = r ∧ Fit L ∧ PS w P L nx en
theorem At.below {w w' : World} {P : Nat} {L : List Tk.Tok} {en : Int} {r : List Tk.Tok} (h : At w P L en r) (hb : Below w.heap.size w w') : At w' P L en r := by
  obtain ⟨nx, h1, h2, hF, h3⟩ := h
  exact ⟨nx, h1, h2, hF, h3.below hb⟩
theorem At.lt {w : World} {P : Nat} {L : List Tk.Tok} {en : Int} {r : List Tk.Tok} (h : At w P L en r) : P < w.heap.size := by
  obtain ⟨nx, h1, h2, hF, h3⟩ := h
  exact h3.lt
/-- How far the parser is. -/
def nxOf (w : World) (P : Nat) : Nat := match w.cell? ⟨P, 1, none⟩ with | some (.int _ n) => n.toNat | _ => 0
theorem At.meas {w : World} {P : Nat} {L : List Tk.Tok} {en : Int} {r : List Tk.Tok} (h : At w P L en r) : L.length - nxOf w P = r.length ∧ r.length ≤ L.length ∧ L.length ≤ 5000 := by
  obtain ⟨nx, h1, rfl, hF, ao, cap, hbk, _⟩ := h
  have : w.cell? ⟨P, 1, none⟩ = some (.int .i64 nx) := by rw [Lib.cell_of_heap hbk]; rfl
  unfold nxOf
  rw [this]
  refine ⟨by simp, by simp, hF.1⟩
/-- What is done above the parser is not seen. -/
theorem At.keep2 {w w' : World} {P : Nat} {L : List Tk.Tok} {en : Int} {r : List Tk.Tok} (h : At w P L en r) (hk : ∀ k, (k = P ∨ k + 3 < P) → w'.heap[k]? = w.heap[k]?) : At w' P L en r := by
  obtain ⟨nx, h1, h2, hF, ao, cap, hbk, hT⟩ := h
  refine ⟨nx, h1, h2, hF, ao, cap, by rw [hk P (.inl rfl)]; exact hbk, ?_⟩
  rcases hT with h | ⟨b, off, rfl, hlt, hc⟩
  · exact .inl h
  · refine .inr ⟨b, off, rfl, hlt, fun i hi => ?_⟩
    have e : ∀ o, w'.cell? ⟨b, o, none⟩ = w.cell? ⟨b, o, none⟩ := fun o => World.cell?_of_block (a := ⟨b, o, none⟩) (hk b (.inr hlt))
    obtain ⟨c0, c1, c2⟩ := hc i hi
    exact ⟨(e _).trans c0, (e _).trans c1, (e _).trans c2⟩
theorem At.keep {w w' : World} {P : Nat} {L : List Tk.Tok} {en : Int} {r : List Tk.Tok} (h : At w P L en r) (hk : ∀ k, k ≤ P → w'.heap[k]? = w.heap[k]?) : At w' P L en r := h.keep2 fun k h => hk k (by omega)
theorem At.set {w : World} {P : Nat} {L : List Tk.Tok} {en : Int} {r : List Tk.Tok} (h : At w P L en r) {b : Nat} (hb : P < b) (o : Nat) (v : Value) : At (w.setCell ⟨b, o, none⟩ v) P L en r :=
  h.keep fun k hk => Below.heap_setCell _ _ _ _ (show ¬ k = b by omega)
/-- What a step reads and writes. -/
theorem At.step {w : World} {P : Nat} {L : List Tk.Tok} {en : Int} {r : List Tk.Tok} (h : At w P L en r) :
    ∃ nx : Nat, nx ≤ 5000 ∧ w.cell? ⟨P, 1, none⟩ = some (.int .i64 nx) ∧ w.frozen? ⟨P, 1, none⟩ = false ∧ (¬ r = [] → At (w.setCell ⟨P, 1, none⟩ (.int .i64 ((nx : Int) + 1))) P L en r.tail) := by
  obtain ⟨nx, h1, rfl, hF, h3⟩ := h
  have h3' := h3
  obtain ⟨ao, cap, hbk, _⟩ := h3'
  refine ⟨nx, Nat.le_trans h1 hF.1, by rw [Lib.cell_of_heap hbk]; rfl, by simp [World.frozen?, hbk], fun hr => ?_⟩
  have hlt : nx < L.length := by
    rcases Nat.lt_or_ge nx L.length with h | h
    · exact h
    · exact absurd (List.drop_of_length_le h) hr
  exact ⟨nx + 1, hlt, by rw [List.tail_drop], hF, h3.next (nx + 1)⟩
theorem At.num {w : World} {P : Nat} {L : List Tk.Tok} {en : Int} {r : List Tk.Tok} (h : At w P L en r) (hk : ((Pr.hd en r).kind == 3) = true) :
    (Pr.hd en r).text.length ≤ 18 ∧ Lib.atoi (Pr.hd en r).text = some (Pr.num (Pr.hd en r).text) := by
  obtain ⟨nx, h1, h2, hF, h3⟩ := h
  cases r with
  | nil => exact absurd (show ((0 : Int) == 3) = true from hk) (by decide)
  | cons t r =>
    have hm : t ∈ L := List.mem_of_mem_drop (i := nx) (by rw [h2]; exact List.mem_cons_self)
    obtain ⟨h4, n, h5⟩ := hF.2 t hm (by simpa [Pr.hd] using hk)
    refine ⟨h4, ?_⟩
    show Lib.atoi t.text = some (Pr.num t.text)
    unfold Pr.num
    rw [h5]; rfl

theorem grownBy_of_below {w w' : World} (h : Below w.heap.size w w') (row : Option Nat) : w.grownBy w' row :=
  ⟨h.os, h.tape, h.output, h.size, fun k hk _ => h.block k hk⟩
theorem grownBy_trans {a b c : World} {row : Option Nat} (h : a.grownBy b row) (k : b.grownBy c row) : a.grownBy c row :=
  ⟨k.os.trans h.os, k.tape.trans h.tape, k.output.trans h.output, Nat.le_trans h.size k.size, fun i hi hne => (k.block i (Nat.lt_of_lt_of_le hi h.size) hne).trans (h.block i hi hne)⟩
theorem grownBy_set {w : World} {P : Nat} (o : Nat) (v : Value) : w.grownBy (w.setCell ⟨P, o, none⟩ v) (some P) :=
  ⟨rfl, rfl, rfl, by simp [World.setCell], fun k _ hk => Below.heap_setCell _ _ _ _ (fun e => hk (by rw [e]))⟩
/-- What is set in a block that is new. -/
theorem grownBy_new {w w' : World} {row : Option Nat} {b : Nat} (h : w.grownBy w' row) (hb : w.heap.size ≤ b) (o : Nat) (v : Value) : w.grownBy (w'.setCell ⟨b, o, none⟩ v) row :=
  ⟨h.os, h.tape, h.output, by simpa [World.setCell] using h.size, fun k hk hne => (Below.heap_setCell _ _ _ _ (show ¬ k = b by omega)).trans (h.block k hk hne)⟩
theorem grownBy_cell {w w' : World} {P b o : Nat} {v : Value} (h : w.grownBy w' (some P)) (hne : ¬ b = P) (hc : w.cell? ⟨b, o, none⟩ = some v) : w'.cell? ⟨b, o, none⟩ = some v :=
  (World.cell?_of_block (a := ⟨b, o, none⟩) (h.block b (World.block_lt_of_cell? w _ hc) (by simpa using hne))).trans hc
theorem grownBy_frozen {w w' : World} {P b o : Nat} (h : w.grownBy w' (some P)) (hne : ¬ b = P) (hlt : b < w.heap.size) : w'.frozen? ⟨b, o, none⟩ = w.frozen? ⟨b, o, none⟩ := by
  have := h.block b hlt (by simpa using hne)
  simp [World.frozen?, this]
theorem grownBy_drewN {a b : World} {row : Option Nat} (h : a.grownBy b row) (n : Nat) : a.grownBy (b.drewN n) row := ⟨h.os, h.tape, h.output, h.size, h.block⟩

theorem below_drewN {B : Nat} {a w : World} (h : Below B a w) (n : Nat) : Below B a (w.drewN n) := ⟨h.os, h.tape, h.output, h.size, h.block⟩
theorem below_fresh {w : World} (o : Obj) (n : Nat) (a b c : Value) : Below w.heap.size w ((((((w.alloc o).drewN n).setCell ⟨w.heap.size, 0, none⟩ a)).setCell ⟨w.heap.size, 1, none⟩ b).setCell ⟨w.heap.size, 2, none⟩ c) :=
  (((below_drewN ((Below.refl _ _).alloc (Nat.le_refl _) _) n).setCell (p := ⟨w.heap.size, 0, none⟩) (Nat.le_refl _) _).setCell (p := ⟨w.heap.size, 1, none⟩) (Nat.le_refl _) _).setCell (p := ⟨w.heap.size, 2, none⟩) (Nat.le_refl _) _
abbrev gaveP (a : Int) : Ending := .panicked [{ v := .iface 149 (.int .i64 a), recovered := false }]

theorem hd_drop (L : List Tk.Tok) (en : Int) (nx : Nat) : Pr.hd en (L.drop nx) = if nx < L.length then tokD L nx else ⟨0, en, []⟩ := by
  by_cases h : nx < L.length
  · rw [if_pos h, drop_tok L nx h]; rfl
  · rw [if_neg h, List.drop_of_length_le (by omega)]; rfl

set_option maxRecDepth 100000 in
set_option maxHeartbeats 1000000 in
theorem peek_any (P : Nat) (L : List Tk.Tok) (en : Int) (r : List Tk.Tok) (w : World) (hA : At w P L en r) :
    Calls Tryz.prog 124 #[.pointer (some ⟨P, 0, none⟩)] w fun e w' => e = .returned (.agg #[.int .i64 (Pr.hd en r).kind, .int .i64 (Pr.hd en r).at_, .string ⟨(Pr.hd en r).text.toArray⟩]) ∧ Below w.heap.size w w' := by
  obtain ⟨nx, hnx, rfl, hF, hP⟩ := hA
  clear hF
  have hlt0 := hP.lt
  obtain ⟨ao, cap, hbk, hT⟩ := hP
  have q0 : w.cell? ⟨P, 0, none⟩ = some (.slice ao L.length cap) := by rw [Lib.cell_of_heap hbk]; rfl
  have q1 : w.cell? ⟨P, 1, none⟩ = some (.int .i64 nx) := by rw [Lib.cell_of_heap hbk]; rfl
  have q2 : w.cell? ⟨P, 2, none⟩ = some (.int .i64 en) := by rw [Lib.cell_of_heap hbk]; rfl
  rw [hd_drop]
  by_cases hlt : nx < L.length
  · rw [if_pos hlt]
    rcases hT with h | ⟨b, off, rfl, hne, hc⟩
    · rw [h] at hlt; exact absurd hlt (by simp)
    obtain ⟨a0, a1, a2⟩ := hc nx hlt
    have hbw : b < w.heap.size := World.block_lt_of_cell? w _ a0
    generalize tokD L nx = t at *
    clear hc hbk
    go_enter Tryz.func124, Tryz.ntmps124
    go_wp2_with fail
    go_quiet (fail)
    go_wp2_with fail
    go_region
    go_wp2
    exact bodyPost_ret (v := tokVal t) (by simp [results, Tryz.results124, go_sem]) rfl ⟨rfl, below_fresh _ _ _ _ _⟩
  · rw [if_neg hlt]
    have hd : decide ((nx : Int) < (L.length : Int)) = false := decide_eq_false (by omega)
    clear hT hbk
    go_enter Tryz.func124, Tryz.ntmps124
    go_wp2_with fail
    go_quiet (fail)
    go_wp2_with fail
    exact bodyPost_ret (v := tokVal ⟨0, en, []⟩) (by simp [results, Tryz.results124, go_sem]) rfl ⟨rfl, below_fresh _ _ _ _ _⟩

end Go.Proofs.YtgpaleifhcdjnaaGreatDoor

/- The shelf of the parser (strconv.Atoi) lies with the rest. -/


/- The parser's small steps. -/
namespace Go.Proofs.YtgpaleifhcdjnaaGreatDoor
open Go.RowKit

theorem fld0 (a b c : Value) (w : World) : (Instr.field 53 (.agg #[a, b, c]) 0).run Tryz.prog w = .ok a w := by kernel_rfl
theorem fld1 (a b c : Value) (w : World) : (Instr.field 53 (.agg #[a, b, c]) 1).run Tryz.prog w = .ok b w := by kernel_rfl
theorem fld2 (a b c : Value) (w : World) : (Instr.field 53 (.agg #[a, b, c]) 2).run Tryz.prog w = .ok c w := by kernel_rfl

set_option maxRecDepth 100000 in
set_option maxHeartbeats 400000 in
theorem giveUp_any (P : Nat) (L : List Tk.Tok) (en : Int) (r : List Tk.Tok) (w : World) (hA : At w P L en r) :
    Calls Tryz.prog 150 #[.pointer (some ⟨P, 0, none⟩)] w fun e w' => e = gaveP (Pr.hd en r).at_ ∧ Below w.heap.size w w' := by
  go_enter Tryz.func150, Tryz.ntmps150
  go_wp2_with fail
  refine (peek_any P L en r _ hA).mono ?_
  rintro e w1 ⟨rfl, hb⟩
  go_wp2_with fail
  simp only [fld1]
  go_wp2
  exact ⟨rfl, rfl, hb⟩

set_option maxRecDepth 100000 in
set_option maxHeartbeats 400000 in
theorem take_no (t : List UInt8) (P : Nat) (L : List Tk.Tok) (en : Int) (r : List Tk.Tok) (w : World) (hA : At w P L en r) (h : Pr.isText en r t = false) :
    Calls Tryz.prog 127 #[.pointer (some ⟨P, 0, none⟩), .string ⟨t.toArray⟩] w fun e w' => e = .returned (.bool false) ∧ Below w.heap.size w w' := by
  unfold Pr.isText at h
  go_enter Tryz.func127, Tryz.ntmps127
  go_wp2_with fail
  refine (peek_any P L en r _ hA).mono ?_
  generalize Pr.hd en r = x at *
  rintro e w1 ⟨rfl, hb⟩
  have h' : (x.text != t) = true := by simp [bne, h]
  go_wp2_with fail
  simp only [fld2]
  go_wp2
  go_ret
  exact ⟨rfl, hb⟩

theorem hd_ne {en : Int} {r : List Tk.Tok} {t : List UInt8} (ht : ¬ t = []) (h : Pr.isText en r t = true) : ¬ r = [] := by
  rintro rfl
  exact ht (eq_of_beq h).symm

set_option maxRecDepth 100000 in
set_option maxHeartbeats 400000 in
theorem take_yes (t : List UInt8) (P : Nat) (L : List Tk.Tok) (en : Int) (r : List Tk.Tok) (w : World) (hA : At w P L en r) (ht : ¬ t = []) (h : Pr.isText en r t = true) :
    Calls Tryz.prog 127 #[.pointer (some ⟨P, 0, none⟩), .string ⟨t.toArray⟩] w fun e w' => e = .returned (.bool true) ∧ w.grownBy w' (some P) ∧ At w' P L en r.tail := by
  have hr := hd_ne ht h
  unfold Pr.isText at h
  go_enter Tryz.func127, Tryz.ntmps127
  go_wp2_with fail
  refine (peek_any P L en r _ hA).mono ?_
  generalize Pr.hd en r = x at *
  rintro e w1 ⟨rfl, hb⟩
  have h' : (x.text != t) = false := by simp [bne, h]
  obtain ⟨nx, hnx, q1, qf, hst⟩ := (hA.below hb).step
  have hst := hst hr
  go_wp2_with fail
  simp only [fld2]
  go_wp2
  go_ret
  exact ⟨rfl, grownBy_trans (grownBy_of_below hb _) (grownBy_set _ _), hst⟩

theorem ground {w w' w1 : World} {P : Nat} (h : w.grownBy w1 (some P)) (hb : Below w1.heap.size w1 w') : w.grownBy w' (some P) := grownBy_trans h (grownBy_of_below hb _)

set_option maxRecDepth 100000 in
set_option maxHeartbeats 400000 in
theorem must_no (t : List UInt8) (P : Nat) (L : List Tk.Tok) (en : Int) (r : List Tk.Tok) (w : World) (hA : At w P L en r) (h : Pr.isText en r t = false) :
    Calls Tryz.prog 128 #[.pointer (some ⟨P, 0, none⟩), .string ⟨t.toArray⟩] w fun e w' => e = gaveP (Pr.hd en r).at_ ∧ Below w.heap.size w w' := by
  go_enter Tryz.func128, Tryz.ntmps128
  go_wp2_with fail
  refine (take_no t P L en r _ hA h).mono ?_
  rintro e w1 ⟨rfl, hb⟩
  go_wp2_with fail
  refine (giveUp_any P L en r _ (hA.below hb)).mono ?_
  rintro e w2 ⟨rfl, hb2⟩
  exact ⟨rfl, rfl, hb.trans (hb2.mono hb.size)⟩

set_option maxRecDepth 100000 in
set_option maxHeartbeats 400000 in
theorem must_yes (t : List UInt8) (P : Nat) (L : List Tk.Tok) (en : Int) (r : List Tk.Tok) (w : World) (hA : At w P L en r) (ht : ¬ t = []) (h : Pr.isText en r t = true) :
    Calls Tryz.prog 128 #[.pointer (some ⟨P, 0, none⟩), .string ⟨t.toArray⟩] w fun e w' => e = .returned (.tuple #[]) ∧ w.grownBy w' (some P) ∧ At w' P L en r.tail := by
  go_enter Tryz.func128, Tryz.ntmps128
  go_wp2_with fail
  refine (take_yes t P L en r _ hA ht h).mono ?_
  rintro e w1 ⟨rfl, hg, hA1⟩
  go_wp2
  exact ⟨rfl, .tuple #[], by simp [results, Tryz.results128], rfl, hg, hA1⟩

set_option maxRecDepth 100000 in
set_option maxHeartbeats 400000 in
theorem fold_no (P : Nat) (L : List Tk.Tok) (en : Int) (r : List Tk.Tok) (w : World) (hA : At w P L en r) (h : Tr.foldOf (Pr.hd en r).text = 0) :
    Calls Tryz.prog 151 #[.pointer (some ⟨P, 0, none⟩)] w fun e w' => e = .returned (.int .i64 0) ∧ Below w.heap.size w w' := by
  go_enter Tryz.func151, Tryz.ntmps151
  go_wp2_with fail
  refine (peek_any P L en r _ hA).mono ?_
  rintro e w1 ⟨rfl, hb⟩
  go_wp2_with fail
  simp only [fld2]
  go_wp2_with fail
  refine (foldOf_any _ _).mono ?_
  rintro e w2 ⟨rfl, rfl⟩
  rw [h]
  go_wp2
  go_ret
  exact ⟨rfl, hb⟩

theorem foldOf_nil : Tr.foldOf [] = 0 := rfl
theorem opOf_nil : Pr.opOf [] = 0 := rfl

set_option maxRecDepth 100000 in
set_option maxHeartbeats 400000 in
theorem fold_yes (P : Nat) (L : List Tk.Tok) (en : Int) (r : List Tk.Tok) (w : World) (hA : At w P L en r) (h : ¬ Tr.foldOf (Pr.hd en r).text = 0) :
    Calls Tryz.prog 151 #[.pointer (some ⟨P, 0, none⟩)] w fun e w' => e = .returned (.int .i64 (Tr.foldOf (Pr.hd en r).text)) ∧ w.grownBy w' (some P) ∧ At w' P L en r.tail := by
  have hr : ¬ r = [] := by rintro rfl; exact h rfl
  generalize hf : Tr.foldOf (Pr.hd en r).text = f at h ⊢
  go_enter Tryz.func151, Tryz.ntmps151
  go_wp2_with fail
  refine (peek_any P L en r _ hA).mono ?_
  rintro e w1 ⟨rfl, hb⟩
  go_wp2_with fail
  simp only [fld2]
  go_wp2_with fail
  refine (foldOf_any _ _).mono ?_
  rintro e w2 ⟨rfl, rfl⟩
  rw [hf]
  obtain ⟨nx, hnx, q1, qf, hst⟩ := (hA.below hb).step
  have hst := hst hr
  go_wp2
  go_ret
  exact ⟨rfl, grownBy_trans (grownBy_of_below hb _) (grownBy_set _ _), hst⟩

set_option maxRecDepth 100000 in
set_option maxHeartbeats 400000 in
theorem opOf_any (s : List UInt8) (w : World) : Calls Tryz.prog 168 #[.string ⟨s.toArray⟩] w fun e w' => e = .returned (.int .i64 (Pr.opOf s)) ∧ w' = w := by
  unfold Pr.opOf
  cases h1 : (s == [60])
  · cases h2 : (s == [60, 61])
    · cases h3 : (s == [61])
      · cases h4 : (s == [33, 61])
        · cases h5 : (s == [43])
          · cases h6 : (s == [45])
            · cases h7 : (s == [42])
              all_goals (go_enter Tryz.func168, Tryz.ntmps168; go_wp2; go_ret; exact ⟨rfl, rfl⟩)
            · go_enter Tryz.func168, Tryz.ntmps168
              go_wp2
              go_ret
              exact ⟨rfl, rfl⟩
          · go_enter Tryz.func168, Tryz.ntmps168
            go_wp2
            go_ret
            exact ⟨rfl, rfl⟩
        · go_enter Tryz.func168, Tryz.ntmps168
          go_wp2
          go_ret
          exact ⟨rfl, rfl⟩
      · go_enter Tryz.func168, Tryz.ntmps168
        go_wp2
        go_ret
        exact ⟨rfl, rfl⟩
    · go_enter Tryz.func168, Tryz.ntmps168
      go_wp2
      go_ret
      exact ⟨rfl, rfl⟩
  · go_enter Tryz.func168, Tryz.ntmps168
    go_wp2
    go_ret
    exact ⟨rfl, rfl⟩

set_option maxRecDepth 100000 in
set_option maxHeartbeats 400000 in
theorem op_no (P : Nat) (L : List Tk.Tok) (en : Int) (r : List Tk.Tok) (w : World) (hA : At w P L en r) (h : Pr.opOf (Pr.hd en r).text = 0) :
    Calls Tryz.prog 163 #[.pointer (some ⟨P, 0, none⟩)] w fun e w' => e = gaveP (Pr.hd en r).at_ ∧ Below w.heap.size w w' := by
  go_enter Tryz.func163, Tryz.ntmps163
  go_wp2_with fail
  refine (peek_any P L en r _ hA).mono ?_
  rintro e w1 ⟨rfl, hb⟩
  go_wp2_with fail
  simp only [fld2]
  go_wp2_with fail
  refine (opOf_any _ _).mono ?_
  rintro e w2 ⟨rfl, rfl⟩
  rw [h]
  go_wp2_with fail
  refine (giveUp_any P L en r _ (hA.below hb)).mono ?_
  rintro e w2 ⟨rfl, hb2⟩
  exact ⟨rfl, rfl, hb.trans (hb2.mono hb.size)⟩

set_option maxRecDepth 100000 in
set_option maxHeartbeats 400000 in
theorem op_yes (P : Nat) (L : List Tk.Tok) (en : Int) (r : List Tk.Tok) (w : World) (hA : At w P L en r) (h : ¬ Pr.opOf (Pr.hd en r).text = 0) :
    Calls Tryz.prog 163 #[.pointer (some ⟨P, 0, none⟩)] w fun e w' => e = .returned (.int .i64 (Pr.opOf (Pr.hd en r).text)) ∧ w.grownBy w' (some P) ∧ At w' P L en r.tail := by
  have hr : ¬ r = [] := by rintro rfl; exact h rfl
  generalize hf : Pr.opOf (Pr.hd en r).text = f at h ⊢
  go_enter Tryz.func163, Tryz.ntmps163
  go_wp2_with fail
  refine (peek_any P L en r _ hA).mono ?_
  rintro e w1 ⟨rfl, hb⟩
  go_wp2_with fail
  simp only [fld2]
  go_wp2_with fail
  refine (opOf_any _ _).mono ?_
  rintro e w2 ⟨rfl, rfl⟩
  rw [hf]
  obtain ⟨nx, hnx, q1, qf, hst⟩ := (hA.below hb).step
  have hst := hst hr
  go_wp2
  go_ret
  exact ⟨rfl, grownBy_trans (grownBy_of_below hb _) (grownBy_set _ _), hst⟩

end Go.Proofs.YtgpaleifhcdjnaaGreatDoor

/- The parser's names, numbers and terms. -/
namespace Go.Proofs.YtgpaleifhcdjnaaGreatDoor
open Go.RowKit

/-- A token that is laid aside. -/
abbrev putTok (w : World) (x : Tk.Tok) : World := w.alloc (.cells #[.int .i64 x.kind, .int .i64 x.at_, .string ⟨x.text.toArray⟩] 53)
theorem below_put {w w1 : World} (hb : Below w.heap.size w w1) (x : Tk.Tok) : Below w.heap.size w (putTok w1 x) := hb.alloc hb.size _
/-- Behind a step, with a token laid aside. -/
theorem went_set {w w1 : World} {P : Nat} {L : List Tk.Tok} {en : Int} {r : List Tk.Tok} {v : Value} (hb : Below w.heap.size w w1) (h : At (w1.setCell ⟨P, 1, none⟩ v) P L en r) (o : Obj) :
    w.grownBy ((w1.setCell ⟨P, 1, none⟩ v).alloc o) (some P) ∧ At ((w1.setCell ⟨P, 1, none⟩ v).alloc o) P L en r :=
  ⟨grownBy_trans (grownBy_of_below hb _) (grownBy_trans (grownBy_set _ _) (grownBy_of_below ((Below.refl _ _).alloc (Nat.le_refl _) _) _)), h.below ((Below.refl _ _).alloc (Nat.le_refl _) _)⟩

set_option maxRecDepth 100000 in
set_option maxHeartbeats 400000 in
theorem name_no (P : Nat) (L : List Tk.Tok) (en : Int) (r : List Tk.Tok) (w : World) (hA : At w P L en r) (h : (((Pr.hd en r).kind == 1) && !Tr.isWord (Pr.hd en r).text) = false) :
    Calls Tryz.prog 125 #[.pointer (some ⟨P, 0, none⟩)] w fun e w' => e = gaveP (Pr.hd en r).at_ ∧ Below w.heap.size w w' := by
  have hG : Hid (∀ w1, Below w.heap.size w w1 → Calls Tryz.prog 150 #[.pointer (some ⟨P, 0, none⟩)] w1 fun e w' => e = gaveP (Pr.hd en r).at_ ∧ Below w.heap.size w w') :=
    (fun w1 hb => (giveUp_any P L en r w1 (hA.below hb)).mono (by rintro e w2 ⟨rfl, hb2⟩; exact ⟨rfl, hb.trans (hb2.mono hb.size)⟩))
  have hpk := peek_any P L en r w hA
  generalize Pr.hd en r = x at *
  cases hk : (x.kind == 1)
  · have hk' : (x.kind != 1) = true := by simp [bne, hk]
    go_enter Tryz.func125, Tryz.ntmps125
    go_wp2_with fail
    refine hpk.mono ?_
    rintro e w1 ⟨rfl, hb⟩
    have hlt := Nat.lt_of_lt_of_le hA.lt hb.size
    go_wp2_with fail
    refine Calls.mono (hG.out _ (below_put hb x)) ?_
    rintro e w2 ⟨rfl, hb2⟩
    exact ⟨rfl, rfl, hb2⟩
  · have hw : Tr.isWord x.text = true := by simpa [hk] using h
    have hk' : (x.kind != 1) = false := by simp [bne, hk]
    go_enter Tryz.func125, Tryz.ntmps125
    go_wp2_with fail
    refine hpk.mono ?_
    rintro e w1 ⟨rfl, hb⟩
    have hlt := Nat.lt_of_lt_of_le hA.lt hb.size
    go_wp2_with fail
    refine (isWord_any _ _).mono ?_
    rintro e w2 ⟨rfl, rfl⟩
    rw [hw]
    go_wp2_with fail
    refine Calls.mono (hG.out _ (below_put hb x)) ?_
    rintro e w2 ⟨rfl, hb2⟩
    exact ⟨rfl, rfl, hb2⟩

set_option maxRecDepth 100000 in
set_option maxHeartbeats 400000 in
theorem name_yes (P : Nat) (L : List Tk.Tok) (en : Int) (r : List Tk.Tok) (w : World) (hA : At w P L en r) (h : (((Pr.hd en r).kind == 1) && !Tr.isWord (Pr.hd en r).text) = true) :
    Calls Tryz.prog 125 #[.pointer (some ⟨P, 0, none⟩)] w fun e w' => e = .returned (.string ⟨(Pr.hd en r).text.toArray⟩) ∧ w.grownBy w' (some P) ∧ At w' P L en r.tail := by
  have hr : ¬ r = [] := by rintro rfl; exact absurd h (by simp [Pr.hd])
  have hpk := peek_any P L en r w hA
  generalize Pr.hd en r = x at *
  have hk : (x.kind == 1) = true := by revert h; cases (x.kind == 1) <;> simp
  have hw : Tr.isWord x.text = false := by simpa [hk] using h
  have hk' : (x.kind != 1) = false := by simp [bne, hk]
  go_enter Tryz.func125, Tryz.ntmps125
  go_wp2_with fail
  refine hpk.mono ?_
  rintro e w1 ⟨rfl, hb⟩
  have hlt := Nat.lt_of_lt_of_le hA.lt hb.size
  go_wp2_with fail
  refine (isWord_any _ _).mono ?_
  rintro e w2 ⟨rfl, rfl⟩
  rw [hw]
  obtain ⟨nx, hnx, q1, qf, hst⟩ := (hA.below hb).step
  have hst := hst hr
  clear h hA hpk
  have hne : ¬ w1.heap.size = P := by omega
  have hne' : ¬ P = w1.heap.size := by omega
  go_wp2
  go_ret
  exact ⟨rfl, went_set hb hst _⟩

set_option maxRecDepth 100000 in
set_option maxHeartbeats 400000 in
theorem num_no (P : Nat) (L : List Tk.Tok) (en : Int) (r : List Tk.Tok) (w : World) (hA : At w P L en r) (h : ((Pr.hd en r).kind == 3) = false) :
    Calls Tryz.prog 162 #[.pointer (some ⟨P, 0, none⟩)] w fun e w' => e = gaveP (Pr.hd en r).at_ ∧ Below w.heap.size w w' := by
  have hG : Hid (∀ w1, Below w.heap.size w w1 → Calls Tryz.prog 150 #[.pointer (some ⟨P, 0, none⟩)] w1 fun e w' => e = gaveP (Pr.hd en r).at_ ∧ Below w.heap.size w w') :=
    (fun w1 hb => (giveUp_any P L en r w1 (hA.below hb)).mono (by rintro e w2 ⟨rfl, hb2⟩; exact ⟨rfl, hb.trans (hb2.mono hb.size)⟩))
  have hpk := peek_any P L en r w hA
  generalize Pr.hd en r = x at *
  have hk' : (x.kind != 3) = true := by simp [bne, h]
  go_enter Tryz.func162, Tryz.ntmps162
  go_wp2_with fail
  refine hpk.mono ?_
  rintro e w1 ⟨rfl, hb⟩
  have hlt := Nat.lt_of_lt_of_le hA.lt hb.size
  go_wp2_with fail
  refine Calls.mono (hG.out _ (below_put hb x)) ?_
  rintro e w2 ⟨rfl, hb2⟩
  exact ⟨rfl, rfl, hb2⟩

theorem below_bytes (w : World) (t : ByteArray) : Below w.heap.size w (Lib.bytesWorld w 5 t) :=
  ⟨rfl, rfl, rfl, by rw [Lib.bytesWorld_size]; omega, fun k hk => Lib.bytesWorld_at_old w 5 t k hk⟩

set_option maxRecDepth 100000 in
set_option maxHeartbeats 400000 in
theorem num_yes (P : Nat) (L : List Tk.Tok) (en : Int) (r : List Tk.Tok) (w : World) (hA : At w P L en r) (h : ((Pr.hd en r).kind == 3) = true) :
    Calls Tryz.prog 162 #[.pointer (some ⟨P, 0, none⟩)] w fun e w' => e = .returned (.int .i64 (Pr.num (Pr.hd en r).text)) ∧ w.grownBy w' (some P) ∧ At w' P L en r.tail := by
  have hr : ¬ r = [] := by rintro rfl; exact absurd (show ((0 : Int) == 3) = true from h) (by decide)
  obtain ⟨hl, hn⟩ := hA.num h
  have hpk := peek_any P L en r w hA
  generalize Pr.hd en r = x at *
  have hk' : (x.kind != 3) = false := by simp [bne, h]
  go_enter Tryz.func162, Tryz.ntmps162
  go_wp2_with fail
  refine hpk.mono ?_
  rintro e w1 ⟨rfl, hb⟩
  have hlt := Nat.lt_of_lt_of_le hA.lt hb.size
  obtain ⟨nx, hnx, q1, qf, hst⟩ := (hA.below hb).step
  have hst := hst hr
  clear h hA hpk
  have hne : ¬ w1.heap.size = P := by omega
  have hne' : ¬ P = w1.heap.size := by omega
  go_wp2_with fail
  refine (Tryz.strconv_Atoi _ (Pr.num x.text) ?_ ?_ _).mono ?_
  · simpa [ByteArray.size] using hl
  · simpa using hn
  rintro e w2 ⟨rfl, t, rfl⟩
  go_wp2
  go_ret
  have hq := went_set hb hst (.cells #[.int .i64 x.kind, .int .i64 x.at_, .string ⟨x.text.toArray⟩] 53)
  exact ⟨rfl, ground hq.1 (below_bytes _ _), hq.2.below (below_bytes _ _)⟩

end Go.Proofs.YtgpaleifhcdjnaaGreatDoor

/- The parser's terms. -/
namespace Go.Proofs.YtgpaleifhcdjnaaGreatDoor
open Go.RowKit

theorem peekAt (P : Nat) (L : List Tk.Tok) (en : Int) (r : List Tk.Tok) (w : World) (hA : At w P L en r) : ∀ w1, Below w.heap.size w w1 →
    Calls Tryz.prog 124 #[.pointer (some ⟨P, 0, none⟩)] w1 fun e w' => e = .returned (.agg #[.int .i64 (Pr.hd en r).kind, .int .i64 (Pr.hd en r).at_, .string ⟨(Pr.hd en r).text.toArray⟩]) ∧ Below w1.heap.size w1 w' := fun w1 hb => peek_any P L en r w1 (hA.below hb)

abbrev termObj : Obj := .cells #[.string { data := #[] }, .int .i64 0] 59
theorem fresh2 {w w1 : World} (hb : Below (w.alloc termObj).heap.size (w.alloc termObj) w1) :
    w1.cell? ⟨w.heap.size, 0, none⟩ = some (.string { data := #[] }) ∧ w1.cell? ⟨w.heap.size, 1, none⟩ = some (.int .i64 0) ∧ w1.frozen? ⟨w.heap.size, 0, none⟩ = false ∧ w1.frozen? ⟨w.heap.size, 1, none⟩ = false ∧ Below w.heap.size w w1 ∧ w.heap.size < w1.heap.size := by
  obtain ⟨hc, hf⟩ := bcell hb
  have h : w.heap.size < (w.alloc termObj).heap.size := by simp
  refine ⟨?_, ?_, ?_, ?_, ((Below.refl _ _).alloc (Nat.le_refl _) _).trans (hb.mono (by simp)), Nat.lt_of_lt_of_le h hb.size⟩
  · rw [hc _ _ h]; simp [go_sem]
  · rw [hc _ _ h]; simp [go_sem]
  · rw [hf _ _ h]; simp [go_sem]
  · rw [hf _ _ h]; simp [go_sem]

/-- The parser went on, and nothing else that was there has changed. -/
abbrev Went (w w' : World) (P : Nat) (L : List Tk.Tok) (en : Int) (r : List Tk.Tok) : Prop := w.grownBy w' (some P) ∧ At w' P L en r
theorem Went.set {w w' : World} {P : Nat} {L : List Tk.Tok} {en : Int} {r : List Tk.Tok} (h : Went w w' P L en r) (hP : P < w.heap.size) {b : Nat} (hb : w.heap.size ≤ b) (o : Nat) (v : Value) : Went w (w'.setCell ⟨b, o, none⟩ v) P L en r :=
  ⟨grownBy_new h.1 hb o v, h.2.set (Nat.lt_of_lt_of_le hP hb) o v⟩
theorem Went.below {w w1 w' : World} {P : Nat} {L : List Tk.Tok} {en : Int} {r : List Tk.Tok} (h : Went w w1 P L en r) (hb : Below w1.heap.size w1 w') : Went w w' P L en r := ⟨ground h.1 hb, h.2.below hb⟩
theorem Went.alloc {w w' : World} {P : Nat} {L : List Tk.Tok} {en : Int} {r : List Tk.Tok} (h : Went w w' P L en r) (o : Obj) : Went w (w'.alloc o) P L en r := h.below ((Below.refl _ _).alloc (Nat.le_refl _) _)
theorem Went.behind {w w1 w' : World} {P : Nat} {L : List Tk.Tok} {en : Int} {r : List Tk.Tok} (hb : Below w.heap.size w w1) (h : Went w1 w' P L en r) : Went w w' P L en r := ⟨grownBy_trans (grownBy_of_below hb _) h.1, h.2⟩
theorem Went.trans {w w1 w' : World} {P : Nat} {L : List Tk.Tok} {en : Int} {r r1 : List Tk.Tok} (h1 : Went w w1 P L en r1) (h : Went w1 w' P L en r) : Went w w' P L en r := ⟨grownBy_trans h1.1 h.1, h.2⟩
theorem Went.step {w w1 : World} {P : Nat} {L : List Tk.Tok} {en : Int} {r : List Tk.Tok} {v : Value} (hb : Below w.heap.size w w1) (h : At (w1.setCell ⟨P, 1, none⟩ v) P L en r) : Went w (w1.setCell ⟨P, 1, none⟩ v) P L en r := ⟨grownBy_trans (grownBy_of_below hb _) (grownBy_set _ _), h⟩

/-- The block of a result, behind calls that went on. -/
theorem kept2 {w w1 w2 : World} {P : Nat} (hP : P < w.heap.size) (hg : w1.grownBy w2 (some P)) (hs : w.heap.size < w1.heap.size) {u v : Value} (c0 : w1.cell? ⟨w.heap.size, 0, none⟩ = some u) (c1 : w1.cell? ⟨w.heap.size, 1, none⟩ = some v)
    (f0 : w1.frozen? ⟨w.heap.size, 0, none⟩ = false) (f1 : w1.frozen? ⟨w.heap.size, 1, none⟩ = false) :
    w2.cell? ⟨w.heap.size, 0, none⟩ = some u ∧ w2.cell? ⟨w.heap.size, 1, none⟩ = some v ∧ w2.frozen? ⟨w.heap.size, 0, none⟩ = false ∧ w2.frozen? ⟨w.heap.size, 1, none⟩ = false ∧ w.heap.size < w2.heap.size := by
  have hne : ¬ w.heap.size = P := by omega
  exact ⟨grownBy_cell hg hne c0, grownBy_cell hg hne c1, (grownBy_frozen hg hne hs).trans f0, (grownBy_frozen hg hne hs).trans f1, Nat.lt_of_lt_of_le hs hg.size⟩
theorem kept2b {w w1 w2 : World} (hb : Below w1.heap.size w1 w2) (hs : w.heap.size < w1.heap.size) {u v : Value} (c0 : w1.cell? ⟨w.heap.size, 0, none⟩ = some u) (c1 : w1.cell? ⟨w.heap.size, 1, none⟩ = some v)
    (f0 : w1.frozen? ⟨w.heap.size, 0, none⟩ = false) (f1 : w1.frozen? ⟨w.heap.size, 1, none⟩ = false) :
    w2.cell? ⟨w.heap.size, 0, none⟩ = some u ∧ w2.cell? ⟨w.heap.size, 1, none⟩ = some v ∧ w2.frozen? ⟨w.heap.size, 0, none⟩ = false ∧ w2.frozen? ⟨w.heap.size, 1, none⟩ = false ∧ w.heap.size < w2.heap.size := by
  obtain ⟨hc, hf⟩ := bcell hb
  exact ⟨(hc _ _ hs).trans c0, (hc _ _ hs).trans c1, (hf _ _ hs).trans f0, (hf _ _ hs).trans f1, Nat.lt_of_lt_of_le hs hb.size⟩

set_option maxRecDepth 100000 in
set_option maxHeartbeats 400000 in
theorem term_var (P : Nat) (L : List Tk.Tok) (en : Int) (r : List Tk.Tok) (w : World) (hA : At w P L en r) (h : ((Pr.hd en r).kind == 2) = true) :
    Calls Tryz.prog 152 #[.pointer (some ⟨P, 0, none⟩)] w fun e w' => e = .returned (termVal ⟨(Pr.hd en r).text, 0⟩) ∧ w.grownBy w' (some P) ∧ At w' P L en r.tail := by
  have hr : ¬ r = [] := by rintro rfl; exact absurd (show ((0 : Int) == 2) = true from h) (by decide)
  have hpk : Hid _ := peekAt P L en r w hA
  generalize Pr.hd en r = x at *
  have hlt := hA.lt
  go_enter Tryz.func152, Tryz.ntmps152
  go_wp2_with fail
  refine Calls.mono (hpk.out _ ((Below.refl _ _).alloc (Nat.le_refl _) _)) ?_
  rintro e w1 ⟨rfl, hb0⟩
  obtain ⟨c0, c1, f0, f1, hb, hsz⟩ := fresh2 hb0
  obtain ⟨nx, hnx, q1, qf, hst⟩ := (hA.below hb).step
  have hst := hst hr
  clear hb0
  have hlt1 : P < w1.heap.size := by omega
  have hne : ¬ w.heap.size = P := by omega
  have hne' : ¬ P = w.heap.size := by omega
  have hne1 : ¬ w1.heap.size = P := by omega
  have hne1' : ¬ P = w1.heap.size := by omega
  have hne2 : ¬ w1.heap.size = w.heap.size := by omega
  have hne2' : ¬ w.heap.size = w1.heap.size := by omega
  go_wp2
  exact bodyPost_ret (v := termVal ⟨x.text, 0⟩) (by simp [results, Tryz.results152, go_sem, c0, c1, hsz]) rfl ⟨rfl, (((Went.step hb hst).set hlt (Nat.le_refl _) _ _).set hlt (Nat.le_refl _) _ _).alloc _⟩

theorem ground' {w w1 w' : World} {P : Nat} (hb : Below w.heap.size w w1) (h : Below w1.heap.size w1 w') : w.grownBy w' (some P) := grownBy_of_below (hb.trans (h.mono hb.size)) _

set_option maxRecDepth 100000 in
set_option maxHeartbeats 400000 in
theorem term_num (P : Nat) (L : List Tk.Tok) (en : Int) (r : List Tk.Tok) (w : World) (hA : At w P L en r) (h : ((Pr.hd en r).kind == 3) = true) :
    Calls Tryz.prog 152 #[.pointer (some ⟨P, 0, none⟩)] w fun e w' => e = .returned (termVal ⟨[], Pr.num (Pr.hd en r).text⟩) ∧ Went w w' P L en r.tail := by
  have hpk : Hid _ := peekAt P L en r w hA
  have hnm : Hid (∀ w1, Below w.heap.size w w1 → _) := fun w1 hb => num_yes P L en r w1 (hA.below hb) h
  generalize Pr.hd en r = x at *
  have h2 : (x.kind == 2) = false := by rw [eq_of_beq h]; rfl
  have hlt := hA.lt
  go_enter Tryz.func152, Tryz.ntmps152
  go_wp2_with fail
  refine Calls.mono (hpk.out _ ((Below.refl _ _).alloc (Nat.le_refl _) _)) ?_
  rintro e w1 ⟨rfl, hb0⟩
  obtain ⟨c0, c1, f0, f1, hb, hsz⟩ := fresh2 hb0
  clear hb0
  go_wp2_with fail
  refine Calls.mono (hnm.out _ (below_put hb x)) ?_
  rintro e w2 ⟨rfl, hg, hA2⟩
  obtain ⟨c0, c1, f0, f1, hsz⟩ := kept2b ((Below.refl _ _).alloc (Nat.le_refl _) _) hsz c0 c1 f0 f1
  obtain ⟨d0, d1, g0, g1, hsz2⟩ := kept2 hlt hg hsz c0 c1 f0 f1
  have hW := Went.behind (below_put hb x) ⟨hg, hA2⟩
  clear c0 c1 f0 f1 hg
  go_wp2
  exact bodyPost_ret (v := termVal ⟨[], Pr.num x.text⟩) (by simp [results, Tryz.results152, go_sem, d0, d1]) rfl ⟨rfl, (hW.set hlt (Nat.le_refl _) _ _).set hlt (Nat.le_refl _) _ _⟩

set_option maxRecDepth 100000 in
set_option maxHeartbeats 400000 in
theorem term_off (P : Nat) (L : List Tk.Tok) (en : Int) (r : List Tk.Tok) (w : World) (hA : At w P L en r) (h2 : ((Pr.hd en r).kind == 2) = false) (h3 : ((Pr.hd en r).kind == 3) = false) (ht : Pr.isText en r [45] = false) :
    Calls Tryz.prog 152 #[.pointer (some ⟨P, 0, none⟩)] w fun e w' => e = gaveP (Pr.hd en r).at_ ∧ w.grownBy w' (some P) := by
  have hpk : Hid _ := peekAt P L en r w hA
  have hmu : Hid (∀ w1, Below w.heap.size w w1 → _) := fun w1 hb => must_no [45] P L en r w1 (hA.below hb) ht
  generalize Pr.hd en r = x at *
  go_enter Tryz.func152, Tryz.ntmps152
  go_wp2_with fail
  refine Calls.mono (hpk.out _ ((Below.refl _ _).alloc (Nat.le_refl _) _)) ?_
  rintro e w1 ⟨rfl, hb0⟩
  obtain ⟨c0, c1, f0, f1, hb, hsz⟩ := fresh2 hb0
  clear hb0
  go_wp2_with fail
  refine Calls.mono (hmu.out _ (below_put hb x)) ?_
  rintro e w2 ⟨rfl, hb2⟩
  exact ⟨rfl, rfl, ground' (below_put hb x) hb2⟩

set_option maxRecDepth 100000 in
set_option maxHeartbeats 400000 in
theorem term_zero (P : Nat) (L : List Tk.Tok) (en : Int) (r : List Tk.Tok) (w : World) (hA : At w P L en r) (h2 : ((Pr.hd en r).kind == 2) = false) (h3 : ((Pr.hd en r).kind == 3) = false) (ht : Pr.isText en r [45] = true)
    (h0 : ((Pr.hd en r.tail).text == [48]) = true) :
    Calls Tryz.prog 152 #[.pointer (some ⟨P, 0, none⟩)] w fun e w' => e = gaveP (Pr.hd en r.tail).at_ ∧ w.grownBy w' (some P) := by
  have hpk : Hid _ := peekAt P L en r w hA
  have hmu : Hid (∀ w1, Below w.heap.size w w1 → _) := fun w1 hb => must_yes [45] P L en r w1 (hA.below hb) (by simp) ht
  have hpk2 : Hid (∀ w3, At w3 P L en r.tail → _) := fun w3 h => peek_any P L en r.tail w3 h
  have hgu : Hid (∀ w3, At w3 P L en r.tail → _) := fun w3 h => giveUp_any P L en r.tail w3 h
  generalize Pr.hd en r.tail = y at *
  generalize Pr.hd en r = x at *
  go_enter Tryz.func152, Tryz.ntmps152
  go_wp2_with fail
  refine Calls.mono (hpk.out _ ((Below.refl _ _).alloc (Nat.le_refl _) _)) ?_
  rintro e w1 ⟨rfl, hb0⟩
  obtain ⟨c0, c1, f0, f1, hb, hsz⟩ := fresh2 hb0
  clear hb0
  go_wp2_with fail
  refine Calls.mono (hmu.out _ (below_put hb x)) ?_
  rintro e w2 ⟨rfl, hg, hA2⟩
  have hW := Went.behind (below_put hb x) ⟨hg, hA2⟩
  go_wp2_with fail
  refine Calls.mono (hpk2.out _ hA2) ?_
  rintro e w3 ⟨rfl, hb3⟩
  go_wp2_with fail
  simp only [fld2]
  go_wp2_with fail
  refine Calls.mono (hgu.out _ (hA2.below hb3)) ?_
  rintro e w4 ⟨rfl, hb4⟩
  exact ⟨rfl, rfl, ground (ground hW.1 hb3) hb4⟩

set_option maxRecDepth 100000 in
set_option maxHeartbeats 400000 in
theorem term_nonum (P : Nat) (L : List Tk.Tok) (en : Int) (r : List Tk.Tok) (w : World) (hA : At w P L en r) (h2 : ((Pr.hd en r).kind == 2) = false) (h3 : ((Pr.hd en r).kind == 3) = false) (ht : Pr.isText en r [45] = true)
    (h0 : ((Pr.hd en r.tail).text == [48]) = false) (hk : ((Pr.hd en r.tail).kind == 3) = false) :
    Calls Tryz.prog 152 #[.pointer (some ⟨P, 0, none⟩)] w fun e w' => e = gaveP (Pr.hd en r.tail).at_ ∧ w.grownBy w' (some P) := by
  have hpk : Hid _ := peekAt P L en r w hA
  have hmu : Hid (∀ w1, Below w.heap.size w w1 → _) := fun w1 hb => must_yes [45] P L en r w1 (hA.below hb) (by simp) ht
  have hpk2 : Hid (∀ w3, At w3 P L en r.tail → _) := fun w3 h => peek_any P L en r.tail w3 h
  have hgu : Hid (∀ w3, At w3 P L en r.tail → _) := fun w3 h => num_no P L en r.tail w3 h hk
  generalize Pr.hd en r.tail = y at *
  generalize Pr.hd en r = x at *
  go_enter Tryz.func152, Tryz.ntmps152
  go_wp2_with fail
  refine Calls.mono (hpk.out _ ((Below.refl _ _).alloc (Nat.le_refl _) _)) ?_
  rintro e w1 ⟨rfl, hb0⟩
  obtain ⟨c0, c1, f0, f1, hb, hsz⟩ := fresh2 hb0
  clear hb0
  go_wp2_with fail
  refine Calls.mono (hmu.out _ (below_put hb x)) ?_
  rintro e w2 ⟨rfl, hg, hA2⟩
  have hW := Went.behind (below_put hb x) ⟨hg, hA2⟩
  go_wp2_with fail
  refine Calls.mono (hpk2.out _ hA2) ?_
  rintro e w3 ⟨rfl, hb3⟩
  go_wp2_with fail
  simp only [fld2]
  go_wp2_with fail
  refine Calls.mono (hgu.out _ (hA2.below hb3)) ?_
  rintro e w4 ⟨rfl, hb4⟩
  exact ⟨rfl, rfl, ground (ground hW.1 hb3) hb4⟩

set_option maxRecDepth 100000 in
set_option maxHeartbeats 400000 in
theorem term_neg (P : Nat) (L : List Tk.Tok) (en : Int) (r : List Tk.Tok) (w : World) (hA : At w P L en r) (h2 : ((Pr.hd en r).kind == 2) = false) (h3 : ((Pr.hd en r).kind == 3) = false) (ht : Pr.isText en r [45] = true)
    (h0 : ((Pr.hd en r.tail).text == [48]) = false) (hk : ((Pr.hd en r.tail).kind == 3) = true) :
    Calls Tryz.prog 152 #[.pointer (some ⟨P, 0, none⟩)] w fun e w' => e = .returned (termVal ⟨[], -Pr.num (Pr.hd en r.tail).text⟩) ∧ Went w w' P L en r.tail.tail := by
  have hpk : Hid _ := peekAt P L en r w hA
  have hmu : Hid (∀ w1, Below w.heap.size w w1 → _) := fun w1 hb => must_yes [45] P L en r w1 (hA.below hb) (by simp) ht
  have hpk2 : Hid (∀ w3, At w3 P L en r.tail → _) := fun w3 h => peek_any P L en r.tail w3 h
  have hgu : Hid (∀ w3, At w3 P L en r.tail → _) := fun w3 h => num_yes P L en r.tail w3 h hk
  have hnn : Hid (∀ w3, At w3 P L en r.tail → _) := fun w3 h => h.num hk
  generalize Pr.hd en r.tail = y at *
  generalize Pr.hd en r = x at *
  have hlt := hA.lt
  go_enter Tryz.func152, Tryz.ntmps152
  go_wp2_with fail
  refine Calls.mono (hpk.out _ ((Below.refl _ _).alloc (Nat.le_refl _) _)) ?_
  rintro e w1 ⟨rfl, hb0⟩
  obtain ⟨c0, c1, f0, f1, hb, hsz⟩ := fresh2 hb0
  clear hb0
  go_wp2_with fail
  refine Calls.mono (hmu.out _ (below_put hb x)) ?_
  rintro e w2 ⟨rfl, hg, hA2⟩
  obtain ⟨c0, c1, f0, f1, hsz⟩ := kept2b ((Below.refl _ _).alloc (Nat.le_refl _) _) hsz c0 c1 f0 f1
  obtain ⟨c0, c1, f0, f1, hsz⟩ := kept2 hlt hg hsz c0 c1 f0 f1
  have hW := Went.behind (below_put hb x) ⟨hg, hA2⟩
  go_wp2_with fail
  refine Calls.mono (hpk2.out _ hA2) ?_
  obtain ⟨hl, hn⟩ := hnn.out _ hA2
  have hbd := Lib.atoi_bound hn hl
  rintro e w3 ⟨rfl, hb3⟩
  obtain ⟨c0, c1, f0, f1, hsz⟩ := kept2b hb3 hsz c0 c1 f0 f1
  go_wp2_with fail
  simp only [fld2]
  go_wp2_with fail
  refine Calls.mono (hgu.out _ (hA2.below hb3)) ?_
  rintro e w4 ⟨rfl, hg4, hA4⟩
  obtain ⟨d0, d1, g0, g1, hsz4⟩ := kept2 hlt hg4 hsz c0 c1 f0 f1
  have hW4 := Went.trans (hW.below hb3) ⟨hg4, hA4⟩
  clear c0 c1 f0 f1 hg hg4
  obtain ⟨hn1, hn2⟩ := hbd
  go_wp2
  exact bodyPost_ret (v := termVal ⟨[], -Pr.num y.text⟩) (by simp [results, Tryz.results152, go_sem, d0, d1]) rfl ⟨rfl, (hW4.set hlt (Nat.le_refl _) _ _).set hlt (Nat.le_refl _) _ _⟩

end Go.Proofs.YtgpaleifhcdjnaaGreatDoor

/- Rows that the parser makes: of terms, of literals, of rules. -/
namespace Go.Proofs.YtgpaleifhcdjnaaGreatDoor
open Go.RowKit

/-- A row of parts, each of k cells, in a block of its own at B or behind. -/
def RowP (B : Nat) (w : World) (e : TypeId) (k : Nat) (v : Value) (cs : List (List Value)) : Prop :=
  ∃ ao cap, v = .slice ao cs.length cap ∧ (cs = [] ∨ ∃ b cur, ao = some ⟨b, 0, none⟩ ∧ B ≤ b ∧ w.heap[b]? = some (.cells cur e (0, 0)) ∧ ∀ i c, cs[i]? = some c → ∀ j u, c[j]? = some u → w.cell? ⟨b, i * k + j, none⟩ = some u)

theorem flat_length (k : Nat) : ∀ cs : List (List Value), (∀ c, c ∈ cs → c.length = k) → cs.flatten.length = cs.length * k := by
  intro cs
  induction cs with
  | nil => intro _; simp
  | cons c r ih =>
    intro h
    rw [List.flatten_cons, List.length_append, ih (fun c hc => h c (List.mem_cons_of_mem _ hc)), h c List.mem_cons_self, List.length_cons, Nat.add_mul]
    omega
theorem flat_get (k : Nat) : ∀ (cs : List (List Value)), (∀ c, c ∈ cs → c.length = k) → ∀ i c j u, cs[i]? = some c → c[j]? = some u → cs.flatten[i * k + j]? = some u := by
  intro cs
  induction cs with
  | nil => intro _ i c j u h; simp at h
  | cons a r ih =>
    intro h i c j u hi hj
    have ha := h a List.mem_cons_self
    have hjk : j < c.length := by
      rcases Nat.lt_or_ge j c.length with h | h
      · exact h
      · rw [List.getElem?_eq_none h] at hj; cases hj
    rw [List.flatten_cons]
    cases i with
    | zero =>
      have hac : a = c := by simpa using hi
      subst hac
      rw [Nat.zero_mul, Nat.zero_add, List.getElem?_append_left hjk]
      exact hj
    | succ i =>
      rw [List.getElem?_append_right (by rw [ha, Nat.add_mul]; omega), ha, show (i + 1) * k + j - k = i * k + j from by rw [Nat.add_mul]; omega]
      exact ih (fun c hc => h c (List.mem_cons_of_mem _ hc)) i c j u (by simpa using hi) hj

theorem rowP_own {w : World} {base : Nat} {e : TypeId} {k : Nat} {v : Value} {cs : List (List Value)} (hl : ∀ c, c ∈ cs → c.length = k) (h : w.ownsRow base e k v cs.length cs.flatten) : RowP base w e k v cs := by
  rcases h.2 with ⟨hv, h0⟩ | ⟨g, cap, cur, hv, hg, hbk, r⟩
  · exact ⟨none, 0, by rw [hv, h0], .inl (List.eq_nil_of_length_eq_zero h0)⟩
  · refine ⟨some ⟨g, 0, none⟩, cap, hv, .inr ⟨g, cur, rfl, hg, hbk, fun i c hi j u hj => ?_⟩⟩
    subst hv
    have := h.cells (g := g) rfl _ _ (flat_get k cs hl i c j u hi hj)
    have hadd : ∀ k, ((⟨g, 0, none⟩ : Addr).add k) = ⟨g, 0 + k, none⟩ := fun _ => by simp [Addr.add]; exact fun h => h.symm
    rw [hadd] at this
    simpa using this

/-- Blocks of such rows are as they were. -/
def Keeps (B : Nat) (w w' : World) (E : TypeId → Prop) : Prop := ∀ b cur e fz, E e → B ≤ b → w.heap[b]? = some (.cells cur e fz) → w'.heap[b]? = w.heap[b]?
theorem Keeps.mono {B : Nat} {w w' : World} {E E' : TypeId → Prop} (h : Keeps B w w' E) (hE : ∀ e, E' e → E e) : Keeps B w w' E' := fun b cur e fz he hb hh => h b cur e fz (hE e he) hb hh
theorem Keeps.trans {B : Nat} {w w1 w' : World} {E : TypeId → Prop} (h : Keeps B w w1 E) (h1 : Keeps B w1 w' E) : Keeps B w w' E := fun b cur e fz he hb hh => (h1 b cur e fz he hb ((h b cur e fz he hb hh).trans hh)).trans (h b cur e fz he hb hh)
theorem heap_lt {w : World} {b : Nat} {o : Obj} (h : w.heap[b]? = some o) : b < w.heap.size := by
  rcases Nat.lt_or_ge b w.heap.size with h1 | h1
  · exact h1
  · rw [Array.getElem?_eq_none h1] at h; cases h
theorem keeps_grown {B P : Nat} {w w' : World} (E : TypeId → Prop) (h : w.grownBy w' (some P)) (hP : P < B) : Keeps B w w' E := fun b cur e fz _ hb hh => h.block b (heap_lt hh) (by intro h; injection h; omega)
theorem keeps_below {B : Nat} {w w' : World} (E : TypeId → Prop) (h : Below w.heap.size w w') : Keeps B w w' E := fun b _ _ _ _ _ hh => h.block b (heap_lt hh)
theorem keeps_set {B b : Nat} {w : World} (E : TypeId → Prop) (h : b < B) (o : Nat) (v : Value) : Keeps B w (w.setCell ⟨b, o, none⟩ v) E := fun b' _ _ _ _ hb _ => Below.heap_setCell _ _ _ _ (show ¬ b' = b by omega)
theorem keeps_own {B base k n : Nat} {w w' : World} {E : TypeId → Prop} {e1 : TypeId} {v : Value} {xs : List Value} (h : w.grownBy w' v.ownBlock) (hown : w.ownsRow base e1 k v n xs) (hE : ¬ E e1) : Keeps B w w' E := by
  intro b cur e fz he hb hh
  refine h.block b (heap_lt hh) ?_
  intro hv
  rcases hown.2 with ⟨rfl, h0⟩ | ⟨g, cap, cur', rfl, hg, hbk, r⟩
  · cases hv
  · have hbg : b = g := by simpa [Value.ownBlock] using hv
    subst hbg
    rw [hbk] at hh
    injection hh with hh
    injection hh with h1 h2 h3
    exact hE (h2 ▸ he)

theorem RowP.keep {B : Nat} {w w' : World} {E : TypeId → Prop} {e : TypeId} {k : Nat} {v : Value} {cs : List (List Value)} (h : RowP B w e k v cs) (hk : Keeps B w w' E) (he : E e) : RowP B w' e k v cs := by
  obtain ⟨ao, cap, hv, h⟩ := h
  refine ⟨ao, cap, hv, ?_⟩
  rcases h with h | ⟨b, cur, rfl, hb, hh, hc⟩
  · exact .inl h
  · have hs := hk b cur e (0, 0) he hb hh
    exact .inr ⟨b, cur, rfl, hb, hs.trans hh, fun i c hi j u hj => (World.cell?_of_block (a := ⟨b, _, none⟩) hs).trans (hc i c hi j u hj)⟩
theorem RowP.mono {B B' : Nat} {w : World} {e : TypeId} {k : Nat} {v : Value} {cs : List (List Value)} (h : RowP B w e k v cs) (hB : B' ≤ B) : RowP B' w e k v cs := by
  obtain ⟨ao, cap, hv, h⟩ := h
  refine ⟨ao, cap, hv, ?_⟩
  rcases h with h | ⟨b, cur, rfl, hb, hh, hc⟩
  · exact .inl h
  · exact .inr ⟨b, cur, rfl, Nat.le_trans hB hb, hh, hc⟩

def termCells (t : Tr.Term) : List Value := [.string ⟨t.var.toArray⟩, .int .i64 t.n]
def TermsP (B : Nat) (w : World) (v : Value) (l : List Tr.Term) : Prop := RowP B w 59 2 v (l.map termCells)
def litCells (x : Tr.Lit × Value) : List Value := [.int .i64 x.1.kind, .int .i64 x.1.at_, .int .i64 x.1.op, .string ⟨x.1.name.toArray⟩, x.2]
def LitsP (B : Nat) (w : World) (v : Value) (l : List Tr.Lit) : Prop := ∃ q : List (Tr.Lit × Value), q.map (·.1) = l ∧ RowP B w 61 5 v (q.map litCells) ∧ ∀ p, p ∈ q → TermsP B w p.2 p.1.terms
def ruleCells (x : Tr.Rule × Value × Value) : List Value := [.int .i64 x.1.at_, .string ⟨x.1.name.toArray⟩, x.2.1, .int .i64 x.1.fold, x.2.2]
def RulesP (B : Nat) (w : World) (v : Value) (l : List Tr.Rule) : Prop := ∃ q : List (Tr.Rule × Value × Value), q.map (·.1) = l ∧ RowP B w 57 5 v (q.map ruleCells) ∧ ∀ p, p ∈ q → TermsP B w p.2.1 p.1.terms ∧ LitsP B w p.2.2 p.1.body

theorem TermsP.keep {B : Nat} {w w' : World} {v : Value} {l : List Tr.Term} (h : TermsP B w v l) (hk : Keeps B w w' (· = 59)) : TermsP B w' v l := RowP.keep h hk rfl
theorem TermsP.mono {B B' : Nat} {w : World} {v : Value} {l : List Tr.Term} (h : TermsP B w v l) (hB : B' ≤ B) : TermsP B' w v l := RowP.mono h hB
theorem LitsP.keep {B : Nat} {w w' : World} {v : Value} {l : List Tr.Lit} (h : LitsP B w v l) (hk : Keeps B w w' (fun e => e = 59 ∨ e = 61)) : LitsP B w' v l := by
  obtain ⟨q, h1, h2, h3⟩ := h
  exact ⟨q, h1, h2.keep hk (.inr rfl), fun p hp => (h3 p hp).keep (hk.mono fun e he => .inl he)⟩
theorem LitsP.mono {B B' : Nat} {w : World} {v : Value} {l : List Tr.Lit} (h : LitsP B w v l) (hB : B' ≤ B) : LitsP B' w v l := by
  obtain ⟨q, h1, h2, h3⟩ := h
  exact ⟨q, h1, h2.mono hB, fun p hp => (h3 p hp).mono hB⟩

theorem row_get {B : Nat} {w : World} {e : TypeId} {k : Nat} {v : Value} {α : Type} {cells : α → List Value} {l : List α} (h : RowP B w e k v (l.map cells)) :
    ∃ ao cap, v = .slice ao l.length cap ∧ (l = [] ∨ ∃ b, ao = some ⟨b, 0, none⟩ ∧ ∀ i x, l[i]? = some x → ∀ j u, (cells x)[j]? = some u → w.cell? ⟨b, i * k + j, none⟩ = some u) := by
  obtain ⟨ao, cap, hv, h⟩ := h
  rw [List.length_map] at hv
  refine ⟨ao, cap, hv, ?_⟩
  rcases h with h | ⟨b, cur, rfl, hb, hh, hc⟩
  · exact .inl (by simpa using h)
  · exact .inr ⟨b, rfl, fun i x hi j u hj => hc i (cells x) (by rw [List.getElem?_map, hi]; rfl) j u hj⟩

theorem TermsP.toV {B : Nat} {w : World} {v : Value} {l : List Tr.Term} (h : TermsP B w v l) : TermsV w v l := by
  obtain ⟨ao, cap, hv, h⟩ := row_get h
  refine ⟨ao, cap, hv, ?_⟩
  rcases h with h | ⟨b, rfl, hc⟩
  · exact .inl h
  · refine .inr ⟨b, 0, rfl, fun i hi => ?_⟩
    have hx : l[i]? = some (Tr.termD l i) := by simp [Tr.termD, hi]
    rw [Nat.zero_add]
    exact ⟨hc i _ hx 0 _ rfl, hc i _ hx 1 _ rfl⟩
theorem LitsP.toV {B : Nat} {w : World} {v : Value} {l : List Tr.Lit} (h : LitsP B w v l) : LitsV w v l := by
  obtain ⟨q, rfl, h2, h3⟩ := h
  obtain ⟨ao, cap, hv, h⟩ := row_get h2
  refine ⟨ao, cap, by rw [hv, List.length_map], ?_⟩
  rcases h with h | ⟨b, rfl, hc⟩
  · exact .inl (by simp [h])
  · refine .inr ⟨b, 0, rfl, fun i hi => ?_⟩
    rw [List.length_map] at hi
    have hq : q[i]? = some q[i] := List.getElem?_eq_getElem hi
    have hx : Tr.litD (q.map (·.1)) i = q[i].1 := by simp [Tr.litD, hi]
    rw [Nat.zero_add, hx]
    exact ⟨hc i _ hq 0 _ rfl, hc i _ hq 1 _ rfl, hc i _ hq 2 _ rfl, hc i _ hq 3 _ rfl, q[i].2, hc i _ hq 4 _ rfl, (h3 _ (List.getElem_mem hi)).toV⟩
theorem RulesP.toV {B : Nat} {w : World} {v : Value} {l : List Tr.Rule} (h : RulesP B w v l) : RulesV w v l := by
  obtain ⟨q, rfl, h2, h3⟩ := h
  obtain ⟨ao, cap, hv, h⟩ := row_get h2
  refine ⟨ao, cap, by rw [hv, List.length_map], ?_⟩
  rcases h with h | ⟨b, rfl, hc⟩
  · exact .inl (by simp [h])
  · refine .inr ⟨b, 0, rfl, fun i hi => ?_⟩
    rw [List.length_map] at hi
    have hq : q[i]? = some q[i] := List.getElem?_eq_getElem hi
    have hx : Tr.ruleD (q.map (·.1)) i = q[i].1 := by simp [Tr.ruleD, hi]
    rw [Nat.zero_add, hx]
    have h4 := h3 _ (List.getElem_mem hi)
    exact ⟨hc i _ hq 0 _ rfl, hc i _ hq 1 _ rfl, ⟨q[i].2.1, hc i _ hq 2 _ rfl, h4.1.toV⟩, hc i _ hq 3 _ rfl, q[i].2.2, hc i _ hq 4 _ rfl, h4.2.toV⟩

/-- A term, or where it is wrong. -/
theorem term_yes (P : Nat) (L : List Tk.Tok) (en : Int) (r : List Tk.Tok) (w : World) (hA : At w P L en r) (t : Tr.Term) (r' : List Tk.Tok) (h : Pr.term en r = .inr (t, r')) :
    Calls Tryz.prog 152 #[.pointer (some ⟨P, 0, none⟩)] w fun e w' => e = .returned (termVal t) ∧ Went w w' P L en r' := by
  unfold Pr.term at h
  cases h2 : ((Pr.hd en r).kind == 2)
  · cases h3 : ((Pr.hd en r).kind == 3)
    · rw [h2, h3] at h
      simp only [Bool.false_eq_true, if_false] at h
      unfold Pr.must at h
      cases ht : ((Pr.hd en r).text == [45])
      · rw [ht] at h; simp at h
      · rw [ht] at h
        simp only [if_true] at h
        unfold Pr.neg at h
        cases h0 : ((Pr.hd en r.tail).text == [48])
        · rw [h0] at h
          simp only [Bool.false_eq_true, if_false] at h
          unfold Pr.number at h
          cases hk : ((Pr.hd en r.tail).kind == 3)
          · rw [hk] at h; simp at h
          · rw [hk] at h
            simp only [if_true, Sum.inr.injEq, Prod.mk.injEq] at h
            obtain ⟨rfl, rfl⟩ := h
            exact term_neg P L en r w hA h2 h3 ht h0 hk
        · rw [h0] at h; simp at h
    · rw [h2, h3] at h
      simp only [Bool.false_eq_true, if_false, if_true, Sum.inr.injEq, Prod.mk.injEq] at h
      obtain ⟨rfl, rfl⟩ := h
      exact term_num P L en r w hA h3
  · rw [h2] at h
    simp only [if_true, Sum.inr.injEq, Prod.mk.injEq] at h
    obtain ⟨rfl, rfl⟩ := h
    exact term_var P L en r w hA h2
theorem term_no (P : Nat) (L : List Tk.Tok) (en : Int) (r : List Tk.Tok) (w : World) (hA : At w P L en r) (a : Int) (h : Pr.term en r = .inl a) :
    Calls Tryz.prog 152 #[.pointer (some ⟨P, 0, none⟩)] w fun e w' => e = gaveP a ∧ w.grownBy w' (some P) := by
  unfold Pr.term at h
  cases h2 : ((Pr.hd en r).kind == 2)
  · cases h3 : ((Pr.hd en r).kind == 3)
    · rw [h2, h3] at h
      simp only [Bool.false_eq_true, if_false] at h
      unfold Pr.must at h
      cases ht : ((Pr.hd en r).text == [45])
      · rw [ht] at h
        simp only [Bool.false_eq_true, if_false, Sum.inl.injEq] at h
        subst h
        exact term_off P L en r w hA h2 h3 ht
      · rw [ht] at h
        simp only [if_true] at h
        unfold Pr.neg at h
        cases h0 : ((Pr.hd en r.tail).text == [48])
        · rw [h0] at h
          simp only [Bool.false_eq_true, if_false] at h
          unfold Pr.number at h
          cases hk : ((Pr.hd en r.tail).kind == 3)
          · rw [hk] at h
            simp only [Bool.false_eq_true, if_false, Sum.inl.injEq] at h
            subst h
            exact term_nonum P L en r w hA h2 h3 ht h0 hk
          · rw [hk] at h; simp at h
        · rw [h0] at h
          simp only [if_true, Sum.inl.injEq] at h
          subst h
          exact term_zero P L en r w hA h2 h3 ht h0
    · rw [h2, h3] at h; simp at h
  · rw [h2] at h; simp at h

end Go.Proofs.YtgpaleifhcdjnaaGreatDoor

/- Package scope: which variables are bound. -/
namespace Go.Proofs.YtgpaleifhcdjnaaGreatDoor
open Go.RowKit

/-- The block of what is bound: a box with a slice of bools. -/
structure Bd (w : World) (X : Nat) (R : Nat) (bs : List Bool) : Prop where
  box : w.heap[X]? = some (.cells #[.slice (some ⟨R, 0, none⟩) bs.length bs.length] 160 (0, 0))
  row : w.heap[R]? = some (.cells (bs.map Value.bool).toArray 4 (0, 0))
theorem Bd.c0 {w : World} {X R : Nat} {bs : List Bool} (h : Bd w X R bs) : w.cell? ⟨X, 0, none⟩ = some (.slice (some ⟨R, 0, none⟩) bs.length bs.length) := by rw [Lib.cell_of_heap h.box]; rfl
theorem Bd.at {w : World} {X R : Nat} {bs : List Bool} (h : Bd w X R bs) (i : Nat) (hi : i < bs.length) : w.cell? ⟨R, i, none⟩ = some (.bool (bs.getD i false)) := by
  rw [Lib.cell_of_heap h.row]
  simp [List.getD_eq_getElem?_getD, hi]
theorem Bd.below {w w' : World} {X R : Nat} {bs : List Bool} (h : Bd w X R bs) (hb : Below w.heap.size w w') : Bd w' X R bs :=
  ⟨(hb.block _ (heap_lt h.box)).trans h.box, (hb.block _ (heap_lt h.row)).trans h.row⟩

set_option maxRecDepth 100000 in
set_option maxHeartbeats 400000 in
theorem known_any (X R : Nat) (bs : List Bool) (t : Sc.Term) (w : World) (hB : Bd w X R bs) (ht : t.var < bs.length) :
    Calls Tryz.prog 135 #[ptermVal t, .pointer (some ⟨X, 0, none⟩)] w fun e w' => e = .returned (.bool (Sc.known bs t)) ∧ Below w.heap.size w w' := by
  have hc0 := hB.c0
  have hX := heap_lt hB.box
  have hR := heap_lt hB.row
  have hb0 : ∀ o, Below w.heap.size w (w.alloc o) := fun o => (Below.refl _ _).alloc (Nat.le_refl _) o
  unfold Sc.known
  by_cases h : t.var < 0
  · have g : decide (t.var < 0) = true := decide_eq_true h
    go_enter Tryz.func135, Tryz.ntmps135
    go_wp2
    go_ret
    exact ⟨by rw [g]; rfl, hb0 _⟩
  · have g : decide (t.var < 0) = false := decide_eq_false h
    obtain ⟨k, hk⟩ : ∃ k : Nat, t.var = k := ⟨t.var.toNat, by omega⟩
    have hkl : k < bs.length := by omega
    have hcR := hB.at k hkl
    obtain ⟨var, nn⟩ := t
    simp only at hk ht h g
    subst hk
    clear h ht hB
    go_enter Tryz.func135, Tryz.ntmps135
    go_wp2_with fail
    go_ret
    exact ⟨by rw [g]; simp [hkl], hb0 _⟩

theorem enters135 : Enters 135 := enters_of Tryz.func135 (by kernel_rfl) rfl
/-- What binds may lean on. -/
def LitGood (n : Nat) (x : Sc.Lit) : Prop := (x.kind = 4 → x.terms.length = 3) ∧ (∀ t, t ∈ x.terms → t.var < n) ∧ x.terms.length ≤ 9223372036854775807
theorem good_at {n : Nat} {x : Sc.Lit} (h : LitGood n x) (i : Nat) (hi : i < x.terms.length) : (Sc.termD x.terms i).var < n := by
  refine h.2.1 _ ?_
  unfold Sc.termD
  rw [List.getD_eq_getElem?_getD, List.getElem?_eq_getElem hi]
  exact List.getElem_mem hi
theorem pterms_at {w : World} {ao : Option Addr} {l : List Sc.Term} (h : PTermsAt w ao l) (n : Nat) (hn : n < l.length) : ∃ b off, ao = some ⟨b, off, none⟩ ∧ ∀ i, i < l.length → PTermIn w b (off + i * 2) (Sc.termD l i) := by
  rcases h with h | ⟨b, off, ha, hc⟩
  · rw [h] at hn; exact absurd hn (by simp)
  · exact ⟨b, off, ha, hc⟩

set_option maxRecDepth 100000 in
set_option maxHeartbeats 1000000 in
theorem binds_any (X R : Nat) (bs : List Bool) (x : Sc.Lit) (v : Value) (w : World) (hB : Bd w X R bs) (hT : PTermsV w v x.terms) (hG : LitGood bs.length x) :
    Calls Tryz.prog 136 #[plitVal x v, .func (.func 135) #[] #[.pointer (some ⟨X, 0, none⟩)]] w fun e w' => ∃ u, e = .returned u ∧ (∀ y, PTermsV y v x.terms → PTermsV y u (Sc.binds bs x)) ∧ Below w.heap.size w w' := by
  have he := enters135
  unfold Enters at he
  have hb0 : ∀ o, Below w.heap.size w (w.alloc o) := fun o => (Below.refl _ _).alloc (Nat.le_refl _) o
  obtain ⟨kind, op, pred, ts⟩ := x
  obtain ⟨ao, cap, rfl, hcap, hA⟩ := hT
  have hA : PTermsAt w ao ts := hA
  have HT : Hid (PTermsAt w ao ts) := hA
  have hcap : ts.length ≤ cap := hcap
  cases g1 : (kind == 1)
  · have h1 : ¬ kind = 1 := by simpa using g1
    cases g4 : (kind == 4)
    · have h4 : ¬ kind = 4 := by simpa using g4
      have HV : Hid (Sc.binds bs ⟨kind, op, pred, ts⟩ = []) := by show _ = _; simp [Sc.binds, h1, h4]
      clear h1 h4 hA
      go_enter Tryz.func136, Tryz.ntmps136
      go_wp2_with fail
      go_ret
      exact ⟨_, rfl, by rw [HV.out]; exact fun _ _ => ⟨none, 0, rfl, Nat.le_refl _, .inl rfl⟩, hb0 _⟩
    · have h4 : kind = 4 := by simpa using g4
      have hl : ts.length = 3 := hG.1 h4
      obtain ⟨b, off, rfl, hc⟩ := pterms_at hA 0 (by omega)
      obtain ⟨a0, a1⟩ := hc 0 (by omega)
      obtain ⟨a2, a3⟩ := hc 1 (by omega)
      have hv0 : (Sc.termD ts 0).var < bs.length := good_at hG 0 (show 0 < ts.length by omega)
      have hv1 : (Sc.termD ts 1).var < bs.length := good_at hG 1 (show 1 < ts.length by omega)
      simp only [Nat.zero_mul, Nat.one_mul, Nat.add_zero] at a0 a1 a2 a3
      have hbw : b < w.heap.size := World.block_lt_of_cell? w _ a0
      have HK0 : Hid (∀ y, Below w.heap.size w y → Calls Tryz.prog 135 #[ptermVal (Sc.termD ts 0), .pointer (some ⟨X, 0, none⟩)] y fun e w' => e = .returned (.bool (Sc.known bs (Sc.termD ts 0))) ∧ Below y.heap.size y w') := fun y hy => known_any X R bs _ y (hB.below hy) hv0
      have HK1 : Hid (∀ y, Below w.heap.size w y → Calls Tryz.prog 135 #[ptermVal (Sc.termD ts 1), .pointer (some ⟨X, 0, none⟩)] y fun e w' => e = .returned (.bool (Sc.known bs (Sc.termD ts 1))) ∧ Below y.heap.size y w') := fun y hy => known_any X R bs _ y (hB.below hy) hv1
      have HB : Hid (Sc.binds bs ⟨kind, op, pred, ts⟩ = if Sc.known bs (Sc.termD ts 0) = true ∧ Sc.known bs (Sc.termD ts 1) = true then ts.drop 2 else []) := by show _ = _; simp [Sc.binds, h4]
      have HC : Hid (∀ i, i < ts.length → PTermIn w b (off + i * 2) (Sc.termD ts i)) := hc
      subst h4
      have hl' : Hid (ts.length = 3) := hl
      have hcap3 : 3 ≤ cap := by omega
      have hX0 := heap_alloc_new w (.cells #[.int .i64 4, .int .i64 op, .int .i64 pred, .slice (some ⟨b, off, none⟩) 3 cap] 84)
      have hbx := hb0 (.cells #[.int .i64 4, .int .i64 op, .int .i64 pred, .slice (some ⟨b, off, none⟩) 3 cap] 84)
      rw [show ts.length = 3 from hl]
      clear hc hA HT hB hG hcap hl h1
      generalize hT0 : Sc.termD ts 0 = t0 at *
      generalize hT1 : Sc.termD ts 1 = t1 at *
      clear hT0 hT1
      go_enter Tryz.func136, Tryz.ntmps136
      go_wp2_with fail
      refine Calls.mono (HK0.out _ hbx) ?_
      rintro e w1 ⟨rfl, hb1⟩
      have hX1 := (hb1.block _ (heap_lt hX0)).trans hX0
      have hw1 := hbx.trans (hb1.mono hbx.size)
      have b0 := cell_below hw1 a0
      have b1 := cell_below hw1 a1
      have b2 := cell_below hw1 a2
      have b3 := cell_below hw1 a3
      have d0 : w1.cell? ⟨w.heap.size, 3, none⟩ = some (.slice (some ⟨b, off, none⟩) 3 cap) := by rw [Lib.cell_of_heap hX1]; rfl
      clear hb1 hX0 hbx HK0
      cases hk0 : Sc.known bs t0
      · have HV : Hid (Sc.binds bs ⟨4, op, pred, ts⟩ = []) := by show _ = _; rw [HB.out, hk0]; simp
        go_wp2_with fail
        go_ret
        exact ⟨_, rfl, by rw [HV.out]; exact fun _ _ => ⟨none, 0, rfl, Nat.le_refl _, .inl rfl⟩, hw1⟩
      · go_wp2_with fail
        refine Calls.mono (HK1.out _ hw1) ?_
        rintro e w2 ⟨rfl, hb2⟩
        have hX2 := (hb2.block _ (heap_lt hX1)).trans hX1
        have hw2 := hw1.trans (hb2.mono hw1.size)
        have d2 : w2.cell? ⟨w.heap.size, 3, none⟩ = some (.slice (some ⟨b, off, none⟩) 3 cap) := by rw [Lib.cell_of_heap hX2]; rfl
        clear hb2 hX1 d0 b0 b1 b2 b3
        cases hk1 : Sc.known bs t1
        · have HV : Hid (Sc.binds bs ⟨4, op, pred, ts⟩ = []) := by show _ = _; rw [HB.out, hk0, hk1]; simp
          go_wp2_with fail
          go_ret
          exact ⟨_, rfl, by rw [HV.out]; exact fun _ _ => ⟨none, 0, rfl, Nat.le_refl _, .inl rfl⟩, hw2⟩
        · have HV : Hid (Sc.binds bs ⟨4, op, pred, ts⟩ = ts.drop 2) := by show _ = _; rw [HB.out, hk0, hk1]; simp
          go_wp2_with fail
          go_ret
          refine ⟨_, rfl, ?_, hw2⟩
          rw [HV.out]
          show ∀ y, PTermsV y (.slice (some ⟨b, off, none⟩) 3 cap) ts → PTermsV y (.slice (some ⟨b, off + 4, none⟩) 1 (cap - 2)) (ts.drop 2)
          intro y hy
          have hl1 : (ts.drop 2).length = 1 := by rw [List.length_drop, hl'.out]
          refine ⟨some ⟨b, off + 4, none⟩, cap - 2, by rw [hl1], by omega, .inr ⟨b, off + 4, rfl, fun i hi => ?_⟩⟩
          obtain rfl : i = 0 := by omega
          obtain ⟨ao', cap', hv, _, hy⟩ := hy
          injection hv with e1 e2 e3
          subst e1
          obtain ⟨b', off', hb', hy⟩ := pterms_at hy 2 (by rw [hl'.out]; omega)
          obtain ⟨rfl, rfl⟩ : b = b' ∧ off = off' := by simpa using hb'
          have h2 := hy 2 (by rw [hl'.out]; omega)
          have hd : Sc.termD (ts.drop 2) 0 = Sc.termD ts 2 := by simp [Sc.termD, List.getD_eq_getElem?_getD]
          rw [hd]
          exact h2
  · have h1 : kind = 1 := by simpa using g1
    have HV : Hid (Sc.binds bs ⟨kind, op, pred, ts⟩ = ts) := by show _ = _; simp [Sc.binds, h1]
    clear h1 hA
    go_enter Tryz.func136, Tryz.ntmps136
    go_wp2_with fail
    go_ret
    exact ⟨_, rfl, by rw [HV.out]; exact fun _ h => h, hb0 _⟩

set_option maxRecDepth 100000 in
set_option maxHeartbeats 400000 in
theorem index_any (R : Nat) (bs : List Bool) (n cap : Nat) (w : World) (hn : bs.length = n) (hmax : n ≤ 9223372036854775807) (hB : ∀ i, i < n → w.cell? ⟨R, i, none⟩ = some (.bool (bs.getD i false))) :
    Calls Tryz.prog 156 #[.slice (some ⟨R, 0, none⟩) n cap, .bool false] w fun e w' => ∃ r : Int, e = .returned (.int .i64 r) ∧ decide (0 ≤ r) = !(bs.all id) ∧ ∃ k, w' = w.drewN k := by
  have HN : Hid (bs.length = n) := hn
  clear hn
  go_enter Tryz.func156, Tryz.ntmps156
  go_wp2_with fail
  go_loopw [8] (fun i wr => ∃ k : Nat, k ≤ n ∧ i = .int .i64 k ∧ bs.all id = (bs.drop k).all id ∧ ∃ q, wr = w.drewN q) (fun i _ => n - (intOf i).toNat)
  case atStart => exact ⟨0, Nat.zero_le _, rfl, rfl, 0, rfl⟩
  case round =>
    obtain ⟨k, hk, rfl, hall, q, rfl⟩ := hrel
    have HA : Hid (bs.all id = (bs.drop k).all id) := hall
    clear hall
    by_cases hlt : k < n
    · have hc := hB k hlt
      have HD : Hid (bs.all id = (bs.getD k false && (bs.drop (k + 1)).all id)) := HA.out.trans (all_drop _ _ _ k (by rw [HN.out]; exact hlt))
      clear hB HA
      generalize bs.getD k false = x at *
      cases x
      · have HV : Hid (bs.all id = false) := HD.out
        go_wp2_with fail
        go_ret
        exact ⟨k, rfl, by rw [HV.out]; simp, _, rfl⟩
      · have HV : Hid (bs.all id = (bs.drop (k + 1)).all id) := by show _ = _; rw [HD.out]; rfl
        clear HD
        go_wp2_with fail
        go_roundw
        case rel => exact ⟨k + 1, by omega, by go_num, HV.out, _, rfl⟩
        case measure => simp [intOf]; omega
    · have HV : Hid (bs.all id = true) := by show _ = _; rw [HA.out, List.drop_of_length_le (by rw [HN.out]; omega)]; rfl
      clear hB
      go_wp2_with fail
      go_ret
      exact ⟨-1, rfl, by rw [HV.out]; rfl, _, rfl⟩

set_option maxRecDepth 100000 in
set_option maxHeartbeats 400000 in
theorem contains_any (R : Nat) (bs : List Bool) (n cap : Nat) (w : World) (hn : bs.length = n) (hmax : n ≤ 9223372036854775807) (hB : ∀ i, i < n → w.cell? ⟨R, i, none⟩ = some (.bool (bs.getD i false))) :
    Calls Tryz.prog 137 #[.slice (some ⟨R, 0, none⟩) n cap, .bool false] w fun e w' => e = .returned (.bool (!(bs.all id))) ∧ ∃ k, w' = w.drewN k := by
  go_enter Tryz.func137, Tryz.ntmps137
  go_wp2_with fail
  refine (index_any R bs n cap w hn hmax hB).mono ?_
  rintro e w1 ⟨r, rfl, hr, k, rfl⟩
  go_wp2_with fail
  go_ret
  exact ⟨rfl, _, rfl⟩

/-- A rule whose literals are right. -/
def RuleGood (r : Sc.Rule) : Prop := 0 ≤ r.vars ∧ r.vars ≤ 8 ∧ r.body.length ≤ 4 ∧ ∀ i, i < r.body.length → LitGood r.vars.toNat (Sc.litD r.body i)

/-- What stands while isSafe goes on. -/
structure SInv (w : World) (rb : Obj) (X R : Nat) (bs : List Bool) (wr : World) : Prop where
  bel : Below w.heap.size w wr
  box : wr.heap[w.heap.size]? = some rb
  bd : Bd wr X R bs
  r0 : w.heap.size < R
  r1 : R < X
theorem SInv.below {w wr w2 : World} {rb : Obj} {X R : Nat} {bs : List Bool} (h : SInv w rb X R bs wr) (hb : Below wr.heap.size wr w2) : SInv w rb X R bs w2 :=
  ⟨h.bel.trans (hb.mono h.bel.size), (hb.block _ (heap_lt h.box)).trans h.box, h.bd.below hb, h.r0, h.r1⟩
theorem SInv.set {w wr : World} {rb : Obj} {X R : Nat} {bs : List Bool} (h : SInv w rb X R bs wr) (k : Nat) : SInv w rb X R (bs.set k true) (wr.setCell ⟨R, k, none⟩ (.bool true)) := by
  have h0 := h.r0
  have h1 := h.r1
  refine ⟨h.bel.setCell (p := ⟨R, k, none⟩) (Nat.le_of_lt h0) _, ?_, ⟨?_, ?_⟩, h0, h1⟩
  · rw [Below.heap_setCell _ _ _ _ (show ¬ w.heap.size = R by omega)]; exact h.box
  · rw [Below.heap_setCell _ _ _ _ (show ¬ X = R by omega), List.length_set]; exact h.bd.box
  · rw [Lib.heap_setCell_same h.bd.row]
    simp [List.map_set]
theorem made_bools (n : Nat) : madeCells #[Value.bool false] n = ((List.replicate n false).map Value.bool).toArray := by
  apply Array.ext
  · simp [size_madeCells]
  · intro i h1 h2
    simp [madeCells, Nat.mod_one]
theorem rounds_step (body : List Sc.Lit) (n k : Nat) (h : k < n) (b : List Bool) : Sc.rounds body (n - k) b = Sc.rounds body (n - (k + 1)) (Sc.round body b) := by
  obtain ⟨m, hm⟩ : ∃ m, n - k = m + 1 := ⟨n - k - 1, by omega⟩
  rw [hm, show n - (k + 1) = m by omega]
  rfl
theorem foldl_drop {α β : Type} (f : β → α → β) (d : α) (l : List α) (k : Nat) (h : k < l.length) (b : β) : (l.drop k).foldl f b = (l.drop (k + 1)).foldl f (f b (l.getD k d)) := by
  rw [List.drop_eq_getElem_cons h, List.foldl_cons, List.getD_eq_getElem?_getD, List.getElem?_eq_getElem h]
  rfl
theorem binds_sub {bs : List Bool} {x : Sc.Lit} {t : Sc.Term} (h : t ∈ Sc.binds bs x) : t ∈ x.terms := by
  unfold Sc.binds at h
  split at h
  · exact h
  · split at h
    · exact List.mem_of_mem_drop h
    · simp at h
theorem binds_len (bs : List Bool) (x : Sc.Lit) : (Sc.binds bs x).length ≤ x.terms.length := by
  unfold Sc.binds
  split
  · exact Nat.le_refl _
  · split
    · simp
    · simp
theorem termD_mem {l : List Sc.Term} {i : Nat} (h : i < l.length) : Sc.termD l i ∈ l := by
  unfold Sc.termD
  rw [List.getD_eq_getElem?_getD, List.getElem?_eq_getElem h]
  exact List.getElem_mem h
theorem plits_at {w : World} {ao : Option Addr} {l : List Sc.Lit} (h : PLitsAt w ao l) (n : Nat) (hn : n < l.length) : ∃ b off, ao = some ⟨b, off, none⟩ ∧ PLitIn w b (off + n * 4) (Sc.litD l n) := by
  rcases h with h | ⟨b, off, ha, hc⟩
  · rw [h] at hn; exact absurd hn (by simp)
  · exact ⟨b, off, ha, hc n hn⟩

set_option maxRecDepth 100000 in
set_option maxHeartbeats 1000000 in
theorem isSafe_any (r : Sc.Rule) (vt vb : Value) (w : World) (hL : PLitsV w vb r.body) (hG : RuleGood r) :
    Calls Tryz.prog 102 #[pruleVal r vt vb] w fun e w' => e = .returned (.bool (Sc.safe r)) ∧ Below w.heap.size w w' := by
  obtain ⟨pred, ts, fold, body, vars⟩ := r
  obtain ⟨h0, h8, h4, hG⟩ := hG
  obtain ⟨nv, hnv⟩ : ∃ nv : Nat, vars = nv := ⟨vars.toNat, by simp only at h0; omega⟩
  subst hnv
  simp only [Int.toNat_natCast] at *
  obtain ⟨ab, cb, rfl, hL⟩ := hL
  have hmk := run_make_row' (P := Tryz.prog) 160 4 (.bool false) 1 Tryz.underlying160 (by kernel_rfl) rfl .i64 .i64 nv (by omega) (by omega)
  have hmf : ∀ (fn : Fn) (first cap : Array Value) (w : World), (Instr.makeFunc fn first cap).run Tryz.prog w = .ok (.func fn first cap) w := fun _ _ _ _ => rfl
  have hst : SInv w (.cells #[.int .i64 pred, vt, .int .i64 fold, .slice ab body.length cb, .int .i64 nv] 67) (w.heap.size + 1 + 1) (w.heap.size + 1) (List.replicate nv false) (((w.alloc (.cells #[.int .i64 pred, vt, .int .i64 fold, .slice ab body.length cb, .int .i64 nv] 67)).alloc (.cells (madeCells #[Value.bool false] nv) 4)).alloc (.cells #[.slice (some ⟨w.heap.size + 1, 0, none⟩) nv nv] 160)) := by
    have e1 := heap_alloc_new w (.cells #[.int .i64 pred, vt, .int .i64 fold, .slice ab body.length cb, .int .i64 nv] 67)
    have e2 := heap_alloc_new (w.alloc (.cells #[.int .i64 pred, vt, .int .i64 fold, .slice ab body.length cb, .int .i64 nv] 67)) (.cells (madeCells #[Value.bool false] nv) 4)
    have e3 := heap_alloc_new ((w.alloc (.cells #[.int .i64 pred, vt, .int .i64 fold, .slice ab body.length cb, .int .i64 nv] 67)).alloc (.cells (madeCells #[Value.bool false] nv) 4)) (.cells #[.slice (some ⟨w.heap.size + 1, 0, none⟩) nv nv] 160)
    have s1 : (w.alloc (.cells #[.int .i64 pred, vt, .int .i64 fold, .slice ab body.length cb, .int .i64 nv] 67)).heap.size = w.heap.size + 1 := by simp
    have s2 : ((w.alloc (.cells #[.int .i64 pred, vt, .int .i64 fold, .slice ab body.length cb, .int .i64 nv] 67)).alloc (.cells (madeCells #[Value.bool false] nv) 4)).heap.size = w.heap.size + 1 + 1 := by simp
    rw [s1] at e2
    rw [s2] at e3
    have B : ∀ (u : World) (o : Obj), Below u.heap.size u (u.alloc o) := fun u o => (Below.refl _ _).alloc (Nat.le_refl _) o
    have b2 := B (w.alloc (.cells #[.int .i64 pred, vt, .int .i64 fold, .slice ab body.length cb, .int .i64 nv] 67)) (.cells (madeCells #[Value.bool false] nv) 4)
    have b3 := B ((w.alloc (.cells #[.int .i64 pred, vt, .int .i64 fold, .slice ab body.length cb, .int .i64 nv] 67)).alloc (.cells (madeCells #[Value.bool false] nv) 4)) (.cells #[.slice (some ⟨w.heap.size + 1, 0, none⟩) nv nv] 160)
    have b1 := B w (.cells #[.int .i64 pred, vt, .int .i64 fold, .slice ab body.length cb, .int .i64 nv] 67)
    have b12 := b1.trans (b2.mono b1.size)
    refine ⟨b12.trans (b3.mono b12.size), (b3.block _ (by rw [s2]; omega)).trans ((b2.block _ (by rw [s1]; omega)).trans e1), ⟨by simpa using e3, ?_⟩, by omega, by omega⟩
    rw [← made_bools]
    exact (b3.block _ (by rw [s2]; omega)).trans e2
  have HS : Hid (Sc.safe ⟨pred, ts, fold, body, nv⟩ = (Sc.rounds body body.length (List.replicate nv false)).all id) := rfl
  have hlen0 : (List.replicate nv false).length = nv := by simp
  go_enter Tryz.func102, Tryz.ntmps102
  go_wp2_with fail
  generalize ((w.alloc (.cells #[.int .i64 pred, vt, .int .i64 fold, .slice ab body.length cb, .int .i64 nv] 67)).alloc (.cells (madeCells #[Value.bool false] nv) 4)).alloc (.cells #[.slice (some ⟨w.heap.size + 1, 0, none⟩) nv nv] 160) = w0 at *
  generalize w.heap.size + 1 + 1 = X at *
  generalize hR : w.heap.size + 1 = R at *
  clear hR
  generalize List.replicate nv false = bz at *
  generalize hrb : Obj.cells #[.int .i64 pred, vt, .int .i64 fold, .slice ab body.length cb, .int .i64 nv] 67 = rb at *
  have HRB : Hid _ := hrb
  clear hrb
  go_loopw [16] (fun i wr => ∃ (k : Nat) (bs : List Bool), k ≤ body.length ∧ i = .int .i64 k ∧ SInv w rb X R bs wr ∧ bs.length = nv ∧ Sc.rounds body (body.length - k) bs = Sc.rounds body body.length bz) (fun i _ => body.length - (intOf i).toNat)
  case atStart => exact ⟨0, bz, Nat.zero_le _, rfl, hst, hlen0, rfl⟩
  case round =>
    obtain ⟨k, bs0, hk, rfl, hI, hn0, hrd⟩ := hrel
    have HR : Hid _ := hrd
    clear hrd hst hlen0
    have cb3 : wr.cell? ⟨w.heap.size, 3, none⟩ = some (.slice ab body.length cb) := by rw [Lib.cell_of_heap (hI.box.trans (congrArg some HRB.out.symm))]; rfl
    by_cases hlt : k < body.length
    · go_wp2_with fail
      go_loopw [21] (fun i wq => ∃ (j : Nat) (bs : List Bool), j ≤ body.length ∧ i = .int .i64 j ∧ SInv w rb X R bs wq ∧ bs.length = nv ∧ (body.drop j).foldl Sc.bindLit bs = Sc.round body bs0) (fun i _ => body.length - (intOf i).toNat)
      case atStart => exact ⟨0, bs0, Nat.zero_le _, rfl, hI, hn0, rfl⟩
      case round =>
        clear hI cb3 hn0
        obtain ⟨j, bs1, hj, rfl, hI, hn1, hfd⟩ := hrel
        have HFD : Hid _ := hfd
        clear hfd
        by_cases hjl : j < body.length
        · obtain ⟨b, off, rfl, p0, p1, p2, v, p3, hT⟩ := plits_at hL j hjl
          have HT : Hid (PTermsV w v (Sc.litD body j).terms) := hT
          obtain ⟨at_, ct, rfl, _, _⟩ := hT
          have q0 := cell_below hI.bel p0
          have q1 := cell_below hI.bel p1
          have q2 := cell_below hI.bel p2
          have q3 := cell_below hI.bel p3
          have hg := hG j hjl
          rw [← hn1] at hg
          have HF2 : Hid ((body.drop (j + 1)).foldl Sc.bindLit (Sc.bindLit bs1 (Sc.litD body j)) = Sc.round body bs0) := (foldl_drop Sc.bindLit ⟨0, 0, 0, []⟩ body j hjl bs1).symm.trans HFD.out
          have hb1 : Below wr.heap.size wr (wr.alloc (.cells #[.int .i64 (Sc.litD body j).kind, .int .i64 (Sc.litD body j).op, .int .i64 (Sc.litD body j).pred, .slice at_ (Sc.litD body j).terms.length ct] 84)) := (Below.refl _ _).alloc (Nat.le_refl _) _
          have hI1 := hI.below hb1
          clear p0 p1 p2 p3 hb1 hI HFD
          generalize hx : Sc.litD body j = x at *
          clear hx
          go_wp2_with fail
          refine Calls.mono (binds_any X R bs1 x (.slice at_ x.terms.length ct) _ hI1.bd (ptermsV_below HT.out hI1.bel) hg) ?_
          rintro e w2 ⟨u, rfl, hu, hb2⟩
          have hI2 := hI1.below hb2
          have hU := hu w HT.out
          have hv : ∀ i, i < (Sc.binds bs1 x).length → (Sc.termD (Sc.binds bs1 x) i).var < nv := fun i hi => by
            have := hg.2.1 _ (binds_sub (termD_mem hi))
            rw [hn1] at this
            exact this
          have hql : (Sc.binds bs1 x).length ≤ 9223372036854775807 := Nat.le_trans (binds_len bs1 x) hg.2.2
          have HV2 : Hid ((body.drop (j + 1)).foldl Sc.bindLit (Sc.bindAll bs1 (Sc.binds bs1 x)) = Sc.round body bs0) := HF2.out
          clear hu hI1 hb2 q0 q1 q2 q3 HT HF2
          generalize Sc.binds bs1 x = q at *
          obtain ⟨ao, cp, rfl, _, hU⟩ := hU
          go_wp2_with fail
          go_loopw [29] (fun i wz => ∃ (m : Nat) (bs : List Bool), m ≤ q.length ∧ i = .int .i64 m ∧ SInv w rb X R bs wz ∧ bs.length = nv ∧ Sc.bindAll bs (q.drop m) = Sc.bindAll bs1 q) (fun i _ => q.length - (intOf i).toNat)
          case atStart => exact ⟨0, bs1, Nat.zero_le _, rfl, hI2, hn1, rfl⟩
          case round =>
            clear hI2
            obtain ⟨m, bs2, hm, rfl, hI, hn2, hbd⟩ := hrel
            have HBD : Hid _ := hbd
            clear hbd
            by_cases hml : m < q.length
            · obtain ⟨b3, off3, rfl, hc⟩ := pterms_at hU m hml
              obtain ⟨r0, r1⟩ := hc m hml
              have s0 := cell_below hI.bel r0
              have s1 := cell_below hI.bel r1
              have hvm := hv m hml
              have HB2 : Hid (Sc.bindAll (Sc.bind1 bs2 (Sc.termD q m)) (q.drop (m + 1)) = Sc.bindAll bs1 q) := (foldl_drop Sc.bind1 ⟨0, 0⟩ q m hml bs2).symm.trans HBD.out
              clear HBD r0 r1 hc hU hv
              generalize hT0 : Sc.termD q m = t0 at *
              clear hT0
              obtain ⟨var, nn⟩ := t0
              have hb1 : Below wr.heap.size wr (wr.alloc (.cells #[.int .i64 var, .int .i64 nn] 130)) := (Below.refl _ _).alloc (Nat.le_refl _) _
              have hI3 := hI.below hb1
              have hRlt := heap_lt hI.bd.row
              have hXlt := heap_lt hI.bd.box
              by_cases h5 : 0 ≤ var
              · have g5 : decide (0 ≤ var) = true := decide_eq_true h5
                obtain ⟨kv, rfl⟩ : ∃ kv : Nat, var = kv := ⟨var.toNat, by omega⟩
                have hkl : kv < nv := by simp only at hvm; omega
                have hc0 := hI3.bd.c0
                rw [hn2] at hc0
                have hcR := hI3.bd.at kv (by omega)
                have hfR := Lib.frozen_of_heap hI3.bd.row kv
                have hI4 := (hI.set kv).below ((Below.refl _ _).alloc (Nat.le_refl _) (.cells #[.int .i64 kv, .int .i64 nn] 130))
                have HV : Hid (Sc.bindAll (bs2.set kv true) (q.drop (m + 1)) = Sc.bindAll bs1 q) := by
                  show _ = _
                  rw [← HB2.out]
                  simp [Sc.bind1]
                have hn4 : (bs2.set kv true).length = nv := by rw [List.length_set]; exact hn2
                clear HB2
                go_wp2_with fail
                go_roundw
                case rel => exact ⟨m + 1, _, by omega, by go_num, hI4, hn4, HV.out⟩
                case measure => simp [intOf]; omega
              · have g5 : decide (0 ≤ var) = false := decide_eq_false h5
                have HV : Hid (Sc.bindAll bs2 (q.drop (m + 1)) = Sc.bindAll bs1 q) := by
                  show _ = _
                  rw [← HB2.out]
                  simp [Sc.bind1, h5]
                clear HB2
                go_wp2_with fail
                go_roundw
                case rel => exact ⟨m + 1, _, by omega, by go_num, hI3, hn2, HV.out⟩
                case measure => simp [intOf]; omega
            · have hend : Sc.bindAll bs2 (q.drop m) = bs2 := by rw [List.drop_of_length_le (by omega)]; rfl
              have HV : Hid ((body.drop (j + 1)).foldl Sc.bindLit bs2 = Sc.round body bs0) := by
                show _ = _
                rw [← HV2.out, ← HBD.out, hend]
              clear hU hv hend
              go_wp2_with fail
              go_roundw
              case rel => exact ⟨j + 1, _, by omega, by go_num, hI, hn2, HV.out⟩
              case measure => simp [intOf]; omega
        · have hend : (body.drop j).foldl Sc.bindLit bs1 = bs1 := by rw [List.drop_of_length_le (by omega)]; rfl
          have HV : Hid (Sc.rounds body (body.length - (k + 1)) bs1 = Sc.rounds body body.length bz) := by
            show _ = _
            rw [← HR.out, rounds_step body _ k hlt, ← HFD.out, hend]
          clear hend
          go_wp2_with fail
          go_roundw
          case rel => exact ⟨k + 1, _, by omega, by go_num, hI, hn1, HV.out⟩
          case measure => simp [intOf]; omega
    · have hk2 : k = body.length := by omega
      have HV : Hid (bs0 = Sc.rounds body body.length bz) := by
        show _ = _
        have := HR.out
        rw [hk2, Nat.sub_self] at this
        exact this
      have hc0 := hI.bd.c0
      rw [hn0] at hc0
      clear hk2
      go_wp2_with fail
      refine Calls.mono (contains_any R bs0 nv nv _ hn0 (by omega) (fun i hi => hI.bd.at i (by omega))) ?_
      rintro e w2 ⟨rfl, q, rfl⟩
      have hbel := hI.bel
      go_wp2_with fail
      go_ret
      exact ⟨by rw [HS.out, ← HV.out]; simp, below_drewN hbel _⟩

end Go.Proofs.YtgpaleifhcdjnaaGreatDoor

/- Package scope: numbers of names, in the order in which they were first asked for. -/
namespace Go.Proofs.YtgpaleifhcdjnaaGreatDoor
open Go.RowKit
open Go.Maps

/-- A map's datum that gives each of these names its place. -/
structure NumD (ns : List (List UInt8)) (D : DataW Unit) : Prop where
  size : Maps.size D = ns.length
  has : ∀ s : List UInt8, Maps.has D (.string s) = ns.contains s
  at_ : ∀ s : List UInt8, s ∈ ns → D.atKey (.string s) (.lit (.int .i64 0)) = .lit (.int .i64 (ns.idxOf s))
def NumAt (w : World) (B : Nat) (ns : List (List UInt8)) : Prop := ∃ D : DataW Unit, w.ownsMap Tryz.prog 9 (plainElem Tryz.prog 3) B ns.length D ∧ NumD ns D
theorem idx_mem {x : List UInt8} : ∀ {l m : List (List UInt8)}, x ∈ l → (l ++ m).idxOf x = l.idxOf x := by
  intro l
  induction l with
  | nil => exact fun h => absurd h (by simp)
  | cons a r ih =>
    intro m h
    rw [List.cons_append, List.idxOf_cons, List.idxOf_cons]
    by_cases ha : a = x
    · simp [ha]
    · have hx : x ∈ r := by
        rcases List.mem_cons.mp h with h | h
        · exact absurd h.symm ha
        · exact h
      rw [ih hx]
theorem idx_new {x : List UInt8} : ∀ {l : List (List UInt8)}, ¬ x ∈ l → (l ++ [x]).idxOf x = l.length := by
  intro l
  induction l with
  | nil => intro _; simp
  | cons a r ih =>
    intro h
    have ha : ¬ a = x := fun e => h (by simp [e])
    rw [List.cons_append, List.idxOf_cons, ih (fun e => h (List.mem_cons_of_mem _ e)), beq_false_of_ne ha]
    rfl
theorem idx_none {x : List UInt8} : ∀ {l : List (List UInt8)}, ¬ x ∈ l → l.idxOf x = l.length := by
  intro l
  induction l with
  | nil => intro _; simp
  | cons a r ih =>
    intro h
    have ha : ¬ a = x := fun e => h (by simp [e])
    rw [List.idxOf_cons, ih (fun e => h (List.mem_cons_of_mem _ e)), beq_false_of_ne ha]
    rfl
theorem numLaw : Keyed Tryz.prog 9 := string_keyed Tryz.underlying9
theorem numZero (w : World) : (zeroValue 3).run Tryz.prog w = .ok (.int .i64 0) w := by kernel_rfl
theorem NumD.nil : NumD [] (.map []) := ⟨rfl, fun _ => rfl, fun _ h => absurd h (by simp)⟩
theorem NumD.push {ns : List (List UInt8)} {D : DataW Unit} (h : NumD ns D) (hT : Tidy D) (s : List UInt8) (hs : ns.contains s = false) : NumD (ns ++ [s]) (D.put (.string s) (.lit (.int .i64 ns.length))) := by
  have hk : WideAt.IsKeyLit (.string s) := by simp [WideAt.IsKeyLit]
  have hnm : ¬ s ∈ ns := by simpa using hs
  refine ⟨?_, fun x => ?_, fun x hx => ?_⟩
  · rw [size_put hT, h.has, hs, h.size]
    simp
  · by_cases hx : x = s
    · subst hx
      rw [has_put_same hT.isMap hk]
      simp
    · rw [has_put_other (by simpa using hx), h.has]
      simp [hx]
  · by_cases hxs : x = s
    · subst hxs
      rw [atKey_put_same hT.isMap hk, idx_new hnm]
    · have hxm : x ∈ ns := by
        rcases List.mem_append.mp hx with h | h
        · exact h
        · exact absurd (by simpa using h) hxs
      rw [atKey_put_other (by simpa using hxs), h.at_ x hxm, idx_mem hxm]

theorem NumAt.below {w w' : World} {B : Nat} {ns : List (List UInt8)} (h : NumAt w B ns) (hb : Below w.heap.size w w') : NumAt w' B ns := by
  obtain ⟨D, ⟨es, clock, h1, h2, h3, h4⟩, hN⟩ := h
  exact ⟨D, ⟨es, clock, (hb.block _ (heap_lt h1)).trans h1, h2, h3, h4⟩, hN⟩
theorem NumAt.lt {w : World} {B : Nat} {ns : List (List UInt8)} (h : NumAt w B ns) : B < w.heap.size := by
  obtain ⟨D, ⟨es, clock, h1, h2, h3, h4⟩, hN⟩ := h
  exact heap_lt h1
theorem numAt_made (w : World) : NumAt (w.alloc (.map #[] 0)) w.heap.size [] := ⟨_, World.ownsMap_made _ _ _ _, NumD.nil⟩

set_option maxRecDepth 100000 in
set_option maxHeartbeats 1000000 in
theorem of_any (B : Nat) (ns : List (List UInt8)) (s : List UInt8) (w : World) (h : NumAt w B ns) (hs : s.length ≤ 5000) (hl : ns.length ≤ 1000000) :
    Calls Tryz.prog 69 #[.map (some B), .string ⟨s.toArray⟩] w fun e w' => e = .returned (.int .i64 (ns.idxOf s)) ∧ NumAt w' B (if ns.contains s then ns else ns ++ [s]) ∧ w.grownBy w' (some B) := by
  obtain ⟨D, hown, hN⟩ := h
  have hkey : keyOf Tryz.prog 9 (.string ⟨s.toArray⟩) = some (.string s) := by
    have : keyOf Tryz.prog 9 (.string ⟨s.toArray⟩) = some (.string (⟨s.toArray⟩ : ByteArray).data.toList) := Go.WideMaps.keyOf_string_mk Tryz.underlying9 (by unfold maxLen; simp [ByteArray.size]; omega)
    simpa using this
  have hT := hown.tidy numLaw
  have hh := hN.has s
  cases hc : ns.contains s
  · rw [hc] at hh
    have hsz := hN.size
    have HP : Hid (NumD (ns ++ [s]) (D.put (.string s) (.lit (.int .i64 ns.length)))) := hN.push hT s hc
    have hidx : ns.idxOf s = ns.length := idx_none (by simpa using hc)
    clear hN hT
    have hwl : (Lit.int IntKind.i64 (ns.length : Int)).wf = true := WalkArith.wf_i64 (by omega)
    go_enter Tryz.func69, Tryz.ntmps69
    go_wp2_with (first
      | (at_lookup; refine wpList_lookup_own_ok_int _ rfl _ _ 115 rfl 9 3 .i64 numLaw Tryz.underlying115 Tryz.underlying3 (numZero _) B ns.length D rfl hown _ _ rfl hkey ?_; intro c hat hwc)
      | (at_len; refine wpList_len_own _ rfl _ 115 rfl 9 3 Tryz.underlying115 _ B ns.length D rfl hown ?_)
      | (at_mapUpdate; refine wpList_mapUpdate_own _ rfl _ _ _ 115 rfl 9 3 numLaw Tryz.underlying115 _ B ns.length _ rfl hown (by unfold maxLen; omega) _ _ _ rfl rfl hkey _ [] (plainElem_int Tryz.underlying3 hwl) ?_; intro w1 hown1 hgrow1))
    go_ret
    exact ⟨rfl, ⟨_, by rw [List.length_append]; exact hown1, HP.out⟩, hgrow1⟩
  · rw [hc] at hh
    have hat := hN.at_ s (by simpa using hc)
    have HN : Hid (NumD ns D) := hN
    clear hN hT
    go_enter Tryz.func69, Tryz.ntmps69
    go_wp2_with (at_lookup; refine wpList_lookup_own_ok_int _ rfl _ _ 115 rfl 9 3 .i64 numLaw Tryz.underlying115 Tryz.underlying3 (numZero _) B ns.length D rfl hown _ _ rfl hkey ?_; intro c hac hwc)
    go_ret
    have hcc : c = (ns.idxOf s : Int) := by
      rw [hat] at hac
      simpa using hac.symm
    subst hcc
    exact ⟨rfl, ⟨D, hown, HN.out⟩, grownBy_of_below (Below.refl _ _) _⟩

end Go.Proofs.YtgpaleifhcdjnaaGreatDoor

