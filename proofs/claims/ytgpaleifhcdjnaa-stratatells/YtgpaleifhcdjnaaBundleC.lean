/- Own texts, one behind the other (part 3). -/
import Derived.Test.YtgpaleifhcdjnaaBundleB
import Derived.Test.YtgpaleifhcdjnaaRows
import Derived.RegionTactic
import Derived.BigRegion
import Derived.Lib.AtoiBound
import Derived.Lib.SliceRun
import Derived.Lib.LazyBuf
/- Package tree: Check. -/
namespace Go.Proofs.Ytgpaleifhcdjnaa
open Go.RowKit

abbrev treeVal (v : Value) : Value := .agg #[v]

set_option maxRecDepth 100000 in
set_option maxHeartbeats 2000000 in
theorem tooMany_any (l : List Tr.Rule) (v : Value) (w : World) (hA : RulesV w v l) :
    Calls Try.prog 102 #[treeVal v] w fun e w' => e = .returned (.bool (Tr.many l)) ∧ Below w.heap.size w w' := by
  have hA0 := rulesV_below hA (below_alloc w (.cells #[v] 125))
  have hbel0 := below_alloc w (.cells #[v] 125)
  obtain ⟨ao, ca, rfl, _⟩ := hA
  by_cases h12 : 12 < l.length
  · have HF : Hid (Tr.many l = true) := by show _ = _; unfold Tr.many; rw [decide_eq_true h12]; rfl
    go_enter Try.func102, Try.ntmps102
    go_wp2_with fail
    go_ret
    exact ⟨ret_bool HF.out.symm, hbel0⟩
  · have HV : Hid (Tr.many l = l.any Tr.ruleMany) := by show _ = _; unfold Tr.many; rw [decide_eq_false h12]; rfl
    go_enter Try.func102, Try.ntmps102
    go_wp2_with fail
    generalize (w.alloc (.cells #[.slice ao l.length ca] 125)) = w0 at *
    go_loopw [14] (fun i wr => ∃ k : Nat, k ≤ l.length ∧ i = .int .i64 k ∧ Tr.many l = (l.drop k).any Tr.ruleMany ∧ Below w0.heap.size w0 wr) (fun i _ => l.length - (intOf i).toNat)
    case atStart => exact ⟨0, Nat.zero_le _, rfl, HV.out, Below.refl _ _⟩
    case round =>
      obtain ⟨k, hk, rfl, hany, hbelr⟩ := hrel
      have HA : Hid (Tr.many l = (l.drop k).any Tr.ruleMany) := hany
      clear hany HV
      by_cases hlt : k < l.length
      · obtain ⟨ao', ca', hv, hR⟩ := rulesV_below hA0 hbelr
        rcases hR with h | ⟨b, off, rfl, hc⟩
        · rw [h] at hlt; exact absurd hlt (by simp)
        injection hv with e1 _ e3
        subst e1 e3
        obtain ⟨a0, a1, ⟨v2, a2, hT⟩, a3, v4, a4, hL⟩ := hc k hlt
        have HD : Hid (Tr.many l = (Tr.ruleMany (Tr.ruleD l k) || (l.drop (k + 1)).any Tr.ruleMany)) := HA.out.trans (any_drop _ _ _ k hlt)
        clear hc HA
        generalize Tr.ruleD l k = r at *
        have hL0 := litsV_below hL (below_alloc wr (ruleObj r v2 v4))
        have hbel1 : Below w.heap.size w (wr.alloc (ruleObj r v2 v4)) := (hbel0.trans (hbelr.mono hbel0.size)).trans ((below_alloc wr _).mono (hbel0.trans (hbelr.mono hbel0.size)).size)
        have hbelr1 : Below w0.heap.size w0 (wr.alloc (ruleObj r v2 v4)) := hbelr.trans ((below_alloc wr _).mono hbelr.size)
        obtain ⟨ao2, ca2, rfl, _⟩ := hT
        obtain ⟨ao4, ca4, rfl, _⟩ := hL
        by_cases h4 : 4 < r.body.length
        rotate_left
        · have g1 : decide ((4 : Int) < (r.body.length : Int)) = false := decide_eq_false (by omega)
          by_cases h3 : 3 < r.terms.length
          rotate_left
          · have g2 : decide ((3 : Int) < (r.terms.length : Int)) = false := decide_eq_false (by omega)
            have HM : Hid (Tr.ruleMany r = Tr.litsMany r.body) := by show _ = _; unfold Tr.ruleMany; rw [decide_eq_false h4, decide_eq_false h3]; rfl
            go_wp2_with fail
            generalize (wr.alloc (ruleObj r (.slice ao2 r.terms.length ca2) (.slice ao4 r.body.length ca4))) = w1 at *
            go_loopw [31] (fun i wq => ∃ j : Nat, j ≤ r.body.length ∧ i = .int .i64 j ∧ Tr.litsMany r.body = (r.body.drop j).any (fun x => decide (3 < x.terms.length)) ∧ Below w1.heap.size w1 wq) (fun i _ => r.body.length - (intOf i).toNat)
            case atStart => exact ⟨0, Nat.zero_le _, rfl, rfl, Below.refl _ _⟩
            case round =>
              obtain ⟨j, hj, rfl, hany, hbelq⟩ := hrel
              have HB : Hid (Tr.litsMany r.body = (r.body.drop j).any (fun x => decide (3 < x.terms.length))) := hany
              clear hany
              by_cases hltj : j < r.body.length
              · obtain ⟨bo', cb', hv, hL⟩ := litsV_below hL0 hbelq
                rcases hL with h | ⟨b2, off2, rfl, hc⟩
                · rw [h] at hltj; exact absurd hltj (by simp)
                injection hv with e1 _ e3
                subst e1 e3
                obtain ⟨q0, q1, q2, q3, u4, q4, hT⟩ := hc j hltj
                have HE : Hid (Tr.litsMany r.body = (decide (3 < (Tr.litD r.body j).terms.length) || (r.body.drop (j + 1)).any (fun x => decide (3 < x.terms.length)))) := HB.out.trans (any_drop _ _ _ j hltj)
                clear hc HB hL0 hA0
                generalize Tr.litD r.body j = x at *
                obtain ⟨ao5, ca5, rfl, _⟩ := hT
                by_cases hx : 3 < x.terms.length
                rotate_left
                · have g : decide ((3 : Int) < (x.terms.length : Int)) = false := decide_eq_false (by omega)
                  have HN : Hid (Tr.litsMany r.body = (r.body.drop (j + 1)).any (fun x => decide (3 < x.terms.length))) := by show _ = _; rw [HE.out, decide_eq_false hx]; rfl
                  have hbq := hbelq.trans ((below_alloc _ (litObj x (.slice ao5 x.terms.length ca5))).mono hbelq.size)
                  clear HE
                  go_wp2_with fail
                  go_roundw
                  case rel => exact ⟨j + 1, by omega, by go_num, HN.out, hbq⟩
                  case measure => simp [intOf]; omega
                · have g : decide ((3 : Int) < (x.terms.length : Int)) = true := decide_eq_true (by omega)
                  have HF : Hid (Tr.many l = true) := by show _ = _; rw [HD.out, HM.out, HE.out, decide_eq_true hx]; rfl
                  have hbq := hbel1.trans ((hbelq.trans ((below_alloc _ (litObj x (.slice ao5 x.terms.length ca5))).mono hbelq.size)).mono hbel1.size)
                  clear HE HD HM
                  go_wp2_with fail
                  go_ret
                  exact ⟨ret_bool HF.out.symm, hbq⟩
              · have HN : Hid (Tr.many l = (l.drop (k + 1)).any Tr.ruleMany) := by
                  show _ = _
                  rw [HD.out, HM.out, HB.out, List.drop_of_length_le (by omega)]
                  rfl
                have hbq := hbelr1.trans (hbelq.mono hbelr1.size)
                clear HB HD HM hL0 hA0
                go_wp2_with fail
                go_roundw
                case rel => exact ⟨k + 1, by omega, by go_num, HN.out, hbq⟩
                case measure => simp [intOf]; omega
          · have g2 : decide ((3 : Int) < (r.terms.length : Int)) = true := decide_eq_true (by omega)
            have HF : Hid (Tr.many l = true) := by show _ = _; rw [HD.out]; unfold Tr.ruleMany; rw [decide_eq_true h3]; simp
            clear HD hA0 hL0
            go_wp2_with fail
            go_ret
            exact ⟨ret_bool HF.out.symm, hbel1⟩
        · have g1 : decide ((4 : Int) < (r.body.length : Int)) = true := decide_eq_true (by omega)
          have HF : Hid (Tr.many l = true) := by show _ = _; rw [HD.out]; unfold Tr.ruleMany; rw [decide_eq_true h4]; simp
          clear HD hA0 hL0
          go_wp2_with fail
          go_ret
          exact ⟨ret_bool HF.out.symm, hbel1⟩
      · have HF : Hid (Tr.many l = false) := by show _ = _; rw [HA.out, List.drop_of_length_le (by omega)]; rfl
        have hbq := hbel0.trans (hbelr.mono hbel0.size)
        clear hA0 HA
        go_wp2_with fail
        go_ret
        exact ⟨ret_bool HF.out.symm, hbq⟩

theorem ruleMany_no {r : Tr.Rule} (h : Tr.ruleMany r = false) : r.terms.length ≤ 3 ∧ r.body.length ≤ 4 ∧ Fits r.body := by
  unfold Tr.ruleMany at h
  simp only [Bool.or_eq_false_iff, decide_eq_false_iff_not] at h
  refine ⟨by omega, by omega, fun i hi => ?_⟩
  have hx := h.2
  unfold Tr.litsMany at hx
  rw [List.any_eq_false] at hx
  have e : Tr.litD r.body i = r.body[i] := by rw [Tr.litD, List.getD_eq_getElem?_getD, List.getElem?_eq_getElem hi]; rfl
  have := hx _ (List.getElem_mem hi)
  rw [e]
  simp at this
  omega

set_option maxRecDepth 100000 in
set_option maxHeartbeats 2000000 in
theorem Check_any (l : List Tr.Rule) (v : Value) (w : World) (hA : RulesV w v l) :
    Calls Try.prog 84 #[treeVal v] w fun e w' => e = .returned (.int .i64 (Tr.check l)) ∧ Below w.heap.size w w' := by
  have hA0 := rulesV_below hA (below_alloc w (.cells #[v] 125))
  have hbel0 := below_alloc w (.cells #[v] 125)
  have HT : Hid (_) := tooMany_any l v (w.alloc (.cells #[v] 125)) hA0
  obtain ⟨ao, ca, rfl, _⟩ := hA
  go_enter Try.func84, Try.ntmps84
  go_wp2_with fail
  refine Calls.mono HT.out ?_
  rintro e w1 ⟨he, hb1⟩
  have hbel1 := hbel0.trans (hb1.mono hbel0.size)
  have hA1 := rulesV_below hA0 hb1
  have c0 : w1.cell? ⟨w.heap.size, 0, none⟩ = some (.slice ao l.length ca) := cell_below hb1 (by simp [go_sem])
  clear HT hA0 hb1 hbel0
  cases gm : Tr.many l
  · rw [gm] at he
    subst he
    have hl12 : l.length ≤ 12 := by
      unfold Tr.many at gm
      simp only [Bool.or_eq_false_iff, decide_eq_false_iff_not] at gm
      omega
    have hMany : ∀ k, k < l.length → Tr.ruleMany (Tr.ruleD l k) = false := fun k hk => by
      unfold Tr.many at gm
      simp only [Bool.or_eq_false_iff] at gm
      have e : Tr.ruleD l k = l[k] := by rw [Tr.ruleD, List.getD_eq_getElem?_getD, List.getElem?_eq_getElem hk]; rfl
      rw [e]
      have := List.any_eq_false.1 gm.2 _ (List.getElem_mem hk)
      simpa using this
    have HM : Hid (∀ k, k < l.length → Tr.ruleMany (Tr.ruleD l k) = false) := hMany
    have HV : Hid (Tr.check l = if l.all Tr.ruleOk then 0 else 1) := by show _ = _; unfold Tr.check; rw [gm]; rfl
    clear hMany gm
    go_wp2_with fail
    go_loopw [10] (fun i wr => ∃ k : Nat, k ≤ l.length ∧ i = .int .i64 k ∧ l.all Tr.ruleOk = (l.drop k).all Tr.ruleOk ∧ Below w1.heap.size w1 wr) (fun i _ => l.length - (intOf i).toNat)
    case atStart => exact ⟨0, Nat.zero_le _, rfl, rfl, Below.refl _ _⟩
    case round =>
      obtain ⟨k, hk, rfl, hall, hbelr⟩ := hrel
      have HA : Hid (l.all Tr.ruleOk = (l.drop k).all Tr.ruleOk) := hall
      clear hall
      by_cases hlt : k < l.length
      · obtain ⟨ao', ca', hv, hR⟩ := rulesV_below hA1 hbelr
        rcases hR with h | ⟨b, off, rfl, hc⟩
        · rw [h] at hlt; exact absurd hlt (by simp)
        injection hv with e1 _ e3
        subst e1 e3
        obtain ⟨a0, a1, ⟨v2, a2, hT⟩, a3, v4, a4, hL⟩ := hc k hlt
        have HD : Hid (l.all Tr.ruleOk = (Tr.ruleOk (Tr.ruleD l k) && (l.drop (k + 1)).all Tr.ruleOk)) := HA.out.trans (all_drop _ _ _ k hlt)
        obtain ⟨f1, f2, f3⟩ := ruleMany_no (HM.out k hlt)
        clear hc HA hA1
        generalize Tr.ruleD l k = r at *
        have HC : Hid (_) := ruleIsRight_any r v2 v4 (wr.alloc (ruleObj r v2 v4)) (by omega) (by omega) f3 (termsV_below hT (below_alloc _ _)) (litsV_below hL (below_alloc _ _))
        obtain ⟨ao2, ca2, rfl, _⟩ := hT
        obtain ⟨ao4, ca4, rfl, _⟩ := hL
        clear f3
        cases g : Tr.ruleOk r
        · have HF : Hid (Tr.check l = 1) := by show _ = _; rw [HV.out, HD.out, g]; rfl
          clear HD HV
          go_wp2_with fail
          refine Calls.mono HC.out ?_
          rintro e w4 ⟨he, hb4⟩
          rw [g] at he
          subst he
          have hbel4 := hbel1.trans ((hbelr.trans ((below_box hb4).mono hbelr.size)).mono hbel1.size)
          go_wp2_with fail
          go_ret
          exact ⟨ret_int HF.out.symm, hbel4⟩
        · have HN : Hid (l.all Tr.ruleOk = (l.drop (k + 1)).all Tr.ruleOk) := by show _ = _; rw [HD.out, g]; rfl
          clear HD
          go_wp2_with fail
          refine Calls.mono HC.out ?_
          rintro e w4 ⟨he, hb4⟩
          rw [g] at he
          subst he
          have hbel4 := hbelr.trans ((below_box hb4).mono hbelr.size)
          clear hb4 HC g a0 a1 a2 a3 a4
          go_wp2_with fail
          go_roundw
          case rel => exact ⟨k + 1, by omega, by go_num, HN.out, hbel4⟩
          case measure => simp [intOf]; omega
      · have HF : Hid (Tr.check l = 0) := by show _ = _; rw [HV.out, HA.out, List.drop_of_length_le (by omega)]; rfl
        have hbel4 := hbel1.trans (hbelr.mono hbel1.size)
        clear hA1 HA HV
        go_wp2_with fail
        go_ret
        exact ⟨ret_int HF.out.symm, hbel4⟩
  · rw [gm] at he
    subst he
    have HF : Hid (Tr.check l = 2) := by show _ = _; unfold Tr.check; rw [gm]; rfl
    go_wp2_with fail
    go_ret
    exact ⟨ret_int HF.out.symm, hbel1⟩

end Go.Proofs.Ytgpaleifhcdjnaa

/- The parser in memory. -/
namespace Go.Proofs.Ytgpaleifhcdjnaa
open Go.RowKit

/-- Tokens that a scan may answer: not too many, and numbers that are numbers. -/
def Fit (L : List Tk.Tok) : Prop := L.length ≤ 5000 ∧ ∀ t, t ∈ L → t.kind = 3 → t.text.length ≤ 18 ∧ ∃ n, Lib.atoi t.text = some n

/-- How far the parser is. -/
def nxOf (w : World) (P : Nat) : Nat := match w.cell? ⟨P, 1, none⟩ with | some (.int _ n) => n.toNat | _ => 0
theorem grownBy_of_below {w w' : World} (h : Below w.heap.size w w') (row : Option Nat) : w.grownBy w' row :=
  ⟨h.os, h.tape, h.output, h.size, fun k hk _ => h.block k hk⟩
theorem grownBy_trans {a b c : World} {row : Option Nat} (h : a.grownBy b row) (k : b.grownBy c row) : a.grownBy c row :=
  ⟨k.os.trans h.os, k.tape.trans h.tape, k.output.trans h.output, Nat.le_trans h.size k.size, fun i hi hne => (k.block i (Nat.lt_of_lt_of_le hi h.size) hne).trans (h.block i hi hne)⟩
theorem grownBy_set {w : World} {P : Nat} (o : Nat) (v : Value) : w.grownBy (w.setCell ⟨P, o, none⟩ v) (some P) :=
  ⟨rfl, rfl, rfl, by simp [World.setCell], fun k _ hk => Below.heap_setCell _ _ _ _ (fun e => hk (by rw [e]))⟩
/-- What is set in a block that is new. -/
theorem grownBy_new {w w' : World} {row : Option Nat} {b : Nat} (h : w.grownBy w' row) (hb : w.heap.size ≤ b) (o : Nat) (v : Value) : w.grownBy (w'.setCell ⟨b, o, none⟩ v) row :=
  ⟨h.os, h.tape, h.output, by simpa [World.setCell] using h.size, fun k hk hne => (Below.heap_setCell _ _ _ _ (show ¬ k = b by omega)).trans (h.block k hk hne)⟩
theorem grownBy_cell {w w' : World} {P b o : Nat} {v : Value} (h : w.grownBy w' (some P)) (hne : ¬ b = P) (hc : w.cell? ⟨b, o, none⟩ = some v) : w'.cell? ⟨b, o, none⟩ = some v :=
  (World.cell?_of_block (a := ⟨b, o, none⟩) (h.block b (World.block_lt_of_cell? w _ hc) (by simpa using hne))).trans hc
theorem grownBy_frozen {w w' : World} {P b o : Nat} (h : w.grownBy w' (some P)) (hne : ¬ b = P) (hlt : b < w.heap.size) : w'.frozen? ⟨b, o, none⟩ = w.frozen? ⟨b, o, none⟩ := by
  have := h.block b hlt (by simpa using hne)
  simp [World.frozen?, this]
theorem grownBy_drewN {a b : World} {row : Option Nat} (h : a.grownBy b row) (n : Nat) : a.grownBy (b.drewN n) row := ⟨h.os, h.tape, h.output, h.size, h.block⟩

theorem below_drewN {B : Nat} {a w : World} (h : Below B a w) (n : Nat) : Below B a (w.drewN n) := ⟨h.os, h.tape, h.output, h.size, h.block⟩
theorem below_fresh {w : World} (o : Obj) (n : Nat) (a b c : Value) : Below w.heap.size w ((((((w.alloc o).drewN n).setCell ⟨w.heap.size, 0, none⟩ a)).setCell ⟨w.heap.size, 1, none⟩ b).setCell ⟨w.heap.size, 2, none⟩ c) :=
  (((below_drewN ((Below.refl _ _).alloc (Nat.le_refl _) _) n).setCell (p := ⟨w.heap.size, 0, none⟩) (Nat.le_refl _) _).setCell (p := ⟨w.heap.size, 1, none⟩) (Nat.le_refl _) _).setCell (p := ⟨w.heap.size, 2, none⟩) (Nat.le_refl _) _
theorem hd_drop (L : List Tk.Tok) (en : Int) (nx : Nat) : Pr.hd en (L.drop nx) = if nx < L.length then tokD L nx else ⟨0, en, []⟩ := by
  by_cases h : nx < L.length
  · rw [if_pos h, drop_tok L nx h]; rfl
  · rw [if_neg h, List.drop_of_length_le (by omega)]; rfl

end Go.Proofs.Ytgpaleifhcdjnaa

/- The shelf of the parser (strconv.Atoi) lies with the rest. -/


/- The parser's small steps. -/
namespace Go.Proofs.Ytgpaleifhcdjnaa
open Go.RowKit

theorem fld0 (a b c : Value) (w : World) : (Instr.field 165 (.agg #[a, b, c]) 0).run Try.prog w = .ok a w := by kernel_rfl
theorem fld1 (a b c : Value) (w : World) : (Instr.field 165 (.agg #[a, b, c]) 1).run Try.prog w = .ok b w := by kernel_rfl
theorem fld2 (a b c : Value) (w : World) : (Instr.field 165 (.agg #[a, b, c]) 2).run Try.prog w = .ok c w := by kernel_rfl

theorem hd_ne {en : Int} {r : List Tk.Tok} {t : List UInt8} (ht : ¬ t = []) (h : Pr.isText en r t = true) : ¬ r = [] := by
  rintro rfl
  exact ht (eq_of_beq h).symm

theorem ground {w w' w1 : World} {P : Nat} (h : w.grownBy w1 (some P)) (hb : Below w1.heap.size w1 w') : w.grownBy w' (some P) := grownBy_trans h (grownBy_of_below hb _)

theorem foldOf_nil : Tr.foldOf [] = 0 := rfl
theorem opOf_nil : Pr.opOf [] = 0 := rfl

end Go.Proofs.Ytgpaleifhcdjnaa

/- The parser's names, numbers and terms. -/
namespace Go.Proofs.Ytgpaleifhcdjnaa
open Go.RowKit

/-- A token that is laid aside. -/
abbrev putTok (w : World) (x : Tk.Tok) : World := w.alloc (.cells #[.int .i64 x.kind, .int .i64 x.at_, .string ⟨x.text.toArray⟩] 165)
theorem below_put {w w1 : World} (hb : Below w.heap.size w w1) (x : Tk.Tok) : Below w.heap.size w (putTok w1 x) := hb.alloc hb.size _


end Go.Proofs.Ytgpaleifhcdjnaa

/- The parser's terms. -/
namespace Go.Proofs.Ytgpaleifhcdjnaa
open Go.RowKit

abbrev termObj : Obj := .cells #[.string { data := #[] }, .int .i64 0] 160
theorem fresh2 {w w1 : World} (hb : Below (w.alloc termObj).heap.size (w.alloc termObj) w1) :
    w1.cell? ⟨w.heap.size, 0, none⟩ = some (.string { data := #[] }) ∧ w1.cell? ⟨w.heap.size, 1, none⟩ = some (.int .i64 0) ∧ w1.frozen? ⟨w.heap.size, 0, none⟩ = false ∧ w1.frozen? ⟨w.heap.size, 1, none⟩ = false ∧ Below w.heap.size w w1 ∧ w.heap.size < w1.heap.size := by
  obtain ⟨hc, hf⟩ := bcell hb
  have h : w.heap.size < (w.alloc termObj).heap.size := by simp
  refine ⟨?_, ?_, ?_, ?_, ((Below.refl _ _).alloc (Nat.le_refl _) _).trans (hb.mono (by simp)), Nat.lt_of_lt_of_le h hb.size⟩
  · rw [hc _ _ h]; simp [go_sem]
  · rw [hc _ _ h]; simp [go_sem]
  · rw [hf _ _ h]; simp [go_sem]
  · rw [hf _ _ h]; simp [go_sem]


/-- The block of a result, behind calls that went on. -/
theorem kept2 {w w1 w2 : World} {P : Nat} (hP : P < w.heap.size) (hg : w1.grownBy w2 (some P)) (hs : w.heap.size < w1.heap.size) {u v : Value} (c0 : w1.cell? ⟨w.heap.size, 0, none⟩ = some u) (c1 : w1.cell? ⟨w.heap.size, 1, none⟩ = some v)
    (f0 : w1.frozen? ⟨w.heap.size, 0, none⟩ = false) (f1 : w1.frozen? ⟨w.heap.size, 1, none⟩ = false) :
    w2.cell? ⟨w.heap.size, 0, none⟩ = some u ∧ w2.cell? ⟨w.heap.size, 1, none⟩ = some v ∧ w2.frozen? ⟨w.heap.size, 0, none⟩ = false ∧ w2.frozen? ⟨w.heap.size, 1, none⟩ = false ∧ w.heap.size < w2.heap.size := by
  have hne : ¬ w.heap.size = P := by omega
  exact ⟨grownBy_cell hg hne c0, grownBy_cell hg hne c1, (grownBy_frozen hg hne hs).trans f0, (grownBy_frozen hg hne hs).trans f1, Nat.lt_of_lt_of_le hs hg.size⟩
theorem kept2b {w w1 w2 : World} (hb : Below w1.heap.size w1 w2) (hs : w.heap.size < w1.heap.size) {u v : Value} (c0 : w1.cell? ⟨w.heap.size, 0, none⟩ = some u) (c1 : w1.cell? ⟨w.heap.size, 1, none⟩ = some v)
    (f0 : w1.frozen? ⟨w.heap.size, 0, none⟩ = false) (f1 : w1.frozen? ⟨w.heap.size, 1, none⟩ = false) :
    w2.cell? ⟨w.heap.size, 0, none⟩ = some u ∧ w2.cell? ⟨w.heap.size, 1, none⟩ = some v ∧ w2.frozen? ⟨w.heap.size, 0, none⟩ = false ∧ w2.frozen? ⟨w.heap.size, 1, none⟩ = false ∧ w.heap.size < w2.heap.size := by
  obtain ⟨hc, hf⟩ := bcell hb
  exact ⟨(hc _ _ hs).trans c0, (hc _ _ hs).trans c1, (hf _ _ hs).trans f0, (hf _ _ hs).trans f1, Nat.lt_of_lt_of_le hs hb.size⟩

theorem ground' {w w1 w' : World} {P : Nat} (hb : Below w.heap.size w w1) (h : Below w1.heap.size w1 w') : w.grownBy w' (some P) := grownBy_of_below (hb.trans (h.mono hb.size)) _

end Go.Proofs.Ytgpaleifhcdjnaa

/- Rows that the parser makes: of terms, of literals, of rules. -/
namespace Go.Proofs.Ytgpaleifhcdjnaa
open Go.RowKit

/-- A row of parts, each of k cells, in a block of its own at B or behind. -/
def RowP (B : Nat) (w : World) (e : TypeId) (k : Nat) (v : Value) (cs : List (List Value)) : Prop :=
  ∃ ao cap, v = .slice ao cs.length cap ∧ (cs = [] ∨ ∃ b cur, ao = some ⟨b, 0, none⟩ ∧ B ≤ b ∧ w.heap[b]? = some (.cells cur e (0, 0)) ∧ ∀ i c, cs[i]? = some c → ∀ j u, c[j]? = some u → w.cell? ⟨b, i * k + j, none⟩ = some u)

theorem flat_length (k : Nat) : ∀ cs : List (List Value), (∀ c, c ∈ cs → c.length = k) → cs.flatten.length = cs.length * k := by
  intro cs
  induction cs with
  | nil => intro _; simp
  | cons c r ih =>
    intro h
    rw [List.flatten_cons, List.length_append, ih (fun c hc => h c (List.mem_cons_of_mem _ hc)), h c List.mem_cons_self, List.length_cons, Nat.add_mul]
    omega
theorem flat_get (k : Nat) : ∀ (cs : List (List Value)), (∀ c, c ∈ cs → c.length = k) → ∀ i c j u, cs[i]? = some c → c[j]? = some u → cs.flatten[i * k + j]? = some u := by
  intro cs
  induction cs with
  | nil => intro _ i c j u h; simp at h
  | cons a r ih =>
    intro h i c j u hi hj
    have ha := h a List.mem_cons_self
    have hjk : j < c.length := by
      rcases Nat.lt_or_ge j c.length with h | h
      · exact h
      · rw [List.getElem?_eq_none h] at hj; cases hj
    rw [List.flatten_cons]
    cases i with
    | zero =>
      have hac : a = c := by simpa using hi
      subst hac
      rw [Nat.zero_mul, Nat.zero_add, List.getElem?_append_left hjk]
      exact hj
    | succ i =>
      rw [List.getElem?_append_right (by rw [ha, Nat.add_mul]; omega), ha, show (i + 1) * k + j - k = i * k + j from by rw [Nat.add_mul]; omega]
      exact ih (fun c hc => h c (List.mem_cons_of_mem _ hc)) i c j u (by simpa using hi) hj

theorem rowP_own {w : World} {base : Nat} {e : TypeId} {k : Nat} {v : Value} {cs : List (List Value)} (hl : ∀ c, c ∈ cs → c.length = k) (h : w.ownsRow base e k v cs.length cs.flatten) : RowP base w e k v cs := by
  rcases h.2 with ⟨hv, h0⟩ | ⟨g, cap, cur, hv, hg, hbk, r⟩
  · exact ⟨none, 0, by rw [hv, h0], .inl (List.eq_nil_of_length_eq_zero h0)⟩
  · refine ⟨some ⟨g, 0, none⟩, cap, hv, .inr ⟨g, cur, rfl, hg, hbk, fun i c hi j u hj => ?_⟩⟩
    subst hv
    have := h.cells (g := g) rfl _ _ (flat_get k cs hl i c j u hi hj)
    have hadd : ∀ k, ((⟨g, 0, none⟩ : Addr).add k) = ⟨g, 0 + k, none⟩ := fun _ => by simp [Addr.add]; exact fun h => h.symm
    rw [hadd] at this
    simpa using this

/-- Blocks of such rows are as they were. -/
def Keeps (B : Nat) (w w' : World) (E : TypeId → Prop) : Prop := ∀ b cur e fz, E e → B ≤ b → w.heap[b]? = some (.cells cur e fz) → w'.heap[b]? = w.heap[b]?
theorem Keeps.mono {B : Nat} {w w' : World} {E E' : TypeId → Prop} (h : Keeps B w w' E) (hE : ∀ e, E' e → E e) : Keeps B w w' E' := fun b cur e fz he hb hh => h b cur e fz (hE e he) hb hh
theorem Keeps.trans {B : Nat} {w w1 w' : World} {E : TypeId → Prop} (h : Keeps B w w1 E) (h1 : Keeps B w1 w' E) : Keeps B w w' E := fun b cur e fz he hb hh => (h1 b cur e fz he hb ((h b cur e fz he hb hh).trans hh)).trans (h b cur e fz he hb hh)
theorem heap_lt {w : World} {b : Nat} {o : Obj} (h : w.heap[b]? = some o) : b < w.heap.size := by
  rcases Nat.lt_or_ge b w.heap.size with h1 | h1
  · exact h1
  · rw [Array.getElem?_eq_none h1] at h; cases h
theorem keeps_grown {B P : Nat} {w w' : World} (E : TypeId → Prop) (h : w.grownBy w' (some P)) (hP : P < B) : Keeps B w w' E := fun b cur e fz _ hb hh => h.block b (heap_lt hh) (by intro h; injection h; omega)
theorem keeps_below {B : Nat} {w w' : World} (E : TypeId → Prop) (h : Below w.heap.size w w') : Keeps B w w' E := fun b _ _ _ _ _ hh => h.block b (heap_lt hh)
theorem keeps_set {B b : Nat} {w : World} (E : TypeId → Prop) (h : b < B) (o : Nat) (v : Value) : Keeps B w (w.setCell ⟨b, o, none⟩ v) E := fun b' _ _ _ _ hb _ => Below.heap_setCell _ _ _ _ (show ¬ b' = b by omega)
theorem keeps_own {B base k n : Nat} {w w' : World} {E : TypeId → Prop} {e1 : TypeId} {v : Value} {xs : List Value} (h : w.grownBy w' v.ownBlock) (hown : w.ownsRow base e1 k v n xs) (hE : ¬ E e1) : Keeps B w w' E := by
  intro b cur e fz he hb hh
  refine h.block b (heap_lt hh) ?_
  intro hv
  rcases hown.2 with ⟨rfl, h0⟩ | ⟨g, cap, cur', rfl, hg, hbk, r⟩
  · cases hv
  · have hbg : b = g := by simpa [Value.ownBlock] using hv
    subst hbg
    rw [hbk] at hh
    injection hh with hh
    injection hh with h1 h2 h3
    exact hE (h2 ▸ he)

theorem RowP.keep {B : Nat} {w w' : World} {E : TypeId → Prop} {e : TypeId} {k : Nat} {v : Value} {cs : List (List Value)} (h : RowP B w e k v cs) (hk : Keeps B w w' E) (he : E e) : RowP B w' e k v cs := by
  obtain ⟨ao, cap, hv, h⟩ := h
  refine ⟨ao, cap, hv, ?_⟩
  rcases h with h | ⟨b, cur, rfl, hb, hh, hc⟩
  · exact .inl h
  · have hs := hk b cur e (0, 0) he hb hh
    exact .inr ⟨b, cur, rfl, hb, hs.trans hh, fun i c hi j u hj => (World.cell?_of_block (a := ⟨b, _, none⟩) hs).trans (hc i c hi j u hj)⟩
theorem RowP.mono {B B' : Nat} {w : World} {e : TypeId} {k : Nat} {v : Value} {cs : List (List Value)} (h : RowP B w e k v cs) (hB : B' ≤ B) : RowP B' w e k v cs := by
  obtain ⟨ao, cap, hv, h⟩ := h
  refine ⟨ao, cap, hv, ?_⟩
  rcases h with h | ⟨b, cur, rfl, hb, hh, hc⟩
  · exact .inl h
  · exact .inr ⟨b, cur, rfl, Nat.le_trans hB hb, hh, hc⟩

def termCells (t : Tr.Term) : List Value := [.string ⟨t.var.toArray⟩, .int .i64 t.n]
def TermsP (B : Nat) (w : World) (v : Value) (l : List Tr.Term) : Prop := RowP B w 160 2 v (l.map termCells)
def litCells (x : Tr.Lit × Value) : List Value := [.int .i64 x.1.kind, .int .i64 x.1.at_, .int .i64 x.1.op, .string ⟨x.1.name.toArray⟩, x.2]
def LitsP (B : Nat) (w : World) (v : Value) (l : List Tr.Lit) : Prop := ∃ q : List (Tr.Lit × Value), q.map (·.1) = l ∧ RowP B w 152 5 v (q.map litCells) ∧ ∀ p, p ∈ q → TermsP B w p.2 p.1.terms
def ruleCells (x : Tr.Rule × Value × Value) : List Value := [.int .i64 x.1.at_, .string ⟨x.1.name.toArray⟩, x.2.1, .int .i64 x.1.fold, x.2.2]
def RulesP (B : Nat) (w : World) (v : Value) (l : List Tr.Rule) : Prop := ∃ q : List (Tr.Rule × Value × Value), q.map (·.1) = l ∧ RowP B w 122 5 v (q.map ruleCells) ∧ ∀ p, p ∈ q → TermsP B w p.2.1 p.1.terms ∧ LitsP B w p.2.2 p.1.body

theorem TermsP.keep {B : Nat} {w w' : World} {v : Value} {l : List Tr.Term} (h : TermsP B w v l) (hk : Keeps B w w' (· = 160)) : TermsP B w' v l := RowP.keep h hk rfl
theorem TermsP.mono {B B' : Nat} {w : World} {v : Value} {l : List Tr.Term} (h : TermsP B w v l) (hB : B' ≤ B) : TermsP B' w v l := RowP.mono h hB
theorem LitsP.keep {B : Nat} {w w' : World} {v : Value} {l : List Tr.Lit} (h : LitsP B w v l) (hk : Keeps B w w' (fun e => e = 160 ∨ e = 152)) : LitsP B w' v l := by
  obtain ⟨q, h1, h2, h3⟩ := h
  exact ⟨q, h1, h2.keep hk (.inr rfl), fun p hp => (h3 p hp).keep (hk.mono fun e he => .inl he)⟩
theorem LitsP.mono {B B' : Nat} {w : World} {v : Value} {l : List Tr.Lit} (h : LitsP B w v l) (hB : B' ≤ B) : LitsP B' w v l := by
  obtain ⟨q, h1, h2, h3⟩ := h
  exact ⟨q, h1, h2.mono hB, fun p hp => (h3 p hp).mono hB⟩

theorem row_get {B : Nat} {w : World} {e : TypeId} {k : Nat} {v : Value} {α : Type} {cells : α → List Value} {l : List α} (h : RowP B w e k v (l.map cells)) :
    ∃ ao cap, v = .slice ao l.length cap ∧ (l = [] ∨ ∃ b, ao = some ⟨b, 0, none⟩ ∧ ∀ i x, l[i]? = some x → ∀ j u, (cells x)[j]? = some u → w.cell? ⟨b, i * k + j, none⟩ = some u) := by
  obtain ⟨ao, cap, hv, h⟩ := h
  rw [List.length_map] at hv
  refine ⟨ao, cap, hv, ?_⟩
  rcases h with h | ⟨b, cur, rfl, hb, hh, hc⟩
  · exact .inl (by simpa using h)
  · exact .inr ⟨b, rfl, fun i x hi j u hj => hc i (cells x) (by rw [List.getElem?_map, hi]; rfl) j u hj⟩

theorem TermsP.toV {B : Nat} {w : World} {v : Value} {l : List Tr.Term} (h : TermsP B w v l) : TermsV w v l := by
  obtain ⟨ao, cap, hv, h⟩ := row_get h
  refine ⟨ao, cap, hv, ?_⟩
  rcases h with h | ⟨b, rfl, hc⟩
  · exact .inl h
  · refine .inr ⟨b, 0, rfl, fun i hi => ?_⟩
    have hx : l[i]? = some (Tr.termD l i) := by simp [Tr.termD, hi]
    rw [Nat.zero_add]
    exact ⟨hc i _ hx 0 _ rfl, hc i _ hx 1 _ rfl⟩
theorem LitsP.toV {B : Nat} {w : World} {v : Value} {l : List Tr.Lit} (h : LitsP B w v l) : LitsV w v l := by
  obtain ⟨q, rfl, h2, h3⟩ := h
  obtain ⟨ao, cap, hv, h⟩ := row_get h2
  refine ⟨ao, cap, by rw [hv, List.length_map], ?_⟩
  rcases h with h | ⟨b, rfl, hc⟩
  · exact .inl (by simp [h])
  · refine .inr ⟨b, 0, rfl, fun i hi => ?_⟩
    rw [List.length_map] at hi
    have hq : q[i]? = some q[i] := List.getElem?_eq_getElem hi
    have hx : Tr.litD (q.map (·.1)) i = q[i].1 := by simp [Tr.litD, hi]
    rw [Nat.zero_add, hx]
    exact ⟨hc i _ hq 0 _ rfl, hc i _ hq 1 _ rfl, hc i _ hq 2 _ rfl, hc i _ hq 3 _ rfl, q[i].2, hc i _ hq 4 _ rfl, (h3 _ (List.getElem_mem hi)).toV⟩
theorem RulesP.toV {B : Nat} {w : World} {v : Value} {l : List Tr.Rule} (h : RulesP B w v l) : RulesV w v l := by
  obtain ⟨q, rfl, h2, h3⟩ := h
  obtain ⟨ao, cap, hv, h⟩ := row_get h2
  refine ⟨ao, cap, by rw [hv, List.length_map], ?_⟩
  rcases h with h | ⟨b, rfl, hc⟩
  · exact .inl (by simp [h])
  · refine .inr ⟨b, 0, rfl, fun i hi => ?_⟩
    rw [List.length_map] at hi
    have hq : q[i]? = some q[i] := List.getElem?_eq_getElem hi
    have hx : Tr.ruleD (q.map (·.1)) i = q[i].1 := by simp [Tr.ruleD, hi]
    rw [Nat.zero_add, hx]
    have h4 := h3 _ (List.getElem_mem hi)
    exact ⟨hc i _ hq 0 _ rfl, hc i _ hq 1 _ rfl, ⟨q[i].2.1, hc i _ hq 2 _ rfl, h4.1.toV⟩, hc i _ hq 3 _ rfl, q[i].2.2, hc i _ hq 4 _ rfl, h4.2.toV⟩

end Go.Proofs.Ytgpaleifhcdjnaa

/- Small facts on rows of one's own, and on worlds. -/
namespace Go.Proofs.Ytgpaleifhcdjnaa
open Go.RowKit

theorem rl_lt {w : World} {b : Nat} {o : Obj} (h : w.heap[b]? = some o) : b < w.heap.size := by
  rcases Nat.lt_or_ge b w.heap.size with h2 | h2
  · exact h2
  · rw [Array.getElem?_eq_none h2] at h; cases h
theorem rl_new (w : World) (o : Obj) : (w.alloc o).heap[w.heap.size]? = some o := by show (w.heap.push o)[w.heap.size]? = some o; simp
theorem rl_cell_low {w0 y : World} {b o : Nat} {v : Value} (h : w0.cell? ⟨b, o, none⟩ = some v) (hl : ∀ k, k < w0.heap.size → y.heap[k]? = w0.heap[k]?) : y.cell? ⟨b, o, none⟩ = some v := (World.cell?_of_block (a := ⟨b, o, none⟩) (hl b (World.block_lt_of_cell? w0 _ h))).trans h
theorem rl_low_size {w0 y : World} (hl : ∀ k, k < w0.heap.size → y.heap[k]? = w0.heap[k]?) : w0.heap.size ≤ y.heap.size := by
  rcases Nat.eq_zero_or_pos w0.heap.size with h | h
  · omega
  · have h1 := hl (w0.heap.size - 1) (by omega)
    have h2 : w0.heap[w0.heap.size - 1]? = some w0.heap[w0.heap.size - 1] := Array.getElem?_eq_getElem (by omega)
    have := rl_lt (h1.trans h2)
    omega
theorem rl_own_alone {w w' : World} {B k n : Nat} {e : TypeId} {v : Value} {xs : List Value} (h : w.ownsRow B e k v n xs) (hk : ∀ g, v.ownBlock = some g → w'.heap[g]? = w.heap[g]?) : w'.ownsRow B e k v n xs := by
  obtain ⟨h1, h2⟩ := h
  refine ⟨h1, ?_⟩
  rcases h2 with h2 | ⟨g, cap, cur, rfl, hb, hh, r⟩
  · exact .inl h2
  · exact .inr ⟨g, cap, cur, rfl, hb, (hk g rfl).trans hh, r⟩
theorem rl_ints_low {w0 w : World} {v : Value} {l : List Int} (h : IntsV w0 v l) (hl : ∀ k, k < w0.heap.size → w.heap[k]? = w0.heap[k]?) : IntsV w v l := by
  obtain ⟨ao, cap, rfl, h⟩ := h
  refine ⟨ao, cap, rfl, ?_⟩
  rcases h with h | ⟨b, off, rfl, hc⟩
  · exact .inl h
  · exact .inr ⟨b, off, rfl, fun i hi => rl_cell_low (hc i hi) hl⟩

/-- A fact, and the value of its numbers' list. -/
abbrev Fv := Rl.Fc × Value
def fcCells (x : Fv) : List Value := [.int .i64 x.1.pred, x.2]
theorem fc_len (q : List Fv) : ∀ c, c ∈ q.map fcCells → c.length = 2 := by
  intro c hc
  obtain ⟨t, _, rfl⟩ := List.mem_map.mp hc
  rfl
theorem fc_at (q : List Fv) (t : Nat) (ht : t < q.length * 2) : ∃ x, q[t / 2]? = some x ∧ ((q.map fcCells).flatten)[t]? = (fcCells x)[t % 2]? := by
  have h1 : t / 2 < q.length := by omega
  refine ⟨q[t / 2], List.getElem?_eq_getElem h1, ?_⟩
  have h2 : (fcCells q[t / 2])[t % 2]? = some ((fcCells q[t / 2])[t % 2]'(by show _ < 2; omega)) := List.getElem?_eq_getElem _
  have := flat_get 2 (q.map fcCells) (fc_len q) (t / 2) (fcCells q[t / 2]) (t % 2) _ (by rw [List.getElem?_map, List.getElem?_eq_getElem h1]; rfl) h2
  rw [h2, ← this]
  congr 1
  omega
theorem fc_length (q : List Fv) : ((q.map fcCells).flatten).length = q.length * 2 := by
  rw [flat_length 2 _ (fc_len q), List.length_map]
/-- A row of facts of one's own: block g. -/
abbrev FRow (w : World) (B g cap : Nat) (q : List Fv) : Prop := w.ownsRow B 49 2 (.slice (some ⟨g, 0, none⟩) q.length cap) q.length (q.map fcCells).flatten
section
variable {w w' : World} {B g cap : Nat} {q : List Fv}
theorem FRow.cell (h : FRow w B g cap q) {i : Nat} {x : Fv} (hi : q[i]? = some x) : w.cell? ⟨g, i * 2, none⟩ = some (.int .i64 x.1.pred) ∧ w.cell? ⟨g, i * 2 + 1, none⟩ = some x.2 := by
  have hl : i < q.length := by
    rcases Nat.lt_or_ge i q.length with h2 | h2
    · exact h2
    · rw [List.getElem?_eq_none h2] at hi; cases hi
  have hm : (q.map fcCells)[i]? = some (fcCells x) := by rw [List.getElem?_map, hi]; rfl
  have c0 := flat_get 2 (q.map fcCells) (fc_len q) i (fcCells x) 0 (.int .i64 x.1.pred) hm rfl
  have c1 := flat_get 2 (q.map fcCells) (fc_len q) i (fcCells x) 1 x.2 hm rfl
  exact ⟨(World.ownsRow.cellAt h (i * 2) (by omega)).trans c0, (World.ownsRow.cellAt h (i * 2 + 1) (by omega)).trans c1⟩
theorem FRow.frozen (h : FRow w B g cap q) (j : Nat) : w.frozen? ⟨g, j, none⟩ = false := World.ownsRow.frozenAt h j
theorem FRow.lt (h : FRow w B g cap q) : B ≤ g ∧ g < w.heap.size := World.ownsRow.lt h g rfl
theorem FRow.keep (h : FRow w B g cap q) (hk : w'.heap[g]? = w.heap[g]?) : FRow w' B g cap q := rl_own_alone h fun g' hg => by
  have : g = g' := by simpa [Value.ownBlock] using hg
  subst this
  exact hk
theorem fc_set (q : List Fv) (i : Nat) (hi : i < q.length) (y : Fv) : ((((q.map fcCells).flatten).set (i * 2) (.int .i64 y.1.pred)).set (i * 2 + 1) y.2) = (((q.set i y).map fcCells).flatten) := by
  apply List.ext_getElem?
  intro t
  by_cases ht : t < q.length * 2
  · obtain ⟨x, hx, hx2⟩ := fc_at q t ht
    obtain ⟨z, hz, hz2⟩ := fc_at (q.set i y) t (by rw [List.length_set]; exact ht)
    rw [hz2]
    rw [List.getElem?_set] at hz
    rw [List.getElem?_set, List.getElem?_set, List.length_set, fc_length]
    by_cases hti : i = t / 2
    · rw [if_pos hti, if_pos (by omega)] at hz
      obtain rfl : y = z := by simpa using hz
      by_cases h0 : t % 2 = 0
      · have e1 : ¬ i * 2 + 1 = t := by omega
        have e2 : i * 2 = t := by omega
        rw [if_neg e1, if_pos e2, if_pos (by omega), h0]
        rfl
      · have h1 : t % 2 = 1 := by omega
        have e1 : i * 2 + 1 = t := by omega
        rw [if_pos e1, if_pos (by omega), h1]
        rfl
    · rw [if_neg hti, hx] at hz
      obtain rfl : x = z := by simpa using hz
      rw [if_neg (by omega), if_neg (by omega), hx2]
  · rw [List.getElem?_eq_none, List.getElem?_eq_none]
    · rw [fc_length, List.length_set]; omega
    · rw [List.length_set, List.length_set, fc_length]; omega
/-- A fact of the row is set. -/
theorem FRow.put (h : FRow w B g cap q) (i : Nat) (hi : i < q.length) (y : Fv) : FRow ((w.setCell ⟨g, i * 2, none⟩ (.int .i64 y.1.pred)).setCell ⟨g, i * 2 + 1, none⟩ y.2) B g cap (q.set i y) := by
  have h1 := (World.ownsRow.stored h (i * 2) (.int .i64 y.1.pred)).1
  have h2 := (World.ownsRow.stored h1 (i * 2 + 1) y.2).1
  unfold FRow
  rw [List.length_set, ← fc_set q i hi y]
  exact h2
theorem FRow.cut (h : FRow w B g cap q) (n : Nat) (hn : n ≤ q.length) : FRow w B g cap (q.take n) := by
  obtain ⟨h1, h2⟩ := h
  rcases h2 with ⟨h2, _⟩ | ⟨g', cap', cur, hv, hb, hh, hc1, hc2, hc3, hc4⟩
  · cases h2
  · injection hv with e1 _ e3
    injection e1 with e1
    injection e1 with e1
    subst e1 e3
    have hl : (q.take n).length = n := by rw [List.length_take]; omega
    refine ⟨by rw [fc_length], .inr ⟨g, cap, cur, rfl, hb, hh, by omega, hc2, hc3, ?_⟩⟩
    rw [hl]
    have h3 : (cur.toList.take (q.length * 2)).take (n * 2) = cur.toList.take (n * 2) := by rw [List.take_take]; congr 1; omega
    rw [← h3, hc4]
    apply List.ext_getElem?
    intro t
    rw [List.getElem?_take]
    by_cases ht : t < n * 2
    · rw [if_pos ht]
      obtain ⟨x, hx, hx2⟩ := fc_at q t (by omega)
      obtain ⟨z, hz, hz2⟩ := fc_at (q.take n) t (by omega)
      rw [List.getElem?_take, if_pos (by omega), hx] at hz
      obtain rfl : x = z := by simpa using hz
      rw [hx2, hz2]
    · rw [if_neg ht, List.getElem?_eq_none]
      rw [fc_length, hl]
      omega
end

end Go.Proofs.Ytgpaleifhcdjnaa

/- The library's sort, of facts in a row of one's own. -/
namespace Go.Proofs.Ytgpaleifhcdjnaa
open Go.Shelf Go.RowKit Go.Lib Go.Sort

/-- A fact whose numbers can be read. -/
def FvOk (w : World) (x : Fv) : Prop := IntsV w x.2 x.1.args ∧ FFit x.1
abbrev FvS (w : World) := { x : Fv // FvOk w x }
theorem fvOk_nil (w : World) : FvOk w (⟨0, []⟩, .slice none 0 0) := ⟨⟨none, 0, rfl, .inl rfl⟩, by show ([] : List Int).length ≤ _; decide⟩
theorem fv_lift {w : World} : ∀ {q : List Fv}, (∀ p, p ∈ q → FvOk w p) → ∃ Q : List (FvS w), Q.map (·.1) = q := by
  intro q
  induction q with
  | nil => intro _; exact ⟨[], rfl⟩
  | cons a r ih =>
    intro h
    obtain ⟨Q, hQ⟩ := ih (fun p hp => h p (by simp [hp]))
    exact ⟨⟨a, h a (by simp)⟩ :: Q, by simp [hQ]⟩
abbrev fvInh (w : World) : Inhabited (FvS w) := ⟨⟨_, fvOk_nil w⟩⟩
def fvEnc {w : World} (x : FvS w) : List Value := fcCells x.1
def fvCmp {w : World} (x y : FvS w) : Int := Rl.ord x.1.1 y.1.1
theorem fv_swo (w : World) : SWO (ltOf (fvCmp (w := w))) where
  irrefl x := by unfold ltOf fvCmp; rw [Rl.ord_self]; decide
  trans x y z h1 h2 := by
    unfold ltOf fvCmp at *
    simp only [decide_eq_true_eq] at *
    exact Rl.ord_trans h1 h2
  ntrans x y z h1 h2 := by
    unfold ltOf fvCmp at *
    simp only [decide_eq_false_iff_not] at *
    intro h3
    rcases Rl.lt_or x.1.1 y.1.1 with h4 | h4 | h4
    · exact h1 h4
    · rw [h4] at h3; exact h2 h3
    · exact h2 (Rl.ord_trans h4 h3)
theorem fv_one {w : World} (x : FvS w) : ∀ v ∈ fvEnc x, v.oneCell' = true := by
  intro v hv
  obtain ⟨⟨⟨p, a⟩, u⟩, h⟩ := x
  obtain ⟨⟨ao, cap, hu, _⟩, _⟩ := h
  have hu : u = .slice ao a.length cap := hu
  subst hu
  simp [fvEnc, fcCells] at hv
  rcases hv with rfl | rfl <;> rfl
theorem sortWorldK_block {α : Type} [Inhabited α] (enc : α → List Value) (k : Nat) (w : World) (g m : Nat) (d : Array α) (os : Array Obj) (i : Nat) (hi : i < w.heap.size) (hne : ¬ i = g) : (sortWorldK enc k w g 0 m d os).heap[i]? = w.heap[i]? := by
  unfold sortWorldK putRowK putRow mapBlock Sort.ahead grow
  show ((w.heap.modify g _) ++ os)[i]? = _
  rw [Array.getElem?_append_left (by simpa using hi), Array.getElem?_modify, if_neg (fun e => hne e.symm)]
theorem sortWorldK_size {α : Type} [Inhabited α] (enc : α → List Value) (k : Nat) (w : World) (g m : Nat) (d : Array α) (os : Array Obj) : w.heap.size ≤ (sortWorldK enc k w g 0 m d os).heap.size := by
  unfold sortWorldK putRowK putRow mapBlock Sort.ahead grow
  show _ ≤ ((w.heap.modify g _) ++ os).size
  simp
theorem cmp_lays {w0 w : World} {g : Nat} (hg : w0.heap.size ≤ g) (hlow : ∀ k, k < w0.heap.size → w.heap[k]? = w0.heap[k]?) (size : Nat) : @CmpLays (FvS w0) (fvInh w0) Try.prog 20 #[] fvEnc 2 fvCmp g 0 size w := by
  letI : Inhabited (FvS w0) := fvInh w0
  intro m os dk _ x y
  have hl : ∀ k, k < w0.heap.size → (sortWorldK (fvEnc (w := w0)) 2 w g 0 m dk os).heap[k]? = w0.heap[k]? := fun k hk => (sortWorldK_block _ _ _ _ _ _ _ k (Nat.lt_of_lt_of_le hk (rl_low_size hlow)) (by omega)).trans (hlow k hk)
  exact Order_any x.1.1 y.1.1 x.1.2 y.1.2 _ (rl_ints_low x.2.1 hl) (rl_ints_low y.2.1 hl) x.2.2 y.2.2

theorem holds_row {w0 w : World} {B g cap : Nat} {Q : List (FvS w0)} (h : FRow w B g cap (Q.map (·.1))) : @HoldsK (FvS w0) (fvInh w0) fvEnc 2 w g 0 Q.toArray := by
  letI : Inhabited (FvS w0) := fvInh w0
  intro t ht
  have ht2 : t < Q.length * 2 := by simpa using ht
  refine ⟨?_, by rw [Nat.zero_add]; exact h.frozen t⟩
  rw [Nat.zero_add]
  have hc := World.ownsRow.cellAt h t (by rw [List.length_map]; exact ht2)
  obtain ⟨x, hx, hx2⟩ := fc_at (Q.map (·.1)) t (by rw [List.length_map]; exact ht2)
  rw [hc, hx2]
  have h1 : t / 2 < Q.length := by omega
  rw [List.getElem?_map, List.getElem?_eq_getElem h1] at hx
  have hx3 : Q[t / 2].1 = x := by simpa using hx
  show (fcCells x)[t % 2]? = some ((flatK fvEnc 2 Q.toArray)[t]!)
  rw [get_flatK fvEnc 2 Q.toArray t (by simpa using ht2)]
  have h2 : (Q.toArray)[t / 2]! = Q[t / 2] := by simp [h1]
  rw [h2]
  show _ = some ((fcCells Q[t / 2].1)[t % 2]!)
  rw [hx3]
  have h3 : t % 2 < (fcCells x).length := by show t % 2 < 2; omega
  rw [List.getElem?_eq_getElem h3, getElem!_pos (fcCells x) (t % 2) h3]
theorem row_sorted {w0 w : World} {B g cap n : Nat} {Q : List (FvS w0)} {d : Array (FvS w0)} {os : Array Obj} (h : FRow w B g cap (Q.map (·.1))) (hd : d.size = Q.length) :
    FRow (@sortWorldK (FvS w0) (fvInh w0) fvEnc 2 w g 0 n d os) B g cap (d.toList.map (·.1)) := by
  letI : Inhabited (FvS w0) := fvInh w0
  have hg := h.lt
  obtain ⟨h1, h2⟩ := h
  rcases h2 with ⟨h2, _⟩ | ⟨g', cap', cur, hv, hb, hh, hc1, hc2, hc3, hc4⟩
  · cases h2
  · injection hv with e1 _ e3
    injection e1 with e1
    injection e1 with e1
    subst e1 e3
    have hl : (d.toList.map (·.1)).length = Q.length := by rw [List.length_map, Array.length_toList, hd]
    refine ⟨fc_length _, .inr ⟨g, cap, putCells id 0 (flatK fvEnc 2 d) cur, rfl, hb, ?_, by rw [hl]; simpa using hc1, hc2, by simpa [putCells] using hc3, ?_⟩⟩
    · unfold sortWorldK putRowK putRow mapBlock Sort.ahead grow
      show ((w.heap.modify g _) ++ os)[g]? = _
      rw [Array.getElem?_append_left (by simpa using hg.2), Array.getElem?_modify, if_pos rfl, hh]
      rfl
    · apply List.ext_getElem?
      intro t
      rw [List.getElem?_take, Array.getElem?_toList, hl]
      by_cases ht : t < Q.length * 2
      · rw [if_pos ht]
        have hq : (Q.map (·.1)).length = Q.length := List.length_map _
        have hcs : t < cur.size := by
          rw [hc3]
          have : Q.length ≤ cap := by simpa using hc1
          omega
        obtain ⟨x, hx, hx2⟩ := fc_at (d.toList.map (·.1)) t (by rw [hl]; exact ht)
        rw [hx2]
        unfold putCells
        rw [Array.getElem?_mapIdx, Array.getElem?_eq_getElem hcs, Option.map_some, if_pos (by rw [size_flatK, hd]; omega)]
        have h4 : t / 2 < d.size := by omega
        rw [List.getElem?_map, Array.getElem?_toList, Array.getElem?_eq_getElem h4] at hx
        have hx3 : d[t / 2].1 = x := by simpa using hx
        rw [Nat.sub_zero, get_flatK fvEnc 2 d t (by rw [hd]; exact ht), getElem!_pos d _ h4]
        show some ((fcCells d[t / 2].1)[t % 2]!) = _
        rw [hx3]
        have h3 : t % 2 < (fcCells x).length := by show t % 2 < 2; omega
        rw [List.getElem?_eq_getElem h3, getElem!_pos (fcCells x) (t % 2) h3]
      · rw [if_neg ht, List.getElem?_eq_none]
        rw [fc_length, hl]
        omega

theorem sort_any (w0 w : World) (B g cap : Nat) (q : List Fv) (h0 : w0.heap.size ≤ g) (hlow : ∀ k, k < w0.heap.size → w.heap[k]? = w0.heap[k]?) (hown : FRow w B g cap q) (hq : ∀ p, p ∈ q → FvOk w0 p) (hn : q.length < 4611686018427387904) :
    Calls Try.prog 69 #[.slice (some ⟨g, 0, none⟩) q.length cap, .func (.func 20) #[] #[]] w fun e w' => e = .returned (.tuple #[]) ∧ ∃ q', q'.Perm q ∧ (q'.map (·.1)).Pairwise (fun a b => ¬ Rl.Lt b a) ∧ FRow w' B g cap q' ∧ w.grownBy w' (some g) := by
  obtain ⟨Q, rfl⟩ := fv_lift hq
  letI : Inhabited (FvS w0) := fvInh w0
  have eg : ∀ args w, (callFunc 20 args).run Try.prog w = .ok (.enter 20 args) w := enters_of Try.func20 (by kernel_rfl) rfl
  have hsz : Q.toArray.size = Q.length := by simp
  have hcon := AnyQ.slices_SortFunc Try.sortF 2 Try.isAgg49 Try.sizeOf49 fvEnc (fun _ => rfl) fv_one fvCmp (fv_swo w0) 20 #[] g 0 cap Q.toArray w eg (cmp_lays h0 hlow _) (holds_row hown) hown.lt.2 (by rw [hsz]; simpa using hn)
  rw [hsz] at hcon
  change Calls Try.prog 69 _ _ _ at hcon
  rw [List.length_map]
  refine hcon.mono ?_
  rintro e w' ⟨rfl, d', n, os, hp, hs, rfl⟩
  obtain ⟨p1, p2, p3⟩ := hp
  have hds : d'.size = Q.length := by rw [p1]; simp
  have e1 : d'.extract 0 Q.length = d' := by rw [← hds]; simp
  have e2 : Q.toArray.extract 0 Q.length = Q.toArray := by simp
  rw [e1, e2] at p3
  refine ⟨rfl, d'.toList.map (·.1), ?_, ?_, row_sorted hown hds, rfl, rfl, rfl, sortWorldK_size _ _ _ _ _ _ _, fun k hk hne => sortWorldK_block _ _ _ _ _ _ _ k hk (fun e => hne (by rw [e]))⟩
  · exact p3.map _
  · rw [List.pairwise_iff_getElem]
    intro i j hi hj hij
    have hi2 : i < d'.size := by simpa using hi
    have hj2 : j < d'.size := by simpa using hj
    have := hs i j (Nat.zero_le _) hij (by omega)
    rw [getElem!_pos d' j hj2, getElem!_pos d' i hi2] at this
    unfold ltOf fvCmp at this
    simp only [decide_eq_false_iff_not] at this
    simpa [Rl.Lt] using this

end Go.Proofs.Ytgpaleifhcdjnaa

/- Of facts in order those that are not as the one ahead; plain. -/
namespace Go.Proofs.Ytgpaleifhcdjnaa
namespace Rl

def ddGo (p : Fc) : List Fv → List Fv
  | [] => []
  | x :: r => if ord x.1 p = 0 then ddGo x.1 r else x :: ddGo x.1 r
def dd : List Fv → List Fv
  | [] => []
  | x :: r => x :: ddGo x.1 r
def lastF (p : Fc) : List Fv → Fc
  | [] => p
  | x :: r => lastF x.1 r
theorem ddGo_snoc : ∀ (l : List Fv) (p : Fc) (x : Fv), ddGo p (l ++ [x]) = if ord x.1 (lastF p l) = 0 then ddGo p l else ddGo p l ++ [x] := by
  intro l
  induction l with
  | nil => intro p x; by_cases h : ord x.1 p = 0 <;> simp [ddGo, lastF, h]
  | cons y r ih =>
    intro p x
    have hi := ih y.1 x
    by_cases h : ord y.1 p = 0
    · by_cases h2 : ord x.1 (lastF y.1 r) = 0
      · rw [if_pos h2] at hi
        simp [ddGo, lastF, h, h2, hi]
      · rw [if_neg h2] at hi
        simp [ddGo, lastF, h, h2, hi]
    · by_cases h2 : ord x.1 (lastF y.1 r) = 0
      · rw [if_pos h2] at hi
        simp [ddGo, lastF, h, h2, hi]
      · rw [if_neg h2] at hi
        simp [ddGo, lastF, h, h2, hi]
theorem lastF_get : ∀ (l : List Fv) (p : Fc) (y : Fv), l.getLast? = some y → lastF p l = y.1 := by
  intro l
  induction l with
  | nil => intro p y h; cases h
  | cons x r ih =>
    intro p y h
    cases r with
    | nil =>
      simp at h
      rw [← h]
      rfl
    | cons z r =>
      rw [List.getLast?_cons_cons] at h
      exact ih x.1 y h
theorem dd_snoc (l : List Fv) (x y : Fv) (h : l.getLast? = some y) : dd (l ++ [x]) = if ord x.1 y.1 = 0 then dd l else dd l ++ [x] := by
  cases l with
  | nil => cases h
  | cons a r =>
    simp only [List.cons_append, dd, ddGo_snoc]
    have hl : lastF a.1 r = y.1 := by
      cases r with
      | nil => simp at h; rw [← h]; rfl
      | cons b r =>
        rw [List.getLast?_cons_cons] at h
        exact lastF_get (b :: r) a.1 y h
    rw [hl]
    by_cases h2 : ord x.1 y.1 = 0
    · rw [if_pos h2, if_pos h2]
    · rw [if_neg h2, if_neg h2]
theorem dd_take (q : List Fv) (m : Nat) (x y : Fv) (h1 : 1 ≤ m) (hx : q[m]? = some x) (hy : q[m - 1]? = some y) : dd (q.take (m + 1)) = if ord x.1 y.1 = 0 then dd (q.take m) else dd (q.take m) ++ [x] := by
  rw [List.take_add_one, hx]
  refine dd_snoc (q.take m) x y ?_
  have hm : m ≤ q.length := by
    rcases Nat.lt_or_ge m q.length with h | h
    · omega
    · rw [List.getElem?_eq_none h] at hx; cases hx
  rw [List.getLast?_eq_getElem?, List.length_take, Nat.min_eq_left hm, List.getElem?_take, if_pos (by omega)]
  exact hy
theorem ddGo_sub : ∀ (l : List Fv) (p : Fc) (x : Fv), x ∈ ddGo p l → x ∈ l := by
  intro l
  induction l with
  | nil => intro p x h; exact h
  | cons y r ih =>
    intro p x h
    simp only [ddGo] at h
    split at h
    · exact List.mem_cons_of_mem _ (ih _ _ h)
    · rcases List.mem_cons.mp h with rfl | h
      · simp
      · exact List.mem_cons_of_mem _ (ih _ _ h)
theorem dd_sub (l : List Fv) (x : Fv) (h : x ∈ dd l) : x ∈ l := by
  cases l with
  | nil => exact h
  | cons a r =>
    rcases List.mem_cons.mp h with rfl | h
    · simp
    · exact List.mem_cons_of_mem _ (ddGo_sub _ _ _ h)
theorem dd_length (l : List Fv) : (dd l).length ≤ l.length := by
  have h : ∀ (l : List Fv) (p : Fc), (ddGo p l).length ≤ l.length := by
    intro l
    induction l with
    | nil => intro p; exact Nat.le_refl _
    | cons y r ih =>
      intro p
      simp only [ddGo]
      split
      · have := ih y.1; simp; omega
      · have := ih y.1; simp; omega
  cases l with
  | nil => exact Nat.le_refl _
  | cons a r => simp only [dd, List.length_cons]; have := h r a.1; omega
theorem ddGo_set : ∀ (l : List Fv) (p : Fc), (∀ x, x ∈ l → ¬ Lt x.1 p) → (l.map (·.1)).Pairwise (fun a b => ¬ Lt b a) →
    Up ((ddGo p l).map (·.1)) ∧ (∀ x, x ∈ (ddGo p l).map (·.1) → Lt p x) ∧ ∀ x, x ∈ l.map (·.1) → x = p ∨ x ∈ (ddGo p l).map (·.1) := by
  intro l
  induction l with
  | nil => intro p _ _; exact ⟨List.Pairwise.nil, fun x h => by simp [ddGo] at h, fun x h => by simp at h⟩
  | cons y r ih =>
    intro p hp hs
    rw [List.map_cons, List.pairwise_cons] at hs
    obtain ⟨i1, i2, i3⟩ := ih y.1 (fun x hx => hs.1 x.1 (List.mem_map.mpr ⟨x, hx, rfl⟩)) hs.2
    simp only [ddGo]
    by_cases h : ord y.1 p = 0
    · rw [if_pos h]
      rw [ord_zero] at h
      refine ⟨i1, fun x hx => by rw [← h]; exact i2 x hx, fun x hx => ?_⟩
      rw [List.map_cons] at hx
      rcases List.mem_cons.mp hx with hx | hx
      · exact .inl (hx.trans h)
      · rcases i3 x hx with h2 | h2
        · exact .inl (h2.trans h)
        · exact .inr h2
    · rw [if_neg h]
      have hlt : Lt p y.1 := by
        rcases lt_or p y.1 with h2 | h2 | h2
        · exact h2
        · exact absurd (ord_zero.mpr h2.symm) h
        · exact absurd h2 (hp y (by simp))
      rw [List.map_cons]
      refine ⟨List.pairwise_cons.mpr ⟨i2, i1⟩, fun x hx => ?_, fun x hx => ?_⟩
      · rcases List.mem_cons.mp hx with rfl | hx
        · exact hlt
        · exact hlt.trans (i2 x hx)
      · rw [List.map_cons] at hx
        rcases List.mem_cons.mp hx with hx | hx
        · exact .inr (by simp [hx])
        · rcases i3 x hx with h2 | h2
          · exact .inr (by simp [h2])
          · exact .inr (List.mem_cons_of_mem _ h2)
theorem dd_set (l : List Fv) (h : (l.map (·.1)).Pairwise (fun a b => ¬ Lt b a)) : IsSet ((dd l).map (·.1)) (l.map (·.1)) := by
  cases l with
  | nil => exact ⟨List.Pairwise.nil, fun x => Iff.rfl⟩
  | cons a r =>
    rw [List.map_cons, List.pairwise_cons] at h
    obtain ⟨i1, i2, i3⟩ := ddGo_set r a.1 (fun x hx => h.1 x.1 (List.mem_map.mpr ⟨x, hx, rfl⟩)) h.2
    refine ⟨?_, fun x => ⟨fun hx => ?_, fun hx => ?_⟩⟩
    · show Up (a.1 :: (ddGo a.1 r).map (·.1))
      exact List.pairwise_cons.mpr ⟨i2, i1⟩
    · obtain ⟨y, hy, rfl⟩ := List.mem_map.mp hx
      exact List.mem_map.mpr ⟨y, dd_sub _ _ hy, rfl⟩
    · rw [List.map_cons] at hx
      show x ∈ a.1 :: (ddGo a.1 r).map (·.1)
      rcases List.mem_cons.mp hx with hx | hx
      · simp [hx]
      · rcases i3 x hx with h2 | h2
        · simp [h2]
        · exact List.mem_cons_of_mem _ h2
end Rl

end Go.Proofs.Ytgpaleifhcdjnaa

/- The library's CompactFunc, of facts in a row of one's own. -/
namespace Go.Proofs.Ytgpaleifhcdjnaa
open Go.RowKit Go.Lib

theorem own_sets {B e k n g cap : Nat} : ∀ (vs : List Value) (o : Nat) (w : World) (xs : List Value), w.ownsRow B e k (.slice (some ⟨g, 0, none⟩) n cap) n xs →
    ∃ ys, ys.length = xs.length ∧ (∀ j, j < o → ys[j]? = xs[j]?) ∧ (w.setCells g o vs).ownsRow B e k (.slice (some ⟨g, 0, none⟩) n cap) n ys ∧ w.grownBy (w.setCells g o vs) (some g) := by
  intro vs
  induction vs with
  | nil => intro o w xs h; exact ⟨xs, rfl, fun _ _ => rfl, h, rfl, rfl, rfl, Nat.le_refl _, fun _ _ _ => rfl⟩
  | cons v r ih =>
    intro o w xs h
    obtain ⟨h1, h2⟩ := World.ownsRow.stored h o v
    obtain ⟨ys, a1, a2, a3, a4⟩ := ih (o + 1) _ _ h1
    refine ⟨ys, by rw [a1, List.length_set], fun j hj => ?_, a3, ⟨a4.os.trans h2.os, a4.tape.trans h2.tape, a4.output.trans h2.output, Nat.le_trans h2.size a4.size, fun i hi hne => (a4.block i (Nat.lt_of_lt_of_le hi h2.size) hne).trans (h2.block i hi hne)⟩⟩
    rw [a2 j (by omega), List.getElem?_set, if_neg (by omega)]
theorem row_cut {w : World} {B g cap n : Nat} {xs : List Value} {q : List Fv} (h : w.ownsRow B 49 2 (.slice (some ⟨g, 0, none⟩) n cap) n xs) (hn : q.length ≤ n) (hq : ∀ j, j < q.length * 2 → xs[j]? = ((q.map fcCells).flatten)[j]?) : FRow w B g cap q := by
  obtain ⟨h1, h2⟩ := h
  rcases h2 with ⟨h2, _⟩ | ⟨g', cap', cur, hv, hb, hh, hc1, hc2, hc3, hc4⟩
  · cases h2
  · injection hv with e1 _ e3
    injection e1 with e1
    injection e1 with e1
    subst e1 e3
    refine ⟨fc_length _, .inr ⟨g, cap, cur, rfl, hb, hh, by omega, hc2, hc3, ?_⟩⟩
    apply List.ext_getElem?
    intro t
    rw [List.getElem?_take]
    by_cases ht : t < q.length * 2
    · rw [if_pos ht, ← hq t ht, ← hc4, List.getElem?_take, if_pos (by omega)]
    · rw [if_neg ht, List.getElem?_eq_none]
      rw [fc_length]
      omega
/-- What is behind the first ones is cleared. -/
theorem clear_row (w : World) (B g cap : Nat) (q : List Fv) (k : Nat) (h : FRow w B g cap q) (hk : k < q.length) :
    ∃ w', (∀ ty, (Builtin.clear_ #[47] ty #[.slice (some ⟨g, k * 2, none⟩) (q.length - k) (cap - k)]).run Try.prog w = .ok (.tuple #[]) w') ∧ FRow w' B g cap (q.take k) ∧ w.grownBy w' (some g) := by
  obtain ⟨m, hm⟩ : ∃ m, q.length - k = m + 1 := ⟨q.length - k - 1, by omega⟩
  obtain ⟨vs, hvs⟩ : ∃ vs, vs = (Builtin.zeroCells (Value.agg #[.int .i64 0, .slice none 0 0]).cells (m + 1)).toList := ⟨_, rfl⟩
  have hlen : vs.length = (m + 1) * 2 := by rw [hvs]; simp [Builtin.zeroCells, Value.cells]
  have hone : ∀ v ∈ vs, v.oneCell' = true := by
    intro v hv
    rw [hvs] at hv
    simp [Builtin.zeroCells, Value.cells] at hv
    obtain ⟨a, ha, rfl⟩ := hv
    rcases Nat.mod_two_eq_zero_or_one a with h2 | h2
    · simp [h2]; rfl
    · simp [h2]; rfl
  have hst := run_storeCells_cells (P := Try.prog) g (k * 2) vs 0 w (by
    intro j hj
    rw [hlen] at hj
    have hc := World.ownsRow.cellAt h (k * 2 + j) (by omega)
    obtain ⟨x, hx, hx2⟩ := fc_at q (k * 2 + j) (by omega)
    rw [Nat.add_zero, hc, hx2, List.getElem?_eq_getElem (show (k * 2 + j) % 2 < (fcCells x).length by show _ < 2; omega)]
    rfl) (by intro j _; exact h.frozen _) hone
  simp only [Nat.add_zero] at hst
  obtain ⟨ys, a1, a2, a3, a4⟩ := own_sets vs (k * 2) w _ h
  refine ⟨w.setCells g (k * 2) vs, ?_, row_cut (q := q.take k) a3 (by rw [List.length_take]; omega) (fun j hj => ?_), a4⟩
  · intro ty
    have hz : ∀ w, (zeroValue 49).run Try.prog w = .ok (.agg #[.int .i64 0, .slice none 0 0]) w := fun w => by kernel_rfl
    rw [hm]
    simp [Builtin.clear_, run_underlying Try.underlying47, hz, ← hvs, hst]
  · rw [List.length_take] at hj
    rw [a2 j (by omega)]
    obtain ⟨x, hx, hx2⟩ := fc_at q j (by omega)
    obtain ⟨z, hz, hz2⟩ := fc_at (q.take k) j (by rw [List.length_take]; omega)
    rw [List.getElem?_take, if_pos (by omega), hx] at hz
    obtain rfl : x = z := by simpa using hz
    rw [hx2, hz2]

/-- While facts are compacted: the row holds R. -/
structure CI (w0 w : World) (B g cap : Nat) (R : List Fv) (wr : World) : Prop where
  row : FRow wr B g cap R
  gr : w.grownBy wr (some g)
  low : ∀ k, k < w0.heap.size → wr.heap[k]? = w0.heap[k]?
theorem CI.below {w0 w wr wx : World} {B g cap : Nat} {R : List Fv} (h : CI w0 w B g cap R wr) (hb : Below wr.heap.size wr wx) : CI w0 w B g cap R wx :=
  ⟨h.row.keep (hb.block g h.row.lt.2), grownBy_trans h.gr (grownBy_of_below hb _), fun k hk => (hb.block k (Nat.lt_of_lt_of_le hk (rl_low_size h.low))).trans (h.low k hk)⟩
theorem CI.put {w0 w wr : World} {B g cap : Nat} {R : List Fv} (h : CI w0 w B g cap R wr) (hg : w0.heap.size ≤ g) (i : Nat) (hi : i < R.length) (y : Fv) : CI w0 w B g cap (R.set i y) ((wr.setCell ⟨g, i * 2, none⟩ (.int .i64 y.1.pred)).setCell ⟨g, i * 2 + 1, none⟩ y.2) := by
  have hgr : wr.grownBy ((wr.setCell ⟨g, i * 2, none⟩ (.int .i64 y.1.pred)).setCell ⟨g, i * 2 + 1, none⟩ y.2) (some g) := grownBy_trans (grownBy_set _ _) (grownBy_set _ _)
  exact ⟨h.row.put i hi y, grownBy_trans h.gr hgr, fun k hk => (hgr.block k (Nat.lt_of_lt_of_le hk (rl_low_size h.low)) (by intro e; injection e; omega)).trans (h.low k hk)⟩
theorem get_lt {q : List Fv} {i : Nat} (h : i < q.length) : ∃ x, q[i]? = some x ∧ x ∈ q := ⟨q[i], List.getElem?_eq_getElem h, List.getElem_mem h⟩

set_option maxRecDepth 100000 in
set_option maxHeartbeats 2000000 in
theorem compact_any (w0 w : World) (B g cap : Nat) (q : List Fv) (h0 : w0.heap.size ≤ g) (hlow : ∀ k, k < w0.heap.size → w.heap[k]? = w0.heap[k]?) (hown : FRow w B g cap q) (hq : ∀ p, p ∈ q → FvOk w0 p) (hn : q.length < 4611686018427387904) :
    Calls Try.prog 70 #[.slice (some ⟨g, 0, none⟩) q.length cap, .func (.func 52) #[] #[]] w fun e w' => e = .returned (.slice (some ⟨g, 0, none⟩) (Rl.dd q).length cap) ∧ FRow w' B g cap (Rl.dd q) ∧ w.grownBy w' (some g) := by
  have he : ∀ args w, (callFunc 52 args).run Try.prog w = .ok (.enter 52 args) w := enters_of Try.func52 (by kernel_rfl) rfl
  have hC : CI w0 w B g cap q w := ⟨hown, ⟨rfl, rfl, rfl, Nat.le_refl _, fun _ _ _ => rfl⟩, hlow⟩
  have HQ : Hid (∀ p, p ∈ q → FvOk w0 p) := hq
  have hcap : q.length ≤ cap := by
    obtain ⟨_, h2⟩ := hown
    rcases h2 with ⟨h2, _⟩ | ⟨g', cap', cur, hv, _, _, hc1, _⟩
    · cases h2
    · injection hv with _ _ e3
      omega
  clear hown hlow hq
  by_cases h2 : q.length < 2
  · have HD : Hid (Rl.dd q = q) := by
      show _ = _
      match q, h2 with
      | [], _ => rfl
      | [x], _ => rfl
    go_enter Try.func70, Try.ntmps70
    go_wp2_with fail
    go_ret
    exact ⟨by rw [HD.out]; rfl, by rw [HD.out]; exact hC.row, hC.gr⟩
  go_enter Try.func70, Try.ntmps70
  go_wp2_with fail
  go_loopw [5] (fun i wr => ∃ k : Nat, 1 ≤ k ∧ k ≤ q.length ∧ i = .int .i64 k ∧ CI w0 w B g cap q wr ∧ Rl.dd (q.take k) = q.take k) (fun i _ => q.length - (intOf i).toNat)
  case atStart => exact ⟨1, Nat.le_refl _, by omega, rfl, hC, by
    match q, h2 with
    | x :: r, _ => rfl
    | [], h => exact absurd (show ([] : List Fv).length < 2 by decide) h⟩
  case round =>
    clear hC
    obtain ⟨wo, hwo⟩ : ∃ wo, wo = wr := ⟨_, rfl⟩
    subst hwo
    obtain ⟨k, hk1, hk, rfl, hI, hdd⟩ := hrel
    have HDD : Hid _ := hdd
    clear hdd
    obtain ⟨k1, hk1e⟩ : ∃ k1, k1 + 1 = k := ⟨k - 1, by omega⟩
    have hwr : IntKind.i64.wrap ((k : Int) - 1) = (k1 : Int) := by
      have h9 : (k : Int) - 1 = (k1 : Int) := by omega
      rw [h9]
      simp [IntKind.wrap, IntKind.bits, IntKind.signed]
      omega
    by_cases hlt : k < q.length
    · obtain ⟨x, hx, hxm⟩ := get_lt hlt
      obtain ⟨y, hy, hym⟩ := get_lt (q := q) (i := k1) (by omega)
      obtain ⟨c0, c1⟩ := hI.row.cell hx
      obtain ⟨d0, d1⟩ := hI.row.cell hy
      have HX : Hid (q[k]? = some x ∧ q[k1]? = some y) := ⟨hx, hy⟩
      have HN : Hid (∀ z, Gr wo z → Calls Try.prog 52 #[fcVal x.1.pred x.2, fcVal y.1.pred y.2] z fun e w' => e = .returned (.bool (Rl.ord x.1 y.1 == 0)) ∧ Gr wo w' ∧ w'.cell? ⟨g, k * 2, none⟩ = some (.int .i64 x.1.pred) ∧ w'.cell? ⟨g, k * 2 + 1, none⟩ = some x.2 ∧ w'.cell? ⟨g, k1 * 2, none⟩ = some (.int .i64 y.1.pred) ∧ w'.cell? ⟨g, k1 * 2 + 1, none⟩ = some y.2) := by
        intro z hz
        have hl : ∀ j, j < w0.heap.size → z.heap[j]? = w0.heap[j]? := (hI.below hz.below).low
        refine (same_any x.1 y.1 x.2 y.2 z (rl_ints_low (HQ.out x hxm).1 hl) (rl_ints_low (HQ.out y hym).1 hl) (HQ.out x hxm).2 (HQ.out y hym).2).mono ?_
        rintro e w' ⟨h1, h2⟩
        have h3 := hz.trans h2
        exact ⟨h1, h3, cell_below h3.below c0, cell_below h3.below c1, cell_below h3.below d0, cell_below h3.below d1⟩
      obtain ⟨xa, xn, xc, hxv⟩ : ∃ a n c, x.2 = .slice a n c := by
        obtain ⟨⟨a, c, h, _⟩, _⟩ := HQ.out x hxm
        exact ⟨a, _, c, h⟩
      obtain ⟨ya, yn, yc, hyv⟩ : ∃ a n c, y.2 = .slice a n c := by
        obtain ⟨⟨a, c, h, _⟩, _⟩ := HQ.out y hym
        exact ⟨a, _, c, h⟩
      have HY : Hid (y = (y.1, y.2)) := rfl
      have HXV : Hid (x.2 = .slice xa xn xc ∧ y.2 = .slice ya yn yc) := ⟨hxv, hyv⟩
      rw [hxv] at c1
      rw [hyv] at d1
      rw [hxv, hyv] at HN
      clear hx hy hxm hym hxv hyv
      have HO : Hid (∃ o, o = Rl.ord x.1 y.1) := ⟨_, rfl⟩
      obtain ⟨o, ho⟩ := HO.out
      rw [← ho] at HN
      have HOO : Hid (o = Rl.ord x.1 y.1) := ho
      clear ho HO
      generalize hxp : x.1.pred = xp at *
      generalize hyp : y.1.pred = yp at *
      have HP : Hid (x.1.pred = xp ∧ y.1.pred = yp) := ⟨hxp, hyp⟩
      clear hxp hyp
      have hk1' : k1 < q.length := by omega
      have hk1a : (0 : Int) ≤ (k1 : Int) := by omega
      have hk1b : (k1 : Int) < (q.length : Int) := by omega
      have HK1 : Hid (k1 + 1 = k) := hk1e
      clear hk1e
      go_upto_region 6 with fail
      have HGA : ∀ a b o, Gr a b → Gr a (b.alloc o) := fun _ _ o h => h.alloc o
      have HGD : ∀ a b, Gr a b → Gr a b.drew := fun _ _ h => h.drew
      have HGR : Gr wo wo := Gr.refl wo
      go_region_held3 (fun yy => yy.cell? ⟨g, k * 2, none⟩ = some (.int .i64 xp) ∧ yy.cell? ⟨g, k * 2 + 1, none⟩ = some (.slice xa xn xc) ∧ yy.cell? ⟨g, k1 * 2, none⟩ = some (.int .i64 yp) ∧ yy.cell? ⟨g, k1 * 2 + 1, none⟩ = some (.slice ya yn yc) ∧ Gr wo yy) (go_keep) (
        (go_at_call 52; refine Calls.mono (HN.out _ ?_) ?_; (simp [*]); rintro e z1 ⟨rfl, hz1, hz2, hz3, hz4, hz5⟩))
      have hI1 := hI.below hz1.below
      clear HGA HGD HGR hz1 hz2 hz3 hz4 hz5 c0 c1 d0 d1 HN
      cases ho : (o == 0)
      · have HD2 : Hid (Rl.dd (q.take (k + 1)) = q.take (k + 1)) := by
          show _ = _
          rw [Rl.dd_take q k x y hk1 HX.out.1 (by rw [show k - 1 = k1 by have := HK1.out; omega]; exact HX.out.2), if_neg (by rw [← HOO.out]; simpa using ho), HDD.out, List.take_add_one, HX.out.1]
          rfl
        clear hI
        go_wp2_with fail
        go_roundw
        case rel => exact ⟨k + 1, by omega, by omega, by go_num, hI1, HD2.out⟩
        case measure => simp [intOf]; omega
      · have HD2 : Hid (q.take k = Rl.dd (q.take (k + 1))) := by
          show _ = _
          rw [Rl.dd_take q k x y hk1 HX.out.1 (by rw [show k - 1 = k1 by have := HK1.out; omega]; exact HX.out.2), if_pos (by rw [← HOO.out]; simpa using ho), HDD.out]
        clear hI HDD HX HP HOO HXV HY hwr
        go_wp2_with fail
        go_loopw [5, 7] (fun i5 i7 wr => ∃ (kk k2 : Nat) (R : List Fv), i5 = .int .i64 kk ∧ i7 = .int .i64 k2 ∧ 1 ≤ k2 ∧ k + k2 ≤ q.length ∧ kk < k + k2 ∧ CI w0 w B g cap R wr ∧ R.length = q.length ∧ R.take kk = Rl.dd (q.take (k + k2)) ∧ ∀ j, k + k2 ≤ j + 1 → R[j]? = q[j]?) (fun _ i7 _ => q.length - (k + (intOf i7).toNat))
        case atStart => exact ⟨k, 1, q, rfl, rfl, Nat.le_refl _, by omega, by omega, hI1, rfl, HD2.out, fun _ _ => rfl⟩
        case round =>
          clear hI1
          obtain ⟨wp, hwp⟩ : ∃ wp, wp = wr := ⟨_, rfl⟩
          subst hwp
          obtain ⟨kk, k2, R, rfl, rfl, hk2, hm, hkk, hI, hRl, hRt, hRd⟩ := hrel
          have HRT : Hid _ := hRt
          have HRD : Hid _ := hRd
          have HRL : Hid (R.length = q.length) := hRl
          clear hRt hRd hRl
          by_cases hlt2 : k + k2 < q.length
          · obtain ⟨k3, hk3e⟩ : ∃ k3, k3 + 1 = k2 := ⟨k2 - 1, by omega⟩
            have hwr2 : IntKind.i64.wrap ((k2 : Int) - 1) = (k3 : Int) := by
              have h9 : (k2 : Int) - 1 = (k3 : Int) := by omega
              rw [h9]
              simp [IntKind.wrap, IntKind.bits, IntKind.signed]
              omega
            obtain ⟨x, hx, hxm⟩ := get_lt hlt2
            obtain ⟨y, hy, hym⟩ := get_lt (q := q) (i := k + k3) (by omega)
            obtain ⟨c0, c1⟩ := hI.row.cell ((HRD.out (k + k2) (by omega)).trans hx)
            obtain ⟨d0, d1⟩ := hI.row.cell ((HRD.out (k + k3) (by omega)).trans hy)
            rw [show (k + k2) * 2 = k * 2 + k2 * 2 by omega] at c0 c1
            rw [show (k + k3) * 2 = k * 2 + k3 * 2 by omega] at d0 d1
            have HX : Hid (q[k + k2]? = some x ∧ q[k + k3]? = some y) := ⟨hx, hy⟩
            have HN : Hid (∀ z, Gr wp z → Calls Try.prog 52 #[fcVal x.1.pred x.2, fcVal y.1.pred y.2] z fun e w' => e = .returned (.bool (Rl.ord x.1 y.1 == 0)) ∧ Gr wp w' ∧ w'.cell? ⟨g, k * 2 + k2 * 2, none⟩ = some (.int .i64 x.1.pred) ∧ w'.cell? ⟨g, k * 2 + k2 * 2 + 1, none⟩ = some x.2 ∧ w'.cell? ⟨g, k * 2 + k3 * 2, none⟩ = some (.int .i64 y.1.pred) ∧ w'.cell? ⟨g, k * 2 + k3 * 2 + 1, none⟩ = some y.2) := by
              intro z hz
              have hl : ∀ j, j < w0.heap.size → z.heap[j]? = w0.heap[j]? := (hI.below hz.below).low
              refine (same_any x.1 y.1 x.2 y.2 z (rl_ints_low (HQ.out x hxm).1 hl) (rl_ints_low (HQ.out y hym).1 hl) (HQ.out x hxm).2 (HQ.out y hym).2).mono ?_
              rintro e w' ⟨h1, h2⟩
              have h3 := hz.trans h2
              exact ⟨h1, h3, cell_below h3.below c0, cell_below h3.below c1, cell_below h3.below d0, cell_below h3.below d1⟩
            obtain ⟨xa, xn, xc, hxv⟩ : ∃ a n c, x.2 = .slice a n c := by
              obtain ⟨⟨a, c, h, _⟩, _⟩ := HQ.out x hxm
              exact ⟨a, _, c, h⟩
            obtain ⟨ya, yn, yc, hyv⟩ : ∃ a n c, y.2 = .slice a n c := by
              obtain ⟨⟨a, c, h, _⟩, _⟩ := HQ.out y hym
              exact ⟨a, _, c, h⟩
            have HXV : Hid (x.2 = .slice xa xn xc) := hxv
            rw [hxv] at c1
            rw [hyv] at d1
            rw [hxv, hyv] at HN
            clear hx hy hxm hym hxv hyv
            have HO : Hid (∃ o, o = Rl.ord x.1 y.1) := ⟨_, rfl⟩
            obtain ⟨o2, ho2⟩ := HO.out
            rw [← ho2] at HN
            have HOO : Hid (o2 = Rl.ord x.1 y.1) := ho2
            clear ho2 HO
            generalize hxp : x.1.pred = xp at *
            generalize hyp : y.1.pred = yp at *
            have HP : Hid (x.1.pred = xp) := hxp
            clear hxp hyp
            have hk3' : k3 < q.length - k := by omega
            have hk3a : (0 : Int) ≤ (k3 : Int) := by omega
            have hk3b : (k3 : Int) < ((q.length - k : Nat) : Int) := by omega
            have hk2b : (k2 : Int) < ((q.length - k : Nat) : Int) := by omega
            have HK3 : Hid (k3 + 1 = k2) := hk3e
            clear hk3e
            go_upto_region 11 with fail
            have HGA : ∀ a b o, Gr a b → Gr a (b.alloc o) := fun _ _ o h => h.alloc o
            have HGD : ∀ a b, Gr a b → Gr a b.drew := fun _ _ h => h.drew
            have HGR : Gr wp wp := Gr.refl wp
            go_region_held3 (fun yy => yy.cell? ⟨g, k * 2 + k2 * 2, none⟩ = some (.int .i64 xp) ∧ yy.cell? ⟨g, k * 2 + k2 * 2 + 1, none⟩ = some (.slice xa xn xc) ∧ yy.cell? ⟨g, k * 2 + k3 * 2, none⟩ = some (.int .i64 yp) ∧ yy.cell? ⟨g, k * 2 + k3 * 2 + 1, none⟩ = some (.slice ya yn yc) ∧ Gr wp yy) (go_keep) (
              (go_at_call 52; refine Calls.mono (HN.out _ ?_) ?_; (simp [*]); rintro e z1 ⟨rfl, hz1, hz2, hz3, hz4, hz5⟩))
            have hI1 := hI.below hz1.below
            clear HGA HGD HGR hz1 hz4 hz5 c0 c1 d0 d1 HN hI
            have HDT : Hid (Rl.dd (q.take (k + k2 + 1)) = if Rl.ord x.1 y.1 = 0 then Rl.dd (q.take (k + k2)) else Rl.dd (q.take (k + k2)) ++ [x]) := Rl.dd_take q (k + k2) x y (by omega) HX.out.1 (by rw [show k + k2 - 1 = k + k3 by have := HK3.out; omega]; exact HX.out.2)
            cases ho2 : (o2 == 0)
            · have HT2 : Hid ((R.set kk x).take (kk + 1) = Rl.dd (q.take (k + (k2 + 1)))) := by
                show _ = _
                rw [← Nat.add_assoc, HDT.out, if_neg (by rw [← HOO.out]; simpa using ho2), ← HRT.out, List.take_add_one, List.take_set_of_le (Nat.le_refl _), List.getElem?_set, if_pos rfl, if_pos (by rw [HRL.out]; omega)]
                rfl
              have HD2 : Hid (∀ j, k + (k2 + 1) ≤ j + 1 → (R.set kk x)[j]? = q[j]?) := fun j hj => by
                rw [List.getElem?_set, if_neg (by omega)]
                exact HRD.out j (by omega)
              have hput := hI1.put h0 kk (by rw [HRL.out]; omega) x
              rw [HP.out, HXV.out] at hput
              obtain ⟨r, hr, _⟩ := get_lt (q := R) (i := kk) (by rw [HRL.out]; omega)
              obtain ⟨r0, r1⟩ := hI1.row.cell hr
              have rf0 := hI1.row.frozen (kk * 2)
              have rf1 := hI1.row.frozen (kk * 2 + 1)
              have hkq : kk < q.length := by omega
              clear HDT hI1 HRT HRD hr
              go_wp2_with fail
              go_roundw
              case rel => exact ⟨kk + 1, k2 + 1, R.set kk x, by go_num, by go_num, by omega, by omega, by omega, hput, by rw [List.length_set]; exact HRL.out, HT2.out, HD2.out⟩
              case measure => simp [intOf]; omega
            · have HT2 : Hid (R.take kk = Rl.dd (q.take (k + (k2 + 1)))) := by
                show _ = _
                rw [← Nat.add_assoc, HDT.out, if_pos (by rw [← HOO.out]; simpa using ho2), HRT.out]
              have HD2 : Hid (∀ j, k + (k2 + 1) ≤ j + 1 → R[j]? = q[j]?) := fun j hj => HRD.out j (by omega)
              clear HDT HRT HRD
              go_wp2_with fail
              go_roundw
              case rel => exact ⟨kk, k2 + 1, R, by go_num, by go_num, by omega, by omega, by omega, hI1, HRL.out, HT2.out, HD2.out⟩
              case measure => simp [intOf]; omega
          · have hme : k + k2 = q.length := by omega
            obtain ⟨w9, hcl, hrow, hgr⟩ := clear_row wp B g cap R kk hI.row (by rw [HRL.out]; omega)
            rw [HRL.out] at hcl
            have HDQ : Hid (R.take kk = Rl.dd q) := by show _ = _; rw [HRT.out, hme, List.take_length]
            have HLN : Hid ((Rl.dd q).length = kk) := by show _ = _; rw [← HDQ.out, List.length_take, HRL.out]; omega
            have HFN : Hid (FRow w9 B g cap (Rl.dd q) ∧ w.grownBy w9 (some g)) := ⟨by rw [← HDQ.out]; exact hrow, grownBy_trans hI.gr hgr⟩
            clear hI hrow hgr HRT HRD HDQ
            have hkq : kk ≤ q.length := by omega
            have hkc : kk ≤ cap := by omega
            go_wp2_with fail
            go_ret
            exact ⟨by rw [HLN.out]; rfl, HFN.out.1, HFN.out.2⟩
    · have hke : k = q.length := by omega
      have HDQ : Hid (Rl.dd q = q) := by show _ = _; have := HDD.out; rw [hke, List.take_length] at this; exact this
      go_wp2_with fail
      go_ret
      exact ⟨by rw [HDQ.out]; rfl, by rw [HDQ.out]; exact hI.row, hI.gr⟩

end Go.Proofs.Ytgpaleifhcdjnaa

/- The library's Clone, of numbers. -/
namespace Go.Proofs.Ytgpaleifhcdjnaa
open Go.RowKit

theorem rl_info3 : (Try.prog.info? 3).map (fun i => (i.zero, i.size, i.bytes)) = some (some (.int .i64 0), 1, 8) := by kernel_rfl

set_option maxRecDepth 100000 in
set_option maxHeartbeats 1000000 in
theorem cloneI_any (l : List Int) (v : Value) (w : World) (hV : IntsV w v l) (hl : l.length ≤ 1048576) :
    Calls Try.prog 36 #[v] w fun e w' => ∃ v', e = .returned v' ∧ w'.ownsRow w.heap.size 3 1 v' l.length (l.map (Value.int .i64)) ∧ Below w.heap.size w w' := by
  obtain ⟨i0, hi, hz0, hz1, hz2⟩ := info_parts rl_info3
  obtain ⟨ao, cap, rfl, hA⟩ := hV
  have q22 : ∀ (w : World) (a : Option Addr) (n c : Nat), (binOp .eql 22 (.slice a n c) (.slice none 0 0)).run Try.prog w = .ok (.bool a.isNone) w := fun w a n c => Lib.run_eql_slice_nil w 22 3 a n c 0 0 Try.underlying22
  have u22 : ∀ w, Sem.run Try.prog (underlying 22) w = .ok (TypeDesc.slice 3) w := run_underlying Try.underlying22
  have HA : Hid (IntsAt w ao l) := hA
  clear hA
  cases ao with
  | none =>
    have hl0 : l = [] := by
      rcases HA.out with h | ⟨b, off, h, _⟩
      · exact h
      · cases h
    subst hl0
    go_enter Try.func36, Try.ntmps36
    go_wp2_with fail
    go_ret
    exact ⟨_, rfl, World.ownsRow_nil _ _ _ _, Below.refl _ _⟩
  | some a =>
    obtain ⟨b, off, hao⟩ : ∃ b off, l = [] ∨ a = ⟨b, off, none⟩ := by
      rcases HA.out with h | ⟨b, off, h, _⟩
      · exact ⟨0, 0, .inl h⟩
      · exact ⟨b, off, .inr (Option.some.inj h)⟩
    have HC : Hid (∀ j u, (l.map (Value.int .i64))[j]? = some u → w.cell? (a.add j) = some u) := by
      intro j u hj
      rcases HA.out with h | ⟨b, off, h, hc⟩
      · rw [h] at hj; simp at hj
      · have ha := Option.some.inj h
        have hjl : j < l.length := by
          rcases Nat.lt_or_ge j l.length with h2 | h2
          · exact h2
          · rw [List.getElem?_eq_none (by simpa using h2)] at hj; cases hj
        rw [List.getElem?_map, List.getElem?_eq_getElem hjl] at hj
        have hu : Value.int .i64 l[j] = u := by simpa using hj
        rw [← hu, ha]
        have h3 := hc j hjl
        have h4 : Sc.intD l j = l[j] := by simp [Sc.intD, hjl]
        rw [h4] at h3
        rw [Addr.add_lit]
        exact h3
    clear HA
    go_enter Try.func36, Try.ntmps36
    go_wp2_with (at_builtin; refine wpList_append_own _ rfl _ _ 22 rfl w.heap.size 3 i0 _ 1 8 Try.underlying22 hi hz0 hz1 hz2 rfl (by decide) _ _ _ rfl (World.ownsRow_made w #[] 0 (Nat.le_refl _) (Nat.zero_le _) (by simp)) a l.length cap (l.map (Value.int .i64)) rfl ?qc1 ?qc2 ?qc3 ?qc4 ?qc5 ?qc6 ?_)
    case qc1 => rw [List.length_map, Nat.mul_one]
    case qc2 =>
      intro j u hj
      exact Lib.cell?_alloc_some _ (HC.out j u hj)
    case qc3 =>
      intro u hu
      obtain ⟨x, _, rfl⟩ := List.mem_map.mp hu
      rfl
    case qc4 => unfold maxLen; omega
    case qc5 => omega
    case qc6 => simp
    intro v' w1 hown hgrow hnil
    obtain ⟨ao9, cap9, rfl⟩ := own_slice hown
    have HB : Hid (Below w.heap.size w w1) := ((Below.refl _ w).alloc (Nat.le_refl _) _).grown hgrow (by simp) (by intro k hk; simp [Value.ownBlock] at hk; omega)
    have HO : Hid _ := hown
    clear hown hgrow hnil HC
    go_wp2_with fail
    go_ret
    exact ⟨_, rfl, HO.out, HB.out⟩

end Go.Proofs.Ytgpaleifhcdjnaa

/- The library's Clone: of texts, of terms, of literals. -/
namespace Go.Proofs.Ytgpaleifhcdjnaa
open Go.RowKit

theorem cl_info9 : (Try.prog.info? 9).map (fun i => (i.zero, i.size, i.bytes)) = some (some (.string ByteArray.empty), 1, 16) := by kernel_rfl
set_option maxRecDepth 100000 in
set_option maxHeartbeats 1000000 in
theorem cloneS_nil (n cap : Nat) (w : World) : Calls Try.prog 37 #[.slice none n cap] w fun e w' => e = .returned (.slice none 0 0) ∧ Below w.heap.size w w' := by
  have q22 : ∀ (w : World) (a : Option Addr) (n c : Nat), (binOp .eql 23 (.slice a n c) (.slice none 0 0)).run Try.prog w = .ok (.bool a.isNone) w := fun w a n c => Lib.run_eql_slice_nil w 23 9 a n c 0 0 Try.underlying23
  go_enter Try.func37, Try.ntmps37
  go_wp2_with fail
  go_ret
  exact ⟨rfl, Below.refl _ _⟩
set_option maxRecDepth 100000 in
set_option maxHeartbeats 1000000 in
theorem cloneS_some (a : Addr) (n cap : Nat) (cells : List Value) (w : World) (hlen : cells.length = n * 1) (hc : ∀ j u, cells[j]? = some u → w.cell? (a.add j) = some u) (h1 : ∀ u, u ∈ cells → u.oneCell' = true) (hn : n ≤ 1048576) :
    Calls Try.prog 37 #[.slice (some a) n cap] w fun e w' => ∃ v', e = .returned v' ∧ w'.ownsRow w.heap.size 9 1 v' n cells ∧ Below w.heap.size w w' := by
  obtain ⟨i0, hi, hz0, hz1, hz2⟩ := info_parts cl_info9
  have q22 : ∀ (w : World) (a : Option Addr) (n c : Nat), (binOp .eql 23 (.slice a n c) (.slice none 0 0)).run Try.prog w = .ok (.bool a.isNone) w := fun w a n c => Lib.run_eql_slice_nil w 23 9 a n c 0 0 Try.underlying23
  have u22 : ∀ w, Sem.run Try.prog (underlying 23) w = .ok (TypeDesc.slice 9) w := run_underlying Try.underlying23
  have HC : Hid _ := hc
  have H1 : Hid _ := h1
  have HLN : Hid _ := hlen
  clear hc h1 hlen
  go_enter Try.func37, Try.ntmps37
  go_wp2_with (at_builtin; refine wpList_append_own _ rfl _ _ 23 rfl w.heap.size 9 i0 _ 1 16 Try.underlying23 hi hz0 hz1 hz2 rfl (by decide) _ _ _ rfl (World.ownsRow_made w #[] 0 (Nat.le_refl _) (Nat.zero_le _) (by simp)) a n cap cells rfl ?qc1 ?qc2 ?qc3 ?qc4 ?qc5 ?qc6 ?_)
  case qc1 => exact HLN.out
  case qc2 =>
    intro j u hj
    exact Lib.cell?_alloc_some _ (HC.out j u hj)
  case qc3 =>
    intro u hu
    exact H1.out u hu
  case qc4 => unfold maxLen; omega
  case qc5 => omega
  case qc6 => simp
  intro v' w1 hown hgrow hnil
  obtain ⟨ao9, cap9, rfl⟩ := own_slice hown
  have HB : Hid (Below w.heap.size w w1) := ((Below.refl _ w).alloc (Nat.le_refl _) _).grown hgrow (by simp) (by intro k hk; simp [Value.ownBlock] at hk; omega)
  have HO : Hid _ := hown
  clear hown hgrow hnil HC
  go_wp2_with fail
  go_ret
  exact ⟨_, rfl, HO.out, HB.out⟩

theorem cl_info95 : (Try.prog.info? 95).map (fun i => (i.zero, i.size, i.bytes)) = some (some (.agg #[.int .i64 0, .int .i64 0]), 2, 16) := by kernel_rfl
set_option maxRecDepth 100000 in
set_option maxHeartbeats 1000000 in
theorem cloneT_nil (n cap : Nat) (w : World) : Calls Try.prog 62 #[.slice none n cap] w fun e w' => e = .returned (.slice none 0 0) ∧ Below w.heap.size w w' := by
  have q22 : ∀ (w : World) (a : Option Addr) (n c : Nat), (binOp .eql 62 (.slice a n c) (.slice none 0 0)).run Try.prog w = .ok (.bool a.isNone) w := fun w a n c => Lib.run_eql_slice_nil w 62 95 a n c 0 0 Try.underlying62
  go_enter Try.func62, Try.ntmps62
  go_wp2_with fail
  go_ret
  exact ⟨rfl, Below.refl _ _⟩
set_option maxRecDepth 100000 in
set_option maxHeartbeats 1000000 in
theorem cloneT_some (a : Addr) (n cap : Nat) (cells : List Value) (w : World) (hlen : cells.length = n * 2) (hc : ∀ j u, cells[j]? = some u → w.cell? (a.add j) = some u) (h1 : ∀ u, u ∈ cells → u.oneCell' = true) (hn : n ≤ 1048576) :
    Calls Try.prog 62 #[.slice (some a) n cap] w fun e w' => ∃ v', e = .returned v' ∧ w'.ownsRow w.heap.size 95 2 v' n cells ∧ Below w.heap.size w w' := by
  obtain ⟨i0, hi, hz0, hz1, hz2⟩ := info_parts cl_info95
  have q22 : ∀ (w : World) (a : Option Addr) (n c : Nat), (binOp .eql 62 (.slice a n c) (.slice none 0 0)).run Try.prog w = .ok (.bool a.isNone) w := fun w a n c => Lib.run_eql_slice_nil w 62 95 a n c 0 0 Try.underlying62
  have u22 : ∀ w, Sem.run Try.prog (underlying 62) w = .ok (TypeDesc.slice 95) w := run_underlying Try.underlying62
  have HC : Hid _ := hc
  have H1 : Hid _ := h1
  have HLN : Hid _ := hlen
  clear hc h1 hlen
  go_enter Try.func62, Try.ntmps62
  go_wp2_with (at_builtin; refine wpList_append_own _ rfl _ _ 62 rfl w.heap.size 95 i0 _ 2 16 Try.underlying62 hi hz0 hz1 hz2 rfl (by decide) _ _ _ rfl (World.ownsRow_made w #[] 0 (Nat.le_refl _) (Nat.zero_le _) (by simp)) a n cap cells rfl ?qc1 ?qc2 ?qc3 ?qc4 ?qc5 ?qc6 ?_)
  case qc1 => exact HLN.out
  case qc2 =>
    intro j u hj
    exact Lib.cell?_alloc_some _ (HC.out j u hj)
  case qc3 =>
    intro u hu
    exact H1.out u hu
  case qc4 => unfold maxLen; omega
  case qc5 => omega
  case qc6 => simp
  intro v' w1 hown hgrow hnil
  obtain ⟨ao9, cap9, rfl⟩ := own_slice hown
  have HB : Hid (Below w.heap.size w w1) := ((Below.refl _ w).alloc (Nat.le_refl _) _).grown hgrow (by simp) (by intro k hk; simp [Value.ownBlock] at hk; omega)
  have HO : Hid _ := hown
  clear hown hgrow hnil HC
  go_wp2_with fail
  go_ret
  exact ⟨_, rfl, HO.out, HB.out⟩

theorem cl_info71 : (Try.prog.info? 71).map (fun i => (i.zero, i.size, i.bytes)) = some (some (.agg #[.int .i64 0, .int .i64 0, .int .i64 0, .slice none 0 0]), 4, 48) := by kernel_rfl
set_option maxRecDepth 100000 in
set_option maxHeartbeats 1000000 in
theorem cloneL_nil (n cap : Nat) (w : World) : Calls Try.prog 63 #[.slice none n cap] w fun e w' => e = .returned (.slice none 0 0) ∧ Below w.heap.size w w' := by
  have q22 : ∀ (w : World) (a : Option Addr) (n c : Nat), (binOp .eql 63 (.slice a n c) (.slice none 0 0)).run Try.prog w = .ok (.bool a.isNone) w := fun w a n c => Lib.run_eql_slice_nil w 63 71 a n c 0 0 Try.underlying63
  go_enter Try.func63, Try.ntmps63
  go_wp2_with fail
  go_ret
  exact ⟨rfl, Below.refl _ _⟩
set_option maxRecDepth 100000 in
set_option maxHeartbeats 1000000 in
theorem cloneL_some (a : Addr) (n cap : Nat) (cells : List Value) (w : World) (hlen : cells.length = n * 4) (hc : ∀ j u, cells[j]? = some u → w.cell? (a.add j) = some u) (h1 : ∀ u, u ∈ cells → u.oneCell' = true) (hn : n ≤ 1048576) :
    Calls Try.prog 63 #[.slice (some a) n cap] w fun e w' => ∃ v', e = .returned v' ∧ w'.ownsRow w.heap.size 71 4 v' n cells ∧ Below w.heap.size w w' := by
  obtain ⟨i0, hi, hz0, hz1, hz2⟩ := info_parts cl_info71
  have q22 : ∀ (w : World) (a : Option Addr) (n c : Nat), (binOp .eql 63 (.slice a n c) (.slice none 0 0)).run Try.prog w = .ok (.bool a.isNone) w := fun w a n c => Lib.run_eql_slice_nil w 63 71 a n c 0 0 Try.underlying63
  have u22 : ∀ w, Sem.run Try.prog (underlying 63) w = .ok (TypeDesc.slice 71) w := run_underlying Try.underlying63
  have HC : Hid _ := hc
  have H1 : Hid _ := h1
  have HLN : Hid _ := hlen
  clear hc h1 hlen
  go_enter Try.func63, Try.ntmps63
  go_wp2_with (at_builtin; refine wpList_append_own _ rfl _ _ 63 rfl w.heap.size 71 i0 _ 4 48 Try.underlying63 hi hz0 hz1 hz2 rfl (by decide) _ _ _ rfl (World.ownsRow_made w #[] 0 (Nat.le_refl _) (Nat.zero_le _) (by simp)) a n cap cells rfl ?qc1 ?qc2 ?qc3 ?qc4 ?qc5 ?qc6 ?_)
  case qc1 => exact HLN.out
  case qc2 =>
    intro j u hj
    exact Lib.cell?_alloc_some _ (HC.out j u hj)
  case qc3 =>
    intro u hu
    exact H1.out u hu
  case qc4 => unfold maxLen; omega
  case qc5 => omega
  case qc6 => simp
  intro v' w1 hown hgrow hnil
  obtain ⟨ao9, cap9, rfl⟩ := own_slice hown
  have HB : Hid (Below w.heap.size w w1) := ((Below.refl _ w).alloc (Nat.le_refl _) _).grown hgrow (by simp) (by intro k hk; simp [Value.ownBlock] at hk; omega)
  have HO : Hid _ := hown
  clear hown hgrow hnil HC
  go_wp2_with fail
  go_ret
  exact ⟨_, rfl, HO.out, HB.out⟩

end Go.Proofs.Ytgpaleifhcdjnaa


/- Numbers that are raised along edges, round by round: they settle in as many rounds as there are numbers, or never; and are then the least. -/
namespace Go.Proofs.Ytgpaleifhcdjnaa
namespace Fx

abbrev Edge := Nat × Nat × Int
def step (l : List Int) (e : Edge) : List Int := if l.getD e.1 0 < l.getD e.2.1 0 + e.2.2 then l.set e.1 (l.getD e.2.1 0 + e.2.2) else l
def round (E : List Edge) (l : List Int) : List Int := E.foldl step l
def iter (E : List Edge) : Nat → List Int → List Int
  | 0, l => l
  | k + 1, l => iter E k (round E l)
def Le (l o : List Int) : Prop := l.length = o.length ∧ ∀ i : Nat, l.getD i 0 ≤ o.getD i 0
def Fit (E : List Edge) (o : List Int) : Prop := ∀ e, e ∈ E → o.getD e.2.1 0 + e.2.2 ≤ o.getD e.1 0
def In (E : List Edge) (n : Nat) : Prop := ∀ e, e ∈ E → e.1 < n

theorem Le.refl (l : List Int) : Le l l := ⟨rfl, fun _ => Int.le_refl _⟩
theorem Le.trans {a b c : List Int} (h : Le a b) (k : Le b c) : Le a c := ⟨h.1.trans k.1, fun i => Int.le_trans (h.2 i) (k.2 i)⟩
theorem Le.anti {a b : List Int} (h : Le a b) (k : Le b a) : a = b := by
  refine List.ext_getElem h.1 fun i h1 h2 => ?_
  have := Int.le_antisymm (h.2 i) (k.2 i)
  rw [List.getD_eq_getElem?_getD, List.getD_eq_getElem?_getD, List.getElem?_eq_getElem h1, List.getElem?_eq_getElem h2] at this
  exact this
theorem getD_set (l : List Int) (h i : Nat) (v : Int) : (l.set h v).getD i 0 = if i = h ∧ h < l.length then v else l.getD i 0 := by
  rw [List.getD_eq_getElem?_getD, List.getElem?_set, List.getD_eq_getElem?_getD]
  by_cases hi : h = i
  · subst hi
    by_cases hl : h < l.length
    · simp [hl]
    · simp [hl]
  · rw [if_neg hi, if_neg (fun h => hi h.1.symm)]
theorem step_le (l : List Int) (e : Edge) : Le l (step l e) := by
  unfold step
  split
  · rename_i h
    refine ⟨by simp, fun i => ?_⟩
    rw [getD_set]
    split
    · rename_i h2; rw [h2.1]; omega
    · exact Int.le_refl _
  · exact Le.refl l
theorem step_length (l : List Int) (e : Edge) : (step l e).length = l.length := (step_le l e).1.symm
theorem round_le : ∀ (E : List Edge) (l : List Int), Le l (round E l)
  | [], l => Le.refl l
  | e :: E, l => (step_le l e).trans (round_le E (step l e))
theorem round_length (E : List Edge) (l : List Int) : (round E l).length = l.length := (round_le E l).1.symm
theorem step_fit {l o : List Int} {e : Edge} (h : Le l o) (hf : o.getD e.2.1 0 + e.2.2 ≤ o.getD e.1 0) : Le (step l e) o := by
  unfold step
  split
  · refine ⟨by simp [h.1], fun i => ?_⟩
    rw [getD_set]
    split
    · rename_i h2; rw [h2.1]; have := h.2 e.2.1; omega
    · exact h.2 i
  · exact h
theorem round_fit : ∀ (E : List Edge) {l o : List Int}, Le l o → Fit E o → Le (round E l) o
  | [], _, _, h, _ => h
  | e :: E, _, _, h, hf => round_fit E (step_fit h (hf e List.mem_cons_self)) (fun e' he => hf e' (List.mem_cons_of_mem _ he))
theorem step_reaches {l : List Int} {e : Edge} (h : e.1 < l.length) : l.getD e.2.1 0 + e.2.2 ≤ (step l e).getD e.1 0 := by
  unfold step
  split
  · rw [getD_set, if_pos ⟨rfl, h⟩]; exact Int.le_refl _
  · rename_i h2; omega
theorem round_reaches : ∀ (E : List Edge) {l : List Int}, In E l.length → ∀ e, e ∈ E → l.getD e.2.1 0 + e.2.2 ≤ (round E l).getD e.1 0
  | e0 :: E, l, hi, e, he => by
    rcases List.mem_cons.mp he with rfl | he
    · exact Int.le_trans (step_reaches (hi _ List.mem_cons_self)) ((round_le E (step l e)).2 _)
    · have h1 := round_reaches E (l := step l e0) (fun e' h' => by rw [step_length]; exact hi e' (List.mem_cons_of_mem _ h')) e he
      have h2 := (step_le l e0).2 e.2.1
      show _ ≤ (round E (step l e0)).getD e.1 0
      omega
theorem fit_of_fix {E : List Edge} {l : List Int} (hi : In E l.length) (h : round E l = l) : Fit E l := fun e he => by
  have := round_reaches E hi e he
  rw [h] at this
  exact this
theorem fix_of_fit {E : List Edge} {l : List Int} (h : Fit E l) : round E l = l := (round_fit E (Le.refl l) h).anti (round_le E l)

theorem iter_succ (E : List Edge) : ∀ (k : Nat) (l : List Int), iter E (k + 1) l = round E (iter E k l)
  | 0, _ => rfl
  | k + 1, l => by show iter E (k + 1) (round E l) = _; rw [iter_succ E k (round E l)]; rfl
theorem iter_le (E : List Edge) : ∀ (k : Nat) (l : List Int), Le l (iter E k l)
  | 0, l => Le.refl l
  | k + 1, l => (round_le E l).trans (iter_le E k (round E l))
theorem iter_length (E : List Edge) (k : Nat) (l : List Int) : (iter E k l).length = l.length := (iter_le E k l).1.symm
theorem iter_fit (E : List Edge) : ∀ (k : Nat) {l o : List Int}, Le l o → Fit E o → Le (iter E k l) o
  | 0, _, _, h, _ => h
  | k + 1, _, _, h, hf => iter_fit E k (round_fit E h hf) hf
theorem iter_add (E : List Edge) : ∀ (j k : Nat) (l : List Int), iter E (j + k) l = iter E k (iter E j l)
  | 0, k, l => by rw [Nat.zero_add]; rfl
  | j + 1, k, l => by rw [Nat.add_right_comm]; exact iter_add E j k (round E l)
theorem iter_fix {E : List Edge} {l : List Int} (h : round E l = l) : ∀ k, iter E k l = l
  | 0 => rfl
  | k + 1 => by rw [iter_succ, iter_fix h k, h]

theorem sum_le : ∀ {a b : List Int}, Le a b → a.sum ≤ b.sum
  | [], [], _ => Int.le_refl _
  | [], _ :: _, h => absurd h.1 (by simp)
  | _ :: _, [], h => absurd h.1 (by simp)
  | x :: a, y :: b, h => by
    have h0 := h.2 0
    have h1 : Le a b := ⟨by have := h.1; simpa using this, fun i => by have := h.2 (i + 1); simpa using this⟩
    have h2 := sum_le h1
    simp only [List.getD_cons_zero] at h0
    simp only [List.sum_cons]
    omega
theorem sum_lt : ∀ {a b : List Int}, Le a b → a ≠ b → a.sum < b.sum
  | [], [], _, hn => absurd rfl hn
  | [], _ :: _, h, _ => absurd h.1 (by simp)
  | _ :: _, [], h, _ => absurd h.1 (by simp)
  | x :: a, y :: b, h, hn => by
    have h0 := h.2 0
    have h1 : Le a b := ⟨by have := h.1; simpa using this, fun i => by have := h.2 (i + 1); simpa using this⟩
    simp only [List.getD_cons_zero] at h0
    simp only [List.sum_cons]
    by_cases hab : a = b
    · have : x ≠ y := fun h => hn (by rw [h, hab])
      have h2 := sum_le h1
      omega
    · have h2 := sum_lt h1 hab
      omega

theorem settles {E : List Edge} {o : List Int} (hf : Fit E o) : ∀ (m : Nat) (l : List Int), Le l o → (o.sum - l.sum).toNat ≤ m → ∃ k, round E (iter E k l) = iter E k l := by
  intro m
  induction m with
  | zero =>
    intro l h hm
    refine ⟨0, ?_⟩
    show round E l = l
    have h1 := sum_le h
    by_cases hlo : l = o
    · rw [hlo]; exact fix_of_fit hf
    · have := sum_lt h hlo; omega
  | succ m ih =>
    intro l h hm
    by_cases hr : round E l = l
    · exact ⟨0, hr⟩
    · have h1 := sum_lt (round_le E l) (fun h => hr h.symm)
      have h2 := round_fit E h hf
      have h3 := sum_le h2
      obtain ⟨k, hk⟩ := ih (round E l) h2 (by omega)
      exact ⟨k + 1, hk⟩

theorem countP_lt {P Q : Nat → Bool} : ∀ (L : List Nat), (∀ i, i ∈ L → P i = true → Q i = true) → (∃ i, i ∈ L ∧ Q i = true ∧ P i = false) → L.countP P < L.countP Q
  | [], _, ⟨_, h, _⟩ => absurd h (by simp)
  | x :: L, hpq, ⟨i, hi, hq, hp⟩ => by
    rw [List.countP_cons, List.countP_cons]
    have hle : L.countP P ≤ L.countP Q := List.countP_mono_left fun j hj h => hpq j (List.mem_cons_of_mem _ hj) h
    rcases List.mem_cons.mp hi with rfl | hi
    · rw [hq, hp]; simp only [if_true, Bool.false_eq_true, if_false]; omega
    · have h1 := countP_lt L (fun j hj h => hpq j (List.mem_cons_of_mem _ hj) h) ⟨i, hi, hq, hp⟩
      have h2 := hpq x List.mem_cons_self
      cases hx : P x
      · simp only [Bool.false_eq_true, if_false]; omega
      · rw [h2 hx]; omega

/-- What is not yet as it will be: one of it is, a round later. -/
theorem one_more {E : List Edge} {l F : List Int} {N : Nat} (hi : In E l.length) (hF : F = iter E N l) (hx : round E F = F) (hne : l ≠ F) :
    ∃ p, p < l.length ∧ l.getD p 0 ≠ F.getD p 0 ∧ (round E l).getD p 0 = F.getD p 0 := by
  have hlF : Le l F := hF ▸ iter_le E N l
  have hiF : In E F.length := fun e he => hlF.1 ▸ hi e he
  have hfit := fit_of_fix hiF hx
  have hrF : Le (round E l) F := round_fit E hlF hfit
  refine Classical.byContradiction fun hno => ?_
  have hno' : ∀ p, p < l.length → l.getD p 0 ≠ F.getD p 0 → (round E l).getD p 0 ≠ F.getD p 0 := fun p h1 h2 h3 => hno ⟨p, h1, h2, h3⟩
  -- one less, where it is not yet
  obtain ⟨G, hG⟩ : ∃ G : List Int, G = (List.range F.length).map (fun i => if l.getD i 0 = F.getD i 0 then F.getD i 0 else F.getD i 0 - 1) := ⟨_, rfl⟩
  have hGl : G.length = F.length := by rw [hG]; simp
  have hGd : ∀ i, i < F.length → G.getD i 0 = if l.getD i 0 = F.getD i 0 then F.getD i 0 else F.getD i 0 - 1 := fun i hi => by
    rw [hG, List.getD_eq_getElem?_getD, List.getElem?_map, List.getElem?_range hi]; rfl
  have hGo : ∀ i, ¬ i < F.length → G.getD i 0 = 0 ∧ F.getD i 0 = 0 := fun i hi => by
    constructor
    · rw [List.getD_eq_getElem?_getD, List.getElem?_eq_none (by omega)]; rfl
    · rw [List.getD_eq_getElem?_getD, List.getElem?_eq_none (by omega)]; rfl
  have hGF : ∀ i, G.getD i 0 ≤ F.getD i 0 := fun i => by
    by_cases h : i < F.length
    · rw [hGd i h]; split <;> omega
    · rw [(hGo i h).1, (hGo i h).2]; exact Int.le_refl _
  have hlG : Le l G := ⟨hlF.1.trans hGl.symm, fun i => by
    by_cases h : i < F.length
    · rw [hGd i h]
      have := hlF.2 i
      split <;> omega
    · rw [(hGo i h).1]
      have := hlF.2 i
      rw [(hGo i h).2] at this
      exact this⟩
  have hGfit : Fit E G := fun e he => by
    have h1 := hiF e he
    have h2 := hfit e he
    rw [hGd e.1 h1]
    split
    · have := hGF e.2.1; omega
    · rename_i hu
      have h3 := hno' e.1 (hi e he) hu
      have h4 := hrF.2 e.1
      have h5 := round_reaches E hi e he
      by_cases hb : e.2.1 < F.length
      · rw [hGd _ hb]
        split
        · rename_i hs
          rw [hs] at h5
          omega
        · omega
      · have h6 := hlF.2 e.2.1
        rw [(hGo _ hb).1]
        have h7 : l.getD e.2.1 0 = 0 := by rw [List.getD_eq_getElem?_getD, List.getElem?_eq_none (by rw [hlF.1]; omega)]; rfl
        rw [h7] at h5
        omega
  have hFG : Le F G := hF ▸ iter_fit E N hlG hGfit
  refine hne (hlF.anti ⟨hlF.1.symm, fun i => ?_⟩)
  by_cases h : i < F.length
  · have := hFG.2 i
    rw [hGd i h] at this
    split at this
    · rename_i h2; rw [h2]; exact Int.le_refl _
    · omega
  · rw [(hGo i h).2, List.getD_eq_getElem?_getD, List.getElem?_eq_none (by rw [hlF.1]; omega)]; exact Int.le_refl _

/-- In as many rounds as there are numbers. -/
theorem conv {E : List Edge} {l o : List Int} (hi : In E l.length) (h : Le l o) (hf : Fit E o) : round E (iter E l.length l) = iter E l.length l := by
  obtain ⟨N, hN⟩ := settles hf _ l h (Nat.le_refl _)
  obtain ⟨F, hF⟩ : ∃ F, F = iter E N l := ⟨_, rfl⟩
  rw [← hF] at hN
  have hlF : Le l F := hF ▸ iter_le E N l
  have hfit : Fit E F := fit_of_fix (fun e he => hlF.1 ▸ hi e he) hN
  have hkF : ∀ k, Le (iter E k l) F := fun k => iter_fit E k hlF hfit
  have hend : ∀ k, ∃ N', F = iter E N' (iter E k l) := fun k => ⟨N, by
    rw [← iter_add, Nat.add_comm, iter_add, ← hF, iter_fix hN]⟩
  have hc : ∀ k, iter E k l = F ∨ k ≤ (List.range l.length).countP (fun i => decide ((iter E k l).getD i 0 = F.getD i 0)) := by
    intro k
    induction k with
    | zero => exact .inr (Nat.zero_le _)
    | succ k ih =>
      by_cases hk : iter E k l = F
      · left; rw [iter_succ, hk, hN]
      · right
        have ih := ih.resolve_left hk
        obtain ⟨N', hN'⟩ := hend k
        obtain ⟨p, hp, hp1, hp2⟩ := one_more (l := iter E k l) (fun e he => by rw [iter_length]; exact hi e he) hN' hN hk
        rw [iter_length] at hp
        refine Nat.lt_of_le_of_lt ih (countP_lt _ (fun i _ h1 => ?_) ⟨p, List.mem_range.mpr hp, ?_, ?_⟩)
        · have h1 := of_decide_eq_true h1
          refine decide_eq_true ?_
          have h2 := (hkF (k + 1)).2 i
          have h3 : (iter E k l).getD i 0 ≤ (iter E (k + 1) l).getD i 0 := by rw [iter_succ]; exact (round_le E _).2 i
          omega
        · refine decide_eq_true ?_
          rw [iter_succ]; exact hp2
        · exact decide_eq_false hp1
  have hn : iter E l.length l = F := by
    rcases hc l.length with h1 | h1
    · exact h1
    · have h2 : (List.range l.length).countP (fun i => decide ((iter E l.length l).getD i 0 = F.getD i 0)) = (List.range l.length).length := by
        have := List.countP_le_length (p := fun i => decide ((iter E l.length l).getD i 0 = F.getD i 0)) (l := List.range l.length)
        simp only [List.length_range] at this ⊢
        omega
      rw [List.countP_eq_length] at h2
      have hL : (iter E l.length l).length = F.length := by rw [iter_length, hlF.1]
      refine (hkF l.length).anti ⟨hL.symm, fun i => ?_⟩
      by_cases hil : i < l.length
      · have := of_decide_eq_true (h2 i (List.mem_range.mpr hil))
        rw [this]; exact Int.le_refl _
      · rw [List.getD_eq_getElem?_getD, List.getElem?_eq_none (by rw [← hlF.1]; omega), List.getD_eq_getElem?_getD, List.getElem?_eq_none (by rw [iter_length]; omega)]; exact Int.le_refl _
  rw [hn, hN]

end Fx
end Go.Proofs.Ytgpaleifhcdjnaa

/- Levels, needs and focus, plain. -/
namespace Go.Proofs.Ytgpaleifhcdjnaa
namespace St
open Sc

/-! ### What a head hangs on -/
def hang (x : Sc.Lit) : Bool := decide (x.kind = 1 ∨ x.kind = 2)
def strict (r : Sc.Rule) (x : Sc.Lit) : Int := if x.kind = 2 ∨ r.fold ≠ 0 then 1 else 0
def ruleE (r : Sc.Rule) : List Fx.Edge := (r.body.filter hang).map fun x => (r.pred.toNat, x.pred.toNat, strict r x)
def edges (p : Sc.Prog) : List Fx.Edge := p.rules.flatMap ruleE
def zeros (n : Nat) : List Int := List.replicate n 0
def level (p : Sc.Prog) : List Int := Fx.iter (edges p) p.arity.length (zeros p.arity.length)
/-- Do they settle? -/
def flat (p : Sc.Prog) : Bool := decide (Fx.round (edges p) (level p) = level p)

theorem zeros_getD (n i : Nat) : (zeros n).getD i 0 = 0 := by
  unfold zeros
  rw [List.getD_eq_getElem?_getD, List.getElem?_replicate]
  split <;> rfl
theorem zeros_le {o : List Int} (h : ∀ i : Nat, 0 ≤ o.getD i 0) : Fx.Le (zeros o.length) o := ⟨by simp [zeros], fun i => by rw [zeros_getD]; exact h i⟩
theorem level_length (p : Sc.Prog) : (level p).length = p.arity.length := by unfold level; rw [Fx.iter_length]; simp [zeros]
theorem level_nonneg (p : Sc.Prog) (i : Nat) : 0 ≤ (level p).getD i 0 := by
  have := (Fx.iter_le (edges p) p.arity.length (zeros p.arity.length)).2 i
  rw [zeros_getD] at this
  exact this

/-- Numbers such as levels must be. -/
def fits (p : Sc.Prog) (o : List Int) : Prop := o.length = p.arity.length ∧ (∀ i : Nat, 0 ≤ o.getD i 0) ∧ Fx.Fit (edges p) o
theorem flat_of_fits {p : Sc.Prog} {o : List Int} (hi : Fx.In (edges p) p.arity.length) (h : fits p o) : flat p = true := by
  have h1 : Fx.Le (zeros p.arity.length) o := by rw [← h.1]; exact zeros_le h.2.1
  have hz : (zeros p.arity.length).length = p.arity.length := by simp [zeros]
  have h2 := Fx.conv (E := edges p) (l := zeros p.arity.length) (by rw [hz]; exact hi) h1 h.2.2
  rw [hz] at h2
  exact decide_eq_true h2
theorem least {p : Sc.Prog} {o : List Int} (h : fits p o) (i : Nat) : (level p).getD i 0 ≤ o.getD i 0 := by
  have h1 : Fx.Le (zeros p.arity.length) o := by rw [← h.1]; exact zeros_le h.2.1
  exact (Fx.iter_fit (edges p) p.arity.length h1 h.2.2).2 i
theorem fits_level {p : Sc.Prog} (hi : Fx.In (edges p) p.arity.length) (h : flat p = true) : fits p (level p) :=
  ⟨level_length p, level_nonneg p, Fx.fit_of_fix (by rw [level_length]; exact hi) (of_decide_eq_true h)⟩

/-! ### What a predicate needs -/
def ruleN (r : Sc.Rule) : List Fx.Edge := (r.body.filter hang).map fun x => (x.pred.toNat, r.pred.toNat, 0)
def back (p : Sc.Prog) : List Fx.Edge := p.rules.flatMap ruleN
def nstep (s : List Bool) (e : Fx.Edge) : List Bool := if s.getD e.2.1 false then s.set e.1 true else s
def nround (E : List Fx.Edge) (s : List Bool) : List Bool := E.foldl nstep s
def niter (E : List Fx.Edge) : Nat → List Bool → List Bool
  | 0, s => s
  | k + 1, s => niter E k (nround E s)
def enc (s : List Bool) : List Int := s.map fun b => if b then 1 else 0
def only (n k : Nat) : List Bool := (List.replicate n false).set k true
def needs (p : Sc.Prog) (k : Nat) : List Bool := niter (back p) p.arity.length (only p.arity.length k)

theorem enc_getD (s : List Bool) (i : Nat) : (enc s).getD i 0 = if s.getD i false then 1 else 0 := by
  unfold enc
  rw [List.getD_eq_getElem?_getD, List.getElem?_map, List.getD_eq_getElem?_getD]
  cases s[i]? with
  | none => rfl
  | some b => rfl
theorem enc_inj {s t : List Bool} (h : enc s = enc t) : s = t := by
  have hl : s.length = t.length := by have := congrArg List.length h; simpa [enc] using this
  refine List.ext_getElem hl fun i h1 h2 => ?_
  have h3 := congrArg (fun l => l.getD i 0) h
  simp only [enc_getD] at h3
  rw [List.getD_eq_getElem?_getD, List.getD_eq_getElem?_getD, List.getElem?_eq_getElem h1, List.getElem?_eq_getElem h2] at h3
  simp only [Option.getD_some] at h3
  cases hs : s[i] <;> cases ht : t[i] <;> simp [hs, ht] at h3 ⊢
theorem enc_set (s : List Bool) (i : Nat) : enc (s.set i true) = (enc s).set i 1 := by unfold enc; rw [List.map_set]; rfl
theorem set_same_true {s : List Bool} {i : Nat} (h : s.getD i false = true) : s.set i true = s := by
  have hi : i < s.length := by
    refine Classical.byContradiction fun hn => ?_
    rw [List.getD_eq_getElem?_getD, List.getElem?_eq_none (by omega)] at h
    simp at h
  refine List.ext_getElem (by simp) fun j h1 h2 => ?_
  rw [List.getElem_set]
  split
  · rename_i hj
    subst hj
    rw [List.getD_eq_getElem?_getD, List.getElem?_eq_getElem hi] at h
    exact h.symm
  · rfl
theorem enc_nstep (s : List Bool) (e : Fx.Edge) (h0 : e.2.2 = 0) : enc (nstep s e) = Fx.step (enc s) e := by
  unfold nstep Fx.step
  rw [enc_getD, enc_getD, h0]
  cases h1 : s.getD e.2.1 false
  · cases h2 : s.getD e.1 false <;> simp
  · cases h2 : s.getD e.1 false
    · simp [enc_set]
    · simp [set_same_true h2]
theorem enc_nround : ∀ (E : List Fx.Edge) (s : List Bool), (∀ e, e ∈ E → e.2.2 = 0) → enc (nround E s) = Fx.round E (enc s)
  | [], _, _ => rfl
  | e :: E, s, h => by
    show enc (nround E (nstep s e)) = Fx.round E (Fx.step (enc s) e)
    rw [enc_nround E _ (fun e' he => h e' (List.mem_cons_of_mem _ he)), enc_nstep s e (h e List.mem_cons_self)]
theorem enc_niter (E : List Fx.Edge) (h : ∀ e, e ∈ E → e.2.2 = 0) : ∀ (k : Nat) (s : List Bool), enc (niter E k s) = Fx.iter E k (enc s)
  | 0, _ => rfl
  | k + 1, s => by
    show enc (niter E k (nround E s)) = Fx.iter E k (Fx.round E (enc s))
    rw [enc_niter E h k, enc_nround E s h]
theorem back_zero (p : Sc.Prog) : ∀ e, e ∈ back p → e.2.2 = 0 := fun e he => by
  unfold back at he
  obtain ⟨r, _, hr⟩ := List.mem_flatMap.mp he
  unfold ruleN at hr
  obtain ⟨x, _, rfl⟩ := List.mem_map.mp hr
  rfl
theorem nstep_length (s : List Bool) (e : Fx.Edge) : (nstep s e).length = s.length := by unfold nstep; split <;> simp
theorem nround_length : ∀ (E : List Fx.Edge) (s : List Bool), (nround E s).length = s.length
  | [], _ => rfl
  | e :: E, s => by show (nround E (nstep s e)).length = _; rw [nround_length E, nstep_length]
theorem niter_length (E : List Fx.Edge) : ∀ (k : Nat) (s : List Bool), (niter E k s).length = s.length
  | 0, _ => rfl
  | k + 1, s => by show (niter E k (nround E s)).length = _; rw [niter_length E k, nround_length]
theorem needs_length (p : Sc.Prog) (k : Nat) : (needs p k).length = p.arity.length := by unfold needs only; rw [niter_length]; simp
theorem niter_succ (E : List Fx.Edge) : ∀ (k : Nat) (s : List Bool), niter E (k + 1) s = nround E (niter E k s)
  | 0, _ => rfl
  | k + 1, s => by show niter E (k + 1) (nround E s) = _; rw [niter_succ E k (nround E s)]; rfl

/-- Closed. -/
def Closed (E : List Fx.Edge) (s : List Bool) : Prop := ∀ e, e ∈ E → s.getD e.2.1 false = true → s.getD e.1 false = true
theorem closed_iff {E : List Fx.Edge} {s : List Bool} (h : ∀ e, e ∈ E → e.2.2 = 0) : Closed E s ↔ Fx.Fit E (enc s) := by
  constructor
  · intro hc e he
    have := hc e he
    rw [enc_getD, enc_getD, h e he]
    cases h1 : s.getD e.2.1 false
    · cases h2 : s.getD e.1 false <;> simp
    · rw [this h1]; simp
  · intro hf e he h1
    have := hf e he
    rw [enc_getD, enc_getD, h e he, h1] at this
    cases h2 : s.getD e.1 false
    · rw [h2] at this; simp at this
    · rfl
theorem needs_fix {p : Sc.Prog} (k : Nat) (hi : Fx.In (back p) p.arity.length) : nround (back p) (needs p k) = needs p k := by
  refine enc_inj ?_
  rw [enc_nround _ _ (back_zero p)]
  unfold needs
  rw [enc_niter _ (back_zero p)]
  have hl : (enc (only p.arity.length k)).length = p.arity.length := by simp [enc, only]
  have h1 : Fx.Le (enc (only p.arity.length k)) (List.replicate p.arity.length 1) := ⟨by rw [hl]; simp, fun i => by
    rw [enc_getD, List.getD_eq_getElem?_getD (l := List.replicate p.arity.length (1 : Int)), List.getElem?_replicate]
    split
    · rename_i h2
      split
      · simp
      · rename_i h3
        unfold only at h2
        rw [List.getD_eq_getElem?_getD, List.getElem?_eq_none (by simp; omega)] at h2
        simp at h2
    · split <;> simp⟩
  have h2 := Fx.conv (E := back p) (l := enc (only p.arity.length k)) (o := List.replicate p.arity.length 1) (by rw [hl]; exact hi) h1 (fun e he => by
    rw [back_zero p e he]
    have ha : (List.replicate p.arity.length (1 : Int)).getD e.1 0 = 1 := by
      rw [List.getD_eq_getElem?_getD, List.getElem?_replicate, if_pos (hi e he)]; rfl
    rw [ha, List.getD_eq_getElem?_getD, List.getElem?_replicate]
    split <;> simp)
  rw [hl] at h2
  exact h2
theorem needs_closed {p : Sc.Prog} (k : Nat) (hi : Fx.In (back p) p.arity.length) : Closed (back p) (needs p k) := by
  refine (closed_iff (back_zero p)).mpr (Fx.fit_of_fix ?_ ?_)
  · have : (enc (needs p k)).length = p.arity.length := by unfold enc; rw [List.length_map, needs_length]
    rw [this]; exact hi
  · rw [← enc_nround _ _ (back_zero p), needs_fix k hi]
theorem needs_self {p : Sc.Prog} {k : Nat} (hk : k < p.arity.length) : (needs p k).getD k false = true := by
  have h1 := (Fx.iter_le (back p) p.arity.length (enc (only p.arity.length k))).2 k
  rw [← enc_niter _ (back_zero p), enc_getD, enc_getD] at h1
  have h2 : (only p.arity.length k).getD k false = true := by unfold only; rw [List.getD_eq_getElem?_getD, List.getElem?_set]; simp [hk]
  rw [h2] at h1
  show (niter (back p) p.arity.length (only p.arity.length k)).getD k false = true
  cases h3 : (niter (back p) p.arity.length (only p.arity.length k)).getD k false
  · rw [h3] at h1; simp at h1
  · rfl
theorem needs_least {p : Sc.Prog} {k : Nat} {s : List Bool} (hl : s.length = p.arity.length) (hs : s.getD k false = true) (hc : Closed (back p) s) (i : Nat) (h : (needs p k).getD i false = true) : s.getD i false = true := by
  have h1 : Fx.Le (enc (only p.arity.length k)) (enc s) := ⟨by simp [enc, only, hl], fun j => by
    rw [enc_getD, enc_getD]
    by_cases hj : j = k
    · subst hj; rw [hs]; split <;> simp
    · have : (only p.arity.length k).getD j false = false := by
        unfold only
        rw [List.getD_eq_getElem?_getD, List.getElem?_set, if_neg (fun h => hj h.symm), List.getElem?_replicate]
        split <;> rfl
      rw [this, if_neg (by simp)]
      split <;> omega⟩
  have h2 := (Fx.iter_fit (back p) p.arity.length h1 ((closed_iff (back_zero p)).mp hc)).2 i
  rw [← enc_niter _ (back_zero p), enc_getD, enc_getD] at h2
  unfold needs at h
  rw [h] at h2
  cases h3 : s.getD i false
  · rw [h3] at h2; simp at h2
  · rfl

def focus (p : Sc.Prog) (k : Nat) : Sc.Prog := ⟨p.arity, p.names, p.rules.filter fun r => (needs p k).getD r.pred.toNat false⟩
theorem focus_needs {p : Sc.Prog} {k : Nat} (hk : k < p.arity.length) (hi : Fx.In (back p) p.arity.length) : needs (focus p k) k = needs p k := by
  have hsub : ∀ e, e ∈ back (focus p k) → e ∈ back p := fun e he => by
    obtain ⟨r, hr, h2⟩ := List.mem_flatMap.mp he
    exact List.mem_flatMap.mpr ⟨r, (List.mem_filter.mp hr).1, h2⟩
  have hi2 : Fx.In (back (focus p k)) (focus p k).arity.length := fun e he => hi e (hsub e he)
  have hA : ∀ i, (needs (focus p k) k).getD i false = true → (needs p k).getD i false = true := fun i h =>
    needs_least (p := focus p k) (needs_length p k) (needs_self hk) (fun e he => needs_closed k hi e (hsub e he)) i h
  have hB : ∀ i, (needs p k).getD i false = true → (needs (focus p k) k).getD i false = true := fun i h =>
    needs_least (p := p) (needs_length (focus p k) k) (needs_self (p := focus p k) hk) (fun e he h1 => by
      obtain ⟨r, hr, h2⟩ := List.mem_flatMap.mp he
      refine needs_closed (p := focus p k) k hi2 e (List.mem_flatMap.mpr ⟨r, List.mem_filter.mpr ⟨hr, ?_⟩, h2⟩) h1
      obtain ⟨x, _, hx⟩ := List.mem_map.mp h2
      have h3 : e.2.1 = r.pred.toNat := by rw [← hx]
      rw [← h3]
      exact hA _ h1) i h
  refine List.ext_getElem (by rw [needs_length, needs_length]; rfl) fun i h1 h2 => ?_
  have ha := hA i
  have hb := hB i
  rw [List.getD_eq_getElem?_getD, List.getD_eq_getElem?_getD, List.getElem?_eq_getElem h1, List.getElem?_eq_getElem h2] at ha hb
  simp only [Option.getD_some] at ha hb
  cases h3 : (needs (focus p k) k)[i]
  · cases h4 : (needs p k)[i]
    · rfl
    · exact absurd (hb h4) (by rw [h3]; simp)
  · exact (ha h3).symm
theorem focus_focus {p : Sc.Prog} {k : Nat} (hk : k < p.arity.length) (hi : Fx.In (back p) p.arity.length) : focus (focus p k) k = focus p k := by
  have h := focus_needs hk hi
  show (⟨p.arity, p.names, (p.rules.filter fun r => (needs p k).getD r.pred.toNat false).filter fun r => (needs (focus p k) k).getD r.pred.toNat false⟩ : Sc.Prog) = ⟨p.arity, p.names, p.rules.filter fun r => (needs p k).getD r.pred.toNat false⟩
  rw [h, List.filter_filter]
  simp only [Bool.and_self]

end St

end Go.Proofs.Ytgpaleifhcdjnaa

/- Package scope: literals that reckon, and what is no literal. -/
namespace Go.Proofs.Ytgpaleifhcdjnaa
open Go.RowKit

set_option maxRecDepth 100000 in
set_option maxHeartbeats 1000000 in
theorem checkLit_3 (ar : List Int) (va vn vr : Value) (op pred : Int) (ts : List Sc.Term) (at_ : Option Addr) (ct : Nat) (w : World) :
    Calls Try.prog 87 #[progVal va vn vr, plitVal ⟨3, op, pred, ts⟩ (.slice at_ ts.length ct)] w fun e w' => e = finE (Sc.litErr ar ⟨3, op, pred, ts⟩) ∧ Below w.heap.size w w' := by
  have hb0 : Below w.heap.size w ((w.alloc (.cells #[va, vn, vr] 26)).alloc (.cells #[.int .i64 3, .int .i64 op, .int .i64 pred, .slice at_ ts.length ct] 71)) := below_two w _ _
  have HL : Hid (Sc.litErr ar ⟨3, op, pred, ts⟩ = if Tr.between op 1 4 then (if pred ≠ 0 ∨ ¬ ts.length = 2 then 1 else 0) else 3) := by
    show _ = _
    simp [Sc.litErr]
  by_cases h1 : op < 1
  · have HV : Hid (Sc.litErr ar ⟨3, op, pred, ts⟩ = 3) := by
      show _ = _
      have : ¬ 1 ≤ op := by omega
      rw [HL.out]; simp [Tr.between, this]
    have g1 : decide (op < 1) = true := decide_eq_true h1
    clear HL
    go_enter Try.func87, Try.ntmps87
    go_wp2_with fail
    refine (refuse_yes 3 _).mono ?_
    rintro e w1 ⟨rfl, hb1⟩
    go_wp2_with fail
    exact ⟨rfl, by rw [HV.out]; rfl, hb0.trans (hb1.mono hb0.size)⟩
  · have g1 : decide (op < 1) = false := decide_eq_false h1
    by_cases h2 : 4 < op
    · have HV : Hid (Sc.litErr ar ⟨3, op, pred, ts⟩ = 3) := by
        show _ = _
        have : ¬ op ≤ 4 := by omega
        rw [HL.out]; simp [Tr.between, this]
      have g2 : decide (4 < op) = true := decide_eq_true h2
      clear HL
      go_enter Try.func87, Try.ntmps87
      go_wp2_with fail
      refine (refuse_yes 3 _).mono ?_
      rintro e w1 ⟨rfl, hb1⟩
      go_wp2_with fail
      exact ⟨rfl, by rw [HV.out]; rfl, hb0.trans (hb1.mono hb0.size)⟩
    · have g2 : decide (4 < op) = false := decide_eq_false h2
      have HL2 : Hid (Sc.litErr ar ⟨3, op, pred, ts⟩ = if pred ≠ 0 ∨ ¬ ts.length = 2 then 1 else 0) := by
        show _ = _
        have p1 : 1 ≤ op := by omega
        have p2 : op ≤ 4 := by omega
        rw [HL.out]; simp [Tr.between, p1, p2]
      clear HL
      cases g3 : (pred != 0)
      · have p0 : pred = 0 := by simpa using g3
        by_cases h4 : ts.length = 2
        · have HV : Hid (Sc.litErr ar ⟨3, op, pred, ts⟩ = 0) := by show _ = _; rw [HL2.out]; simp [p0, h4]
          have g4 : ((ts.length : Int) != 2) = false := by rw [h4]; rfl
          clear HL2 p0 h4
          go_enter Try.func87, Try.ntmps87
          go_wp2_with fail
          refine (refuse_no 3 _).mono ?_
          rintro e w1 ⟨rfl, rfl⟩
          go_wp2_with fail
          refine (refuse_no 1 _).mono ?_
          rintro e w1 ⟨rfl, rfl⟩
          go_wp2_with fail
          exact ⟨rfl, .tuple #[], by simp [results, Try.results87], by rw [HV.out]; rfl, hb0⟩
        · have HV : Hid (Sc.litErr ar ⟨3, op, pred, ts⟩ = 1) := by show _ = _; rw [HL2.out]; simp [h4]
          have g4 : ((ts.length : Int) != 2) = true := by simp; omega
          clear HL2 p0 h4
          go_enter Try.func87, Try.ntmps87
          go_wp2_with fail
          refine (refuse_no 3 _).mono ?_
          rintro e w1 ⟨rfl, rfl⟩
          go_wp2_with fail
          refine (refuse_yes 1 _).mono ?_
          rintro e w1 ⟨rfl, hb1⟩
          go_wp2_with fail
          exact ⟨rfl, by rw [HV.out]; rfl, hb0.trans (hb1.mono hb0.size)⟩
      · have p0 : ¬ pred = 0 := by simpa using g3
        have HV : Hid (Sc.litErr ar ⟨3, op, pred, ts⟩ = 1) := by show _ = _; rw [HL2.out]; simp [p0]
        clear HL2 p0
        go_enter Try.func87, Try.ntmps87
        go_wp2_with fail
        refine (refuse_no 3 _).mono ?_
        rintro e w1 ⟨rfl, rfl⟩
        go_wp2_with fail
        refine (refuse_yes 1 _).mono ?_
        rintro e w1 ⟨rfl, hb1⟩
        go_wp2_with fail
        exact ⟨rfl, by rw [HV.out]; rfl, hb0.trans (hb1.mono hb0.size)⟩

set_option maxRecDepth 100000 in
set_option maxHeartbeats 1000000 in
theorem checkLit_4 (ar : List Int) (va vn vr : Value) (op pred : Int) (ts : List Sc.Term) (at_ : Option Addr) (ct : Nat) (w : World) :
    Calls Try.prog 87 #[progVal va vn vr, plitVal ⟨4, op, pred, ts⟩ (.slice at_ ts.length ct)] w fun e w' => e = finE (Sc.litErr ar ⟨4, op, pred, ts⟩) ∧ Below w.heap.size w w' := by
  have hb0 : Below w.heap.size w ((w.alloc (.cells #[va, vn, vr] 26)).alloc (.cells #[.int .i64 4, .int .i64 op, .int .i64 pred, .slice at_ ts.length ct] 71)) := below_two w _ _
  have HL : Hid (Sc.litErr ar ⟨4, op, pred, ts⟩ = if Tr.between op 5 7 then (if pred ≠ 0 ∨ ¬ ts.length = 3 then 1 else 0) else 3) := by
    show _ = _
    simp [Sc.litErr]
  by_cases h1 : op < 5
  · have HV : Hid (Sc.litErr ar ⟨4, op, pred, ts⟩ = 3) := by
      show _ = _
      have : ¬ 5 ≤ op := by omega
      rw [HL.out]; simp [Tr.between, this]
    have g1 : decide (op < 5) = true := decide_eq_true h1
    clear HL
    go_enter Try.func87, Try.ntmps87
    go_wp2_with fail
    refine (refuse_yes 3 _).mono ?_
    rintro e w1 ⟨rfl, hb1⟩
    go_wp2_with fail
    exact ⟨rfl, by rw [HV.out]; rfl, hb0.trans (hb1.mono hb0.size)⟩
  · have g1 : decide (op < 5) = false := decide_eq_false h1
    by_cases h2 : 7 < op
    · have HV : Hid (Sc.litErr ar ⟨4, op, pred, ts⟩ = 3) := by
        show _ = _
        have : ¬ op ≤ 7 := by omega
        rw [HL.out]; simp [Tr.between, this]
      have g2 : decide (7 < op) = true := decide_eq_true h2
      clear HL
      go_enter Try.func87, Try.ntmps87
      go_wp2_with fail
      refine (refuse_yes 3 _).mono ?_
      rintro e w1 ⟨rfl, hb1⟩
      go_wp2_with fail
      exact ⟨rfl, by rw [HV.out]; rfl, hb0.trans (hb1.mono hb0.size)⟩
    · have g2 : decide (7 < op) = false := decide_eq_false h2
      have HL2 : Hid (Sc.litErr ar ⟨4, op, pred, ts⟩ = if pred ≠ 0 ∨ ¬ ts.length = 3 then 1 else 0) := by
        show _ = _
        have p1 : 5 ≤ op := by omega
        have p2 : op ≤ 7 := by omega
        rw [HL.out]; simp [Tr.between, p1, p2]
      clear HL
      cases g3 : (pred != 0)
      · have p0 : pred = 0 := by simpa using g3
        by_cases h4 : ts.length = 3
        · have HV : Hid (Sc.litErr ar ⟨4, op, pred, ts⟩ = 0) := by show _ = _; rw [HL2.out]; simp [p0, h4]
          have g4 : ((ts.length : Int) != 3) = false := by rw [h4]; rfl
          clear HL2 p0 h4
          go_enter Try.func87, Try.ntmps87
          go_wp2_with fail
          refine (refuse_no 3 _).mono ?_
          rintro e w1 ⟨rfl, rfl⟩
          go_wp2_with fail
          refine (refuse_no 1 _).mono ?_
          rintro e w1 ⟨rfl, rfl⟩
          go_wp2_with fail
          exact ⟨rfl, .tuple #[], by simp [results, Try.results87], by rw [HV.out]; rfl, hb0⟩
        · have HV : Hid (Sc.litErr ar ⟨4, op, pred, ts⟩ = 1) := by show _ = _; rw [HL2.out]; simp [h4]
          have g4 : ((ts.length : Int) != 3) = true := by simp; omega
          clear HL2 p0 h4
          go_enter Try.func87, Try.ntmps87
          go_wp2_with fail
          refine (refuse_no 3 _).mono ?_
          rintro e w1 ⟨rfl, rfl⟩
          go_wp2_with fail
          refine (refuse_yes 1 _).mono ?_
          rintro e w1 ⟨rfl, hb1⟩
          go_wp2_with fail
          exact ⟨rfl, by rw [HV.out]; rfl, hb0.trans (hb1.mono hb0.size)⟩
      · have p0 : ¬ pred = 0 := by simpa using g3
        have HV : Hid (Sc.litErr ar ⟨4, op, pred, ts⟩ = 1) := by show _ = _; rw [HL2.out]; simp [p0]
        clear HL2 p0
        go_enter Try.func87, Try.ntmps87
        go_wp2_with fail
        refine (refuse_no 3 _).mono ?_
        rintro e w1 ⟨rfl, rfl⟩
        go_wp2_with fail
        refine (refuse_yes 1 _).mono ?_
        rintro e w1 ⟨rfl, hb1⟩
        go_wp2_with fail
        exact ⟨rfl, by rw [HV.out]; rfl, hb0.trans (hb1.mono hb0.size)⟩

set_option maxRecDepth 100000 in
set_option maxHeartbeats 1000000 in
theorem checkLit_else (ar : List Int) (va vn vr : Value) (kind op pred : Int) (ts : List Sc.Term) (at_ : Option Addr) (ct : Nat) (w : World) (h1 : ¬ kind = 1) (h2 : ¬ kind = 2) (h3 : ¬ kind = 3) (h4 : ¬ kind = 4) :
    Calls Try.prog 87 #[progVal va vn vr, plitVal ⟨kind, op, pred, ts⟩ (.slice at_ ts.length ct)] w fun e w' => e = finE (Sc.litErr ar ⟨kind, op, pred, ts⟩) ∧ Below w.heap.size w w' := by
  have hb0 : Below w.heap.size w ((w.alloc (.cells #[va, vn, vr] 26)).alloc (.cells #[.int .i64 kind, .int .i64 op, .int .i64 pred, .slice at_ ts.length ct] 71)) := below_two w _ _
  have HV : Hid (Sc.litErr ar ⟨kind, op, pred, ts⟩ = 7) := by show _ = _; simp [Sc.litErr, h1, h2, h3, h4]
  have g1 : (kind == 1) = false := by simpa using h1
  have g2 : (kind == 2) = false := by simpa using h2
  have g3 : (kind == 3) = false := by simpa using h3
  have g4 : (kind == 4) = false := by simpa using h4
  clear h1 h2 h3 h4
  go_enter Try.func87, Try.ntmps87
  go_wp2_with fail
  refine (refuse_yes 7 _).mono ?_
  rintro e w1 ⟨rfl, hb1⟩
  go_wp2_with fail
  exact ⟨rfl, by rw [HV.out]; rfl, hb0.trans (hb1.mono hb0.size)⟩

/-- A literal, all but its terms. -/
theorem checkLit_any (ar : List Int) (va vn vr : Value) (x : Sc.Lit) (v : Value) (w : World) (hA : IntsV w va ar) (hT : ∃ ao cap, v = .slice ao x.terms.length cap) :
    Calls Try.prog 87 #[progVal va vn vr, plitVal x v] w fun e w' => e = finE (Sc.litErr ar x) ∧ Below w.heap.size w w' := by
  obtain ⟨kind, op, pred, ts⟩ := x
  obtain ⟨at_, ct, rfl⟩ := hT
  obtain ⟨ao, cap, rfl, hA⟩ := hA
  by_cases h : kind = 1 ∨ kind = 2
  · exact checkLit_pred ar ao cap vn vr kind op pred ts at_ ct w hA h
  · by_cases h3 : kind = 3
    · subst h3; exact checkLit_3 ar _ vn vr op pred ts at_ ct w
    · by_cases h4 : kind = 4
      · subst h4; exact checkLit_4 ar _ vn vr op pred ts at_ ct w
      · exact checkLit_else ar _ vn vr kind op pred ts at_ ct w (fun e => h (.inl e)) (fun e => h (.inr e)) h3 h4

end Go.Proofs.Ytgpaleifhcdjnaa

