/- Own texts, one behind the other (part 3). -/
import Derived.Test.YtjbfbbhaagkagaaDoorBundleB
import Derived.Test.YtjbfbbhaagkagaaDoorRows
import Derived.Test.YtjbfbbhaagkagaaDoorCards
import Derived.Test.YtjbfbbhaagkagaaDoorTie
import Derived.Deep.RegionHeld3
import Derived.Deep.DeepCutAuto
import Derived.Deep.RegionLaw
import Derived.Deep.AppendLies
import Derived.RegionDies
import Derived.Defers
import Derived.Recover
import Derived.RegionTactic
import Derived.ChangeAlike
/- The document's comparison of two trees. -/
namespace Go.Proofs.YtjbfbbhaagkagaaDoor
open Go.RowKit

namespace Tr
def headEq (q : Bool) (a b : Rule) : Bool := !((q && (a.at_ != b.at_)) || !(a.name == b.name) || (a.fold != b.fold) || !(termsEq a.terms b.terms) || ((a.body.length : Int) != (b.body.length : Int)))
def litEq (q : Bool) (x y : Lit) : Bool := !((q && (x.at_ != y.at_)) || (x.kind != y.kind) || (x.op != y.op) || !(x.name == y.name) || !(termsEq x.terms y.terms))
def ruleEq (q : Bool) (a b : Rule) : Bool := headEq q a b && listEq (litEq q) a.body b.body
def treeEq (q : Bool) (l m : List Rule) : Bool := listEq (ruleEq q) l m
end Tr

theorem Tr.headEq_len {q : Bool} {a b : Tr.Rule} (h : Tr.headEq q a b = true) : a.body.length = b.body.length := by
  unfold Tr.headEq at h
  simp only [Bool.not_eq_true', Bool.or_eq_false_iff, bne_eq_false_iff_eq] at h
  have := h.2
  omega

abbrev rulObj (r : Tr.Rule) (v u : Value) : Obj := .cells #[.int .i64 r.at_, .string ⟨r.name.toArray⟩, v, .int .i64 r.fold, u] 40
theorem rul_cells {w : World} {b : Nat} {r : Tr.Rule} {v u : Value} (h : w.heap[b]? = some (rulObj r v u)) :
    w.cell? ⟨b, 0, none⟩ = some (.int .i64 r.at_) ∧ w.cell? ⟨b, 1, none⟩ = some (.string ⟨r.name.toArray⟩) ∧ w.cell? ⟨b, 2, none⟩ = some v ∧ w.cell? ⟨b, 3, none⟩ = some (.int .i64 r.fold) ∧ w.cell? ⟨b, 4, none⟩ = some u :=
  ⟨by rw [Lib.cell_of_heap h]; rfl, by rw [Lib.cell_of_heap h]; rfl, by rw [Lib.cell_of_heap h]; rfl, by rw [Lib.cell_of_heap h]; rfl, by rw [Lib.cell_of_heap h]; rfl⟩

theorem heap_two (u : World) (o1 o2 : Obj) : ((u.alloc o1).alloc o2).drew.heap[u.heap.size]? = some o1 ∧ ((u.alloc o1).alloc o2).drew.heap[u.heap.size + 1]? = some o2 ∧ Below u.heap.size u ((u.alloc o1).alloc o2).drew := by
  refine ⟨?_, ?_, (((Below.refl _ _).alloc (Nat.le_refl _) _).alloc (by simp) _).drew⟩
  · exact (((Below.refl _ (u.alloc o1)).alloc (Nat.le_refl _) o2).block _ (by simp)).trans (heap_alloc_new u o1)
  · have := heap_alloc_new (u.alloc o1) o2
    simpa [World.drew] using this
theorem lit_cells {w : World} {b : Nat} {x : Tr.Lit} {v : Value} (h : w.heap[b]? = some (litObj x v)) :
    w.cell? ⟨b, 0, none⟩ = some (.int .i64 x.kind) ∧ w.cell? ⟨b, 1, none⟩ = some (.int .i64 x.at_) ∧ w.cell? ⟨b, 2, none⟩ = some (.int .i64 x.op) ∧ w.cell? ⟨b, 3, none⟩ = some (.string ⟨x.name.toArray⟩) ∧ w.cell? ⟨b, 4, none⟩ = some v :=
  ⟨by rw [Lib.cell_of_heap h]; rfl, by rw [Lib.cell_of_heap h]; rfl, by rw [Lib.cell_of_heap h]; rfl, by rw [Lib.cell_of_heap h]; rfl, by rw [Lib.cell_of_heap h]; rfl⟩

set_option maxRecDepth 100000 in
set_option maxHeartbeats 4000000 in
theorem sameTree_loop (l m : List Tr.Rule) (q : Bool) (w : World) (n ca cb ba oa bb ob : Nat) (hna : l.length = n) (hnb : m.length = n) (hmax : n ≤ 140737488355328) (hF : ∀ i, i < n → (Tr.ruleD l i).terms.length ≤ 140737488355328 ∧ (Tr.ruleD l i).body.length ≤ 140737488355328 ∧ Fits (Tr.ruleD l i).body)
    (hA : ∀ i, i < n → RuleIn w ba (oa + i * 5) (Tr.ruleD l i)) (hB : ∀ i, i < n → RuleIn w bb (ob + i * 5) (Tr.ruleD m i)) :
    Calls Tryd.prog 10 #[.agg #[.slice (some ⟨ba, oa, none⟩) n ca], .agg #[.slice (some ⟨bb, ob, none⟩) n cb], .bool q] w fun e w' => e = .returned (.bool (Tr.treeEq q l m)) ∧ Below w.heap.size w w' := by
  have HA : Hid (l.length = n) := hna
  have HB : Hid (m.length = n) := hnb
  clear hna hnb
  have hne : ((n : Int) != (n : Int)) = false := by simp
  have hbel0 : Below w.heap.size w ((w.alloc (.cells #[.slice (some ⟨ba, oa, none⟩) n ca] 25)).alloc (.cells #[.slice (some ⟨bb, ob, none⟩) n cb] 25)) := ((Below.refl _ _).alloc (Nat.le_refl _) _).alloc (by simp) _
  have ht0 : ((w.alloc (.cells #[.slice (some ⟨ba, oa, none⟩) n ca] 25)).alloc (.cells #[.slice (some ⟨bb, ob, none⟩) n cb] 25)).cell? ⟨w.heap.size, 0, none⟩ = some (.slice (some ⟨ba, oa, none⟩) n ca) := by simp [go_sem]
  have hu0 : ((w.alloc (.cells #[.slice (some ⟨ba, oa, none⟩) n ca] 25)).alloc (.cells #[.slice (some ⟨bb, ob, none⟩) n cb] 25)).cell? ⟨w.heap.size + 1, 0, none⟩ = some (.slice (some ⟨bb, ob, none⟩) n cb) := by simp [go_sem]
  go_enter Tryd.func10, Tryd.ntmps10
  go_wp2_with fail
  generalize hw0 : ((w.alloc (.cells #[.slice (some ⟨ba, oa, none⟩) n ca] 25)).alloc (.cells #[.slice (some ⟨bb, ob, none⟩) n cb] 25)) = w0 at *
  go_loopw [7] (fun i wr => ∃ k : Nat, k ≤ n ∧ i = .int .i64 k ∧ Tr.treeEq q l m = Tr.treeEq q (l.drop k) (m.drop k) ∧ Below w0.heap.size w0 wr) (fun i _ => n - (intOf i).toNat)
  case atStart => exact ⟨0, Nat.zero_le _, rfl, rfl, Below.refl _ _⟩
  case round =>
    obtain ⟨k, hk, rfl, hsame, hbr⟩ := hrel
    have HS : Hid (Tr.treeEq q l m = Tr.treeEq q (l.drop k) (m.drop k)) := hsame
    have ht := cell_below hbr ht0
    have hu := cell_below hbr hu0
    have hbw := hbel0.trans (hbr.mono hbel0.size)
    clear hsame
    by_cases hlt : k < n
    · have HD : Hid (Tr.treeEq q l m = (Tr.ruleEq q (Tr.ruleD l k) (Tr.ruleD m k) && Tr.treeEq q (l.drop (k + 1)) (m.drop (k + 1)))) := by
        show _ = _
        rw [HS.out]
        exact Tr.listEq_drop _ _ _ _ _ (by rw [HA.out]; exact hlt) (by rw [HB.out]; exact hlt)
      obtain ⟨a0, a1, ⟨va, a2, hTa⟩, a3, ua, a4, hLa⟩ := hA k hlt
      obtain ⟨b0, b1, ⟨vb, b2, hTb⟩, b3, ub, b4, hLb⟩ := hB k hlt
      replace a0 := cell_below hbw a0
      replace a1 := cell_below hbw a1
      replace a2 := cell_below hbw a2
      replace a3 := cell_below hbw a3
      replace a4 := cell_below hbw a4
      replace b0 := cell_below hbw b0
      replace b1 := cell_below hbw b1
      replace b2 := cell_below hbw b2
      replace b3 := cell_below hbw b3
      replace b4 := cell_below hbw b4
      replace hTa := termsV_below hTa hbw
      replace hTb := termsV_below hTb hbw
      replace hLa := litsV_below hLa hbw
      replace hLb := litsV_below hLb hbw
      obtain ⟨hmaxT, hmaxB, hmaxL⟩ := hF k hlt
      clear HS hA hB hF
      generalize Tr.ruleD l k = a at *
      generalize Tr.ruleD m k = b at *
      obtain ⟨aota, capta, rfl, hTa'⟩ := hTa
      obtain ⟨aotb, captb, rfl, hTb'⟩ := hTb
      obtain ⟨aola, capla, rfl, hLa'⟩ := hLa
      obtain ⟨aolb, caplb, rfl, hLb'⟩ := hLb
      go_upto_region 6 with fail
      go_cut [8, 9] (fun v8 v9 wx => ∃ pa pb : Nat, v8 = .pointer (some ⟨pa, 0, none⟩) ∧ v9 = .pointer (some ⟨pb, 0, none⟩) ∧ wx.heap[pa]? = some (rulObj a (.slice aota a.terms.length capta) (.slice aola a.body.length capla)) ∧ wx.heap[pb]? = some (rulObj b (.slice aotb b.terms.length captb) (.slice aolb b.body.length caplb)) ∧ Below wr.heap.size wr wx)
      case first =>
        go_region_held3 (fun w' => w'.cell? ⟨w.heap.size, 0, none⟩ = some (.slice (some ⟨ba, oa, none⟩) n ca) ∧ w'.cell? ⟨w.heap.size + 1, 0, none⟩ = some (.slice (some ⟨bb, ob, none⟩) n cb) ∧ w'.cell? ⟨ba, oa + k * 5, none⟩ = some (.int .i64 a.at_) ∧ w'.cell? ⟨ba, oa + k * 5 + 1, none⟩ = some (.string ⟨a.name.toArray⟩) ∧ w'.cell? ⟨ba, oa + k * 5 + 2, none⟩ = some (.slice aota a.terms.length capta) ∧ w'.cell? ⟨ba, oa + k * 5 + 3, none⟩ = some (.int .i64 a.fold) ∧ w'.cell? ⟨ba, oa + k * 5 + 4, none⟩ = some (.slice aola a.body.length capla) ∧
          w'.cell? ⟨bb, ob + k * 5, none⟩ = some (.int .i64 b.at_) ∧ w'.cell? ⟨bb, ob + k * 5 + 1, none⟩ = some (.string ⟨b.name.toArray⟩) ∧ w'.cell? ⟨bb, ob + k * 5 + 2, none⟩ = some (.slice aotb b.terms.length captb) ∧ w'.cell? ⟨bb, ob + k * 5 + 3, none⟩ = some (.int .i64 b.fold) ∧ w'.cell? ⟨bb, ob + k * 5 + 4, none⟩ = some (.slice aolb b.body.length caplb)) (go_keep) (fail)
        all_goals (go_wp2_with fail; go_meet)
        · exact ⟨_, _, rfl, rfl, (heap_two wr _ _).1, (heap_two wr _ _).2.1, (heap_two wr _ _).2.2⟩
        · exact ⟨_, _, rfl, rfl, (heap_two wr _ _).2.1, (heap_two wr _ _).1, (heap_two wr _ _).2.2⟩
      case rest =>
        obtain ⟨pa, pb, rfl, rfl, hpa, hpb, hbx⟩ := hcut
        generalize wc = wx at *
        have hTa : TermsV wx (.slice aota a.terms.length capta) a.terms := termsV_below ⟨aota, capta, rfl, hTa'⟩ hbx
        have hTb : TermsV wx (.slice aotb b.terms.length captb) b.terms := termsV_below ⟨aotb, captb, rfl, hTb'⟩ hbx
        have hLa : LitsV wx (.slice aola a.body.length capla) a.body := litsV_below ⟨aola, capla, rfl, hLa'⟩ hbx
        have hLb : LitsV wx (.slice aolb b.body.length caplb) b.body := litsV_below ⟨aolb, caplb, rfl, hLb'⟩ hbx
        have hbw2 := hbw.trans (hbx.mono hbw.size)
        have hbr2 := hbr.trans (hbx.mono hbr.size)
        have HC : Hid (Calls Tryd.prog 20 #[.slice aota a.terms.length capta, .slice aotb b.terms.length captb] wx fun e w' => e = .returned (.bool (Tr.termsEq a.terms b.terms)) ∧ ∃ k', w' = wx.drewN k') := sameTerms_any a.terms b.terms wx _ _ hTa hTb hmaxT
        clear hTa' hTb' hLa' hLb' hTa hTb ht hu a0 a1 a2 a3 a4 b0 b1 b2 b3 b4
        obtain ⟨c0, c1, c2, c3, c4⟩ := rul_cells hpa
        obtain ⟨d0, d1, d2, d3, d4⟩ := rul_cells hpb
        go_upto_region 7 with fail
        go_cut [75] (fun v75 wz => v75 = .bool (!(Tr.headEq q a b)) ∧ ∃ nz, wz = wx.drewN nz)
        case first =>
          cases q
          · skip
            cases h1 : (a.name == b.name)
            · skip
              go_wp2_with (go_at_call 20; refine Calls.mono HC.out ?_; rintro e y1 ⟨rfl, kq, rfl⟩)
              go_meet
              exact ⟨by simp [Tr.headEq, *], 0, rfl⟩
            · cases h2 : (a.fold != b.fold)
              rotate_left
              · skip
                go_wp2_with (go_at_call 20; refine Calls.mono HC.out ?_; rintro e y1 ⟨rfl, kq, rfl⟩)
                go_meet
                exact ⟨by simp [Tr.headEq, *], 0, rfl⟩
              · cases h3 : Tr.termsEq a.terms b.terms
                · skip
                  go_wp2_with (go_at_call 20; refine Calls.mono HC.out ?_; rintro e y1 ⟨rfl, kq, rfl⟩)
                  go_meet
                  exact ⟨by simp [Tr.headEq, *], kq, rfl⟩
                · cases h4 : ((a.body.length : Int) != (b.body.length : Int))
                  all_goals skip
                  · skip
                    go_wp2_with (go_at_call 20; refine Calls.mono HC.out ?_; rintro e y1 ⟨rfl, kq, rfl⟩)
                    go_meet
                    exact ⟨by simp [Tr.headEq, *], kq, rfl⟩
                  · skip
                    go_wp2_with (go_at_call 20; refine Calls.mono HC.out ?_; rintro e y1 ⟨rfl, kq, rfl⟩)
                    go_meet
                    exact ⟨by simp [Tr.headEq, *], kq, rfl⟩
          · cases h0 : (a.at_ != b.at_)
            · skip
              cases h1 : (a.name == b.name)
              · skip
                go_wp2_with (go_at_call 20; refine Calls.mono HC.out ?_; rintro e y1 ⟨rfl, kq, rfl⟩)
                go_meet
                exact ⟨by simp [Tr.headEq, *], 0, rfl⟩
              · cases h2 : (a.fold != b.fold)
                rotate_left
                · skip
                  go_wp2_with (go_at_call 20; refine Calls.mono HC.out ?_; rintro e y1 ⟨rfl, kq, rfl⟩)
                  go_meet
                  exact ⟨by simp [Tr.headEq, *], 0, rfl⟩
                · cases h3 : Tr.termsEq a.terms b.terms
                  · skip
                    go_wp2_with (go_at_call 20; refine Calls.mono HC.out ?_; rintro e y1 ⟨rfl, kq, rfl⟩)
                    go_meet
                    exact ⟨by simp [Tr.headEq, *], kq, rfl⟩
                  · cases h4 : ((a.body.length : Int) != (b.body.length : Int))
                    all_goals skip
                    · skip
                      go_wp2_with (go_at_call 20; refine Calls.mono HC.out ?_; rintro e y1 ⟨rfl, kq, rfl⟩)
                      go_meet
                      exact ⟨by simp [Tr.headEq, *], kq, rfl⟩
                    · skip
                      go_wp2_with (go_at_call 20; refine Calls.mono HC.out ?_; rintro e y1 ⟨rfl, kq, rfl⟩)
                      go_meet
                      exact ⟨by simp [Tr.headEq, *], kq, rfl⟩
            · skip
              go_wp2_with (go_at_call 20; refine Calls.mono HC.out ?_; rintro e y1 ⟨rfl, kq, rfl⟩)
              go_meet
              exact ⟨by simp [Tr.headEq, *], 0, rfl⟩
        case rest =>
          obtain ⟨rfl, nz, rfl⟩ := hcut
          replace hLa : LitsV (wx.drewN nz) (.slice aola a.body.length capla) a.body := hLa
          replace hLb : LitsV (wx.drewN nz) (.slice aolb b.body.length caplb) b.body := hLb
          replace hpa : (wx.drewN nz).heap[pa]? = some (rulObj a (.slice aota a.terms.length capta) (.slice aola a.body.length capla)) := hpa
          replace hpb : (wx.drewN nz).heap[pb]? = some (rulObj b (.slice aotb b.terms.length captb) (.slice aolb b.body.length caplb)) := hpb
          replace hbw2 : Below w.heap.size w (wx.drewN nz) := below_drewN hbw2 nz
          replace hbr2 : Below w0.heap.size w0 (wx.drewN nz) := below_drewN hbr2 nz
          clear hbx HC c0 c1 c2 c3 c4 d0 d1 d2 d3 d4
          generalize wx.drewN nz = wy at *
          cases hh : Tr.headEq q a b
          · have HV : Hid (Tr.treeEq q l m = false) := by show _ = _; rw [HD.out, Tr.ruleEq, hh]; rfl
            clear HD hLa hLb
            go_wp2_with fail
            go_ret
            exact ⟨ret_bool HV.out.symm, hbw2⟩
          · have hlen : a.body.length = b.body.length := Tr.headEq_len hh
            have HE0 : Hid (Tr.ruleEq q a b = Tr.listEq (Tr.litEq q) a.body b.body) := by show _ = _; rw [Tr.ruleEq, hh]; rfl
            clear hh
            go_wp2_with fail
            go_loopw [10] (fun i wz => ∃ j : Nat, j ≤ a.body.length ∧ i = .int .i64 j ∧ Tr.ruleEq q a b = Tr.listEq (Tr.litEq q) (a.body.drop j) (b.body.drop j) ∧ Below wy.heap.size wy wz) (fun i _ => a.body.length - (intOf i).toNat)
            case atStart => exact ⟨0, Nat.zero_le _, rfl, HE0.out, Below.refl _ _⟩
            case round =>
              obtain ⟨j, hj, rfl, hse, hbz⟩ := hrel
              have HSE : Hid _ := hse
              clear hse HE0
              have hLa2 := litsV_below hLa hbz
              have hLb2 := litsV_below hLb hbz
              have hpa2 := (hbz.block _ (heap_lt hpa)).trans hpa
              have hpb2 := (hbz.block _ (heap_lt hpb)).trans hpb
              have hbw3 := hbw2.trans (hbz.mono hbw2.size)
              have hbr3 := hbr2.trans (hbz.mono hbr2.size)
              obtain ⟨_, _, _, _, c4⟩ := rul_cells hpa2
              obtain ⟨_, _, _, _, d4⟩ := rul_cells hpb2
              have hpal := heap_lt hpa2
              have hpbl := heap_lt hpb2
              generalize hwz : wr = wz at *
              clear hwz
              by_cases hltj : j < a.body.length
              · have HDL : Hid (Tr.ruleEq q a b = (Tr.litEq q (Tr.litD a.body j) (Tr.litD b.body j) && Tr.listEq (Tr.litEq q) (a.body.drop (j + 1)) (b.body.drop (j + 1)))) := by
                  show _ = _
                  rw [HSE.out]
                  exact Tr.listEq_drop _ _ _ _ _ hltj (by omega)
                have hmaxX := hmaxL j hltj
                have hltjb : j < b.body.length := by omega
                obtain ⟨_, _, hv, hLA⟩ := hLa2
                rcases hLA with h | ⟨ba2, oa2, rfl, hcA⟩
                · rw [h] at hltj; exact absurd hltj (by simp)
                injection hv with e1 _ e3
                subst e1 e3
                obtain ⟨_, _, hv, hLB⟩ := hLb2
                rcases hLB with h | ⟨bb2, ob2, rfl, hcB⟩
                · rw [h] at hltjb; exact absurd hltjb (by simp)
                injection hv with e1 _ e3
                subst e1 e3
                obtain ⟨x0, x1, x2, x3, xv, x4, hTx⟩ := hcA j hltj
                obtain ⟨y0, y1, y2, y3, yv, y4, hTy⟩ := hcB j hltjb
                clear hcA hcB HSE
                generalize Tr.litD a.body j = x at *
                generalize Tr.litD b.body j = y at *
                obtain ⟨aotx, captx, rfl, hTx'⟩ := hTx
                obtain ⟨aoty, capty, rfl, hTy'⟩ := hTy
                go_upto_region 12 with fail
                go_cut [11, 12] (fun v8 v9 wq => ∃ px py : Nat, v8 = .pointer (some ⟨px, 0, none⟩) ∧ v9 = .pointer (some ⟨py, 0, none⟩) ∧ wq.heap[px]? = some (litObj x (.slice aotx x.terms.length captx)) ∧ wq.heap[py]? = some (litObj y (.slice aoty y.terms.length capty)) ∧ Below wz.heap.size wz wq)
                case first =>
                  go_region_held3 (fun w' => w'.cell? ⟨pa, 4, none⟩ = some (.slice (some ⟨ba2, oa2, none⟩) a.body.length capla) ∧ w'.cell? ⟨pb, 4, none⟩ = some (.slice (some ⟨bb2, ob2, none⟩) b.body.length caplb) ∧ w'.cell? ⟨ba2, oa2 + j * 5, none⟩ = some (.int .i64 x.kind) ∧ w'.cell? ⟨ba2, oa2 + j * 5 + 1, none⟩ = some (.int .i64 x.at_) ∧ w'.cell? ⟨ba2, oa2 + j * 5 + 2, none⟩ = some (.int .i64 x.op) ∧ w'.cell? ⟨ba2, oa2 + j * 5 + 3, none⟩ = some (.string ⟨x.name.toArray⟩) ∧ w'.cell? ⟨ba2, oa2 + j * 5 + 4, none⟩ = some (.slice aotx x.terms.length captx) ∧
                    w'.cell? ⟨bb2, ob2 + j * 5, none⟩ = some (.int .i64 y.kind) ∧ w'.cell? ⟨bb2, ob2 + j * 5 + 1, none⟩ = some (.int .i64 y.at_) ∧ w'.cell? ⟨bb2, ob2 + j * 5 + 2, none⟩ = some (.int .i64 y.op) ∧ w'.cell? ⟨bb2, ob2 + j * 5 + 3, none⟩ = some (.string ⟨y.name.toArray⟩) ∧ w'.cell? ⟨bb2, ob2 + j * 5 + 4, none⟩ = some (.slice aoty y.terms.length capty)) (go_keep) (fail)
                  all_goals (go_wp2_with fail; go_meet)
                  · exact ⟨_, _, rfl, rfl, (heap_two wz _ _).1, (heap_two wz _ _).2.1, (heap_two wz _ _).2.2⟩
                  · exact ⟨_, _, rfl, rfl, (heap_two wz _ _).2.1, (heap_two wz _ _).1, (heap_two wz _ _).2.2⟩
                case rest =>
                  obtain ⟨px, py, rfl, rfl, hpx, hpy, hbq⟩ := hcut
                  generalize wc = wq at *
                  have hTx : TermsV wq (.slice aotx x.terms.length captx) x.terms := termsV_below ⟨aotx, captx, rfl, hTx'⟩ hbq
                  have hTy : TermsV wq (.slice aoty y.terms.length capty) y.terms := termsV_below ⟨aoty, capty, rfl, hTy'⟩ hbq
                  have HE : Hid (Calls Tryd.prog 20 #[.slice aotx x.terms.length captx, .slice aoty y.terms.length capty] wq fun e w' => e = .returned (.bool (Tr.termsEq x.terms y.terms)) ∧ ∃ k', w' = wq.drewN k') := sameTerms_any x.terms y.terms wq _ _ hTx hTy hmaxX
                  have hbw4 := hbw3.trans (hbq.mono hbw3.size)
                  have hbz4 := hbz.trans (hbq.mono hbz.size)
                  clear hTx hTy hTx' hTy' x0 x1 x2 x3 x4 y0 y1 y2 y3 y4 c4 d4 hpa2 hpb2 hbr3
                  obtain ⟨x0, x1, x2, x3, x4⟩ := lit_cells hpx
                  obtain ⟨y0, y1, y2, y3, y4⟩ := lit_cells hpy
                  go_upto_region 13 with fail
                  go_cut [129] (fun v wk => v = .bool (!(Tr.litEq q x y)) ∧ ∃ nz, wk = wq.drewN nz)
                  case first =>
                    cases q
                    · skip
                      cases h1 : (x.kind != y.kind)
                      rotate_left
                      · skip
                        go_wp2_with (go_at_call 20; refine Calls.mono HE.out ?_; rintro e y1 ⟨rfl, kq, rfl⟩)
                        go_meet
                        exact ⟨by simp [Tr.litEq, *], 0, rfl⟩
                      · cases h2 : (x.op != y.op)
                        rotate_left
                        · skip
                          go_wp2_with (go_at_call 20; refine Calls.mono HE.out ?_; rintro e y1 ⟨rfl, kq, rfl⟩)
                          go_meet
                          exact ⟨by simp [Tr.litEq, *], 0, rfl⟩
                        · cases h3 : (x.name == y.name)
                          · skip
                            go_wp2_with (go_at_call 20; refine Calls.mono HE.out ?_; rintro e y1 ⟨rfl, kq, rfl⟩)
                            go_meet
                            exact ⟨by simp [Tr.litEq, *], 0, rfl⟩
                          · cases h4 : Tr.termsEq x.terms y.terms
                            · skip
                              go_wp2_with (go_at_call 20; refine Calls.mono HE.out ?_; rintro e y1 ⟨rfl, kq, rfl⟩)
                              go_meet
                              exact ⟨by simp [Tr.litEq, *], kq, rfl⟩
                            · skip
                              go_wp2_with (go_at_call 20; refine Calls.mono HE.out ?_; rintro e y1 ⟨rfl, kq, rfl⟩)
                              go_meet
                              exact ⟨by simp [Tr.litEq, *], kq, rfl⟩
                    · cases h0 : (x.at_ != y.at_)
                      · skip
                        cases h1 : (x.kind != y.kind)
                        rotate_left
                        · skip
                          go_wp2_with (go_at_call 20; refine Calls.mono HE.out ?_; rintro e y1 ⟨rfl, kq, rfl⟩)
                          go_meet
                          exact ⟨by simp [Tr.litEq, *], 0, rfl⟩
                        · cases h2 : (x.op != y.op)
                          rotate_left
                          · skip
                            go_wp2_with (go_at_call 20; refine Calls.mono HE.out ?_; rintro e y1 ⟨rfl, kq, rfl⟩)
                            go_meet
                            exact ⟨by simp [Tr.litEq, *], 0, rfl⟩
                          · cases h3 : (x.name == y.name)
                            · skip
                              go_wp2_with (go_at_call 20; refine Calls.mono HE.out ?_; rintro e y1 ⟨rfl, kq, rfl⟩)
                              go_meet
                              exact ⟨by simp [Tr.litEq, *], 0, rfl⟩
                            · cases h4 : Tr.termsEq x.terms y.terms
                              · skip
                                go_wp2_with (go_at_call 20; refine Calls.mono HE.out ?_; rintro e y1 ⟨rfl, kq, rfl⟩)
                                go_meet
                                exact ⟨by simp [Tr.litEq, *], kq, rfl⟩
                              · skip
                                go_wp2_with (go_at_call 20; refine Calls.mono HE.out ?_; rintro e y1 ⟨rfl, kq, rfl⟩)
                                go_meet
                                exact ⟨by simp [Tr.litEq, *], kq, rfl⟩
                      · skip
                        go_wp2_with (go_at_call 20; refine Calls.mono HE.out ?_; rintro e y1 ⟨rfl, kq, rfl⟩)
                        go_meet
                        exact ⟨by simp [Tr.litEq, *], 0, rfl⟩
                  case rest =>
                    obtain ⟨rfl, nz2, rfl⟩ := hcut
                    cases hh2 : Tr.litEq q x y
                    · have HV : Hid (Tr.treeEq q l m = false) := by show _ = _; rw [HD.out, HDL.out, hh2]; rfl
                      clear HD HDL
                      go_wp2_with fail
                      go_ret
                      exact ⟨ret_bool HV.out.symm, below_drewN hbw4 _⟩
                    · have HV : Hid (Tr.ruleEq q a b = Tr.listEq (Tr.litEq q) (a.body.drop (j + 1)) (b.body.drop (j + 1))) := by show _ = _; rw [HDL.out, hh2]; rfl
                      clear HDL
                      go_wp2_with fail
                      go_roundw
                      case rel => exact ⟨j + 1, by omega, by go_num, HV.out, below_drewN hbz4 _⟩
                      case measure => simp [intOf]; omega
              · have HV : Hid (Tr.ruleEq q a b = true) := by
                  show _ = _
                  rw [HSE.out, List.drop_of_length_le (by omega), List.drop_of_length_le (by omega)]
                  rfl
                have HV2 : Hid (Tr.treeEq q l m = Tr.treeEq q (l.drop (k + 1)) (m.drop (k + 1))) := by show _ = _; rw [HD.out, HV.out]; rfl
                clear HD HV HSE
                go_wp2_with fail
                go_roundw
                case rel => exact ⟨k + 1, by omega, by go_num, HV2.out, hbr3⟩
                case measure => simp [intOf]; omega
    · have HV : Hid (Tr.treeEq q l m = true) := by
        show _ = _
        rw [HS.out, List.drop_of_length_le (by rw [HA.out]; omega), List.drop_of_length_le (by rw [HB.out]; omega)]
        rfl
      clear HS hA hB
      go_wp2_with fail
      go_ret
      exact ⟨ret_bool HV.out.symm, hbw⟩

set_option maxRecDepth 100000 in
set_option maxHeartbeats 400000 in
theorem sameTree_diff (q : Bool) (w : World) (ao bo : Option Addr) (n m ca cb : Nat) (h : ¬ n = m) :
    Calls Tryd.prog 10 #[.agg #[.slice ao n ca], .agg #[.slice bo m cb], .bool q] w fun e w' => e = .returned (.bool false) ∧ Below w.heap.size w w' := by
  have hne : ((n : Int) != (m : Int)) = true := bne_iff_ne.2 (by omega)
  have hbel0 : Below w.heap.size w ((w.alloc (.cells #[.slice ao n ca] 25)).alloc (.cells #[.slice bo m cb] 25)) := ((Below.refl _ _).alloc (Nat.le_refl _) _).alloc (by simp) _
  go_enter Tryd.func10, Tryd.ntmps10
  go_wp2_with fail
  go_ret
  exact ⟨rfl, hbel0⟩

set_option maxRecDepth 100000 in
set_option maxHeartbeats 400000 in
theorem sameTree_none (q : Bool) (w : World) (ao bo : Option Addr) (ca cb : Nat) :
    Calls Tryd.prog 10 #[.agg #[.slice ao 0 ca], .agg #[.slice bo 0 cb], .bool q] w fun e w' => e = .returned (.bool true) ∧ Below w.heap.size w w' := by
  have hbel0 : Below w.heap.size w ((w.alloc (.cells #[.slice ao 0 ca] 25)).alloc (.cells #[.slice bo 0 cb] 25)) := ((Below.refl _ _).alloc (Nat.le_refl _) _).alloc (by simp) _
  go_enter Tryd.func10, Tryd.ntmps10
  go_wp2_with fail
  refine wp_loop_rounds 1 ?_
  rw [rounds_succ]
  go_wp2_with fail
  go_ret
  exact ⟨rfl, hbel0⟩

/-- Trees that are not too great for the machine's counters. -/
def Fine (l : List Tr.Rule) : Prop := l.length ≤ 140737488355328 ∧ ∀ i, i < l.length → (Tr.ruleD l i).terms.length ≤ 140737488355328 ∧ (Tr.ruleD l i).body.length ≤ 140737488355328 ∧ Fits (Tr.ruleD l i).body

/-- SameTree, whatever trees it is handed. -/
theorem sameTree_any (l m : List Tr.Rule) (q : Bool) (w : World) (va vb : Value) (hA : RulesV w va l) (hB : RulesV w vb m) (hF : Fine l) :
    Calls Tryd.prog 10 #[.agg #[va], .agg #[vb], .bool q] w fun e w' => e = .returned (.bool (Tr.treeEq q l m)) ∧ Below w.heap.size w w' := by
  obtain ⟨ao, ca, rfl, hA⟩ := hA
  obtain ⟨bo, cb, rfl, hB⟩ := hB
  by_cases h : l.length = m.length
  · rcases hA with rfl | ⟨b, off, rfl, hA⟩
    · have hl : m = [] := List.eq_nil_of_length_eq_zero h.symm
      subst hl
      exact sameTree_none q w ao bo ca cb
    · rcases hB with rfl | ⟨b', off', rfl, hB⟩
      · have hl : l = [] := List.eq_nil_of_length_eq_zero h
        subst hl
        exact sameTree_none q w _ bo ca cb
      · rw [← h]
        exact sameTree_loop l m q w l.length ca cb b off b' off' rfl h.symm hF.1 hF.2 hA (by rw [h]; exact hB)
  · rw [show Tr.treeEq q l m = false from Tr.listEq_len _ l m h]
    exact sameTree_diff q w ao bo _ _ ca cb h

end Go.Proofs.YtjbfbbhaagkagaaDoor

/- The parser's terms in brackets. -/
namespace Go.Proofs.YtjbfbbhaagkagaaDoor
open Go.RowKit

theorem must_len {t : List UInt8} {en : Int} {r r' : List Tk.Tok} (ht : ¬ t = []) (h : Pr.must t en r = .inr r') : r'.length < r.length := by
  unfold Pr.must at h
  cases h1 : ((Pr.hd en r).text == t)
  · rw [h1] at h; simp at h
  · rw [h1] at h
    simp only [if_true, Sum.inr.injEq] at h
    have hr := hd_ne ht h1
    subst h
    cases r with
    | nil => exact absurd rfl hr
    | cons a r => simp
theorem kind_len {en : Int} {r : List Tk.Tok} {k : Int} (hk : ¬ k = 0) (h : ((Pr.hd en r).kind == k) = true) : r.tail.length < r.length := by
  cases r with
  | nil => exact absurd (eq_of_beq h).symm hk
  | cons a r => simp
theorem number_len {en : Int} {r : List Tk.Tok} {x : Int × List Tk.Tok} (h : Pr.number en r = .inr x) : x.2.length < r.length := by
  unfold Pr.number at h
  cases hk : ((Pr.hd en r).kind == 3)
  · rw [hk] at h; simp at h
  · rw [hk] at h
    simp only [if_true, Sum.inr.injEq] at h
    subst h
    exact kind_len (by decide) hk
theorem term_len {en : Int} {r : List Tk.Tok} {x : Tr.Term × List Tk.Tok} (h : Pr.term en r = .inr x) : x.2.length < r.length := by
  unfold Pr.term at h
  cases h2 : ((Pr.hd en r).kind == 2)
  · cases h3 : ((Pr.hd en r).kind == 3)
    · rw [h2, h3] at h
      simp only [Bool.false_eq_true, if_false] at h
      cases hm : Pr.must [45] en r with
      | inl a => rw [hm] at h; simp at h
      | inr r1 =>
        rw [hm] at h
        have hl := must_len (by simp) hm
        simp only at h
        unfold Pr.neg at h
        cases h0 : ((Pr.hd en r1).text == [48])
        · rw [h0] at h
          simp only [Bool.false_eq_true, if_false] at h
          cases hn : Pr.number en r1 with
          | inl a => rw [hn] at h; simp at h
          | inr y =>
            rw [hn] at h
            simp only [Sum.inr.injEq] at h
            have := number_len hn
            subst h
            exact Nat.lt_trans this hl
        · rw [h0] at h; simp at h
    · rw [h2, h3] at h
      simp only [Bool.false_eq_true, if_false, if_true, Sum.inr.injEq] at h
      subst h
      exact kind_len (by decide) h3
  · rw [h2] at h
    simp only [if_true, Sum.inr.injEq] at h
    subst h
    exact kind_len (by decide) h2
theorem fold_len (may : Bool) (en : Int) (r : List Tk.Tok) : (Pr.foldMay may en r).2.length ≤ r.length := by
  unfold Pr.foldMay Pr.foldAt
  split
  · split <;> simp
  · simp
theorem text_len {t : List UInt8} {en : Int} {r : List Tk.Tok} (ht : ¬ t = []) (h : Pr.isText en r t = true) : r.tail.length < r.length := by
  have := hd_ne ht h
  cases r with
  | nil => exact absurd rfl this
  | cons a r => simp

/-- What terms leaves. -/
def TermsEnd (may : Bool) (P : Nat) (L : List Tk.Tok) (en : Int) (r : List Tk.Tok) (w : World) (e : Ending) (w' : World) : Prop := match Pr.terms may en r with
  | .inl a => e = gaveP a ∧ w.grownBy w' (some P)
  | .inr x => ∃ v, e = .returned (.tuple #[v, .int .i64 x.1.2]) ∧ TermsP w.heap.size w' v x.1.1 ∧ Went w w' P L en x.2

/-- fold, where it may be asked for. -/
theorem fold_any (P : Nat) (L : List Tk.Tok) (en : Int) (r : List Tk.Tok) (w : World) (hA : At w P L en r) :
    Calls Tryd.prog 52 #[.pointer (some ⟨P, 0, none⟩)] w fun e w' => e = .returned (.int .i64 (Pr.foldMay true en r).1) ∧ Went w w' P L en (Pr.foldMay true en r).2 := by
  by_cases h : Tr.foldOf (Pr.hd en r).text = 0
  · have e1 : Pr.foldMay true en r = (0, r) := by simp [Pr.foldMay, Pr.foldAt, h]
    rw [e1]
    refine (fold_no P L en r w hA h).mono ?_
    rintro e w' ⟨rfl, hb⟩
    exact ⟨rfl, grownBy_of_below hb _, hA.below hb⟩
  · have e1 : Pr.foldMay true en r = (Tr.foldOf (Pr.hd en r).text, r.tail) := by simp [Pr.foldMay, Pr.foldAt, h]
    rw [e1]
    exact fold_yes P L en r w hA h

theorem A_info71 : (Tryd.prog.info? 76).map (fun i => (i.zero, i.size, i.bytes)) = some (some (.agg #[.string ⟨#[]⟩, .int .i64 0]), 2, 24) := by kernel_rfl

/-- A term more. -/
theorem more_step (may : Bool) (en : Int) (f : Nat) (acc : List Tr.Term) (r : List Tk.Tok) (t : Tr.Term) (r2 : List Tk.Tok) (h : Pr.term en (Pr.foldMay may en r).2 = .inr (t, r2)) :
    Pr.more may en (f + 1) acc r = if ((Pr.foldMay may en r).1 == 0) && Pr.isText en r2 [44] then Pr.more may en f (acc ++ [t]) r2.tail else .inr ((acc ++ [t], (Pr.foldMay may en r).1), r2) := by
  rw [Pr.more, h]

end Go.Proofs.YtjbfbbhaagkagaaDoor

/- The parser's terms in brackets: the loop. -/
namespace Go.Proofs.YtjbfbbhaagkagaaDoor
open Go.RowKit

/-- 1, if it is true. -/
def bitOf (v : Value) : Nat := match v with | .bool true => 1 | _ => 0

theorem ownsRow_grown {w w' : World} {P base : Nat} {e : TypeId} {size : Nat} {v : Value} {n : Nat} {xs : List Value} (h : w.ownsRow base e size v n xs) (hg : w.grownBy w' (some P)) (hP : P < base) : w'.ownsRow base e size v n xs := by
  obtain ⟨h1, h2⟩ := h
  refine ⟨h1, ?_⟩
  rcases h2 with h2 | ⟨g, cap, cur, hv, hb, hbk, r⟩
  · exact .inl h2
  · exact .inr ⟨g, cap, cur, hv, hb, (hg.block g (heap_lt hbk) (by intro h; injection h; omega)).trans hbk, r⟩
theorem Went.own {w w3 w4 : World} {P base k n : Nat} {L : List Tk.Tok} {en : Int} {r : List Tk.Tok} {e : TypeId} {v : Value} {xs : List Value} (h : Went w w3 P L en r) (hg : w3.grownBy w4 v.ownBlock) (hown : w3.ownsRow base e k v n xs) (hb : w.heap.size ≤ base) (hP : P < w.heap.size) : Went w w4 P L en r := by
  have hne : ∀ i, i < w.heap.size → some i ≠ v.ownBlock := fun i hi he => by have := (hown.lt i he.symm).1; omega
  have hs := h.1.size
  refine ⟨⟨hg.os.trans h.1.os, hg.tape.trans h.1.tape, hg.output.trans h.1.output, Nat.le_trans hs hg.size, fun i hi hiP => (hg.block i (by omega) (hne i hi)).trans (h.1.block i hi hiP)⟩, h.2.keep fun i hi => hg.block i (by omega) (hne i (by omega))⟩

set_option maxRecDepth 100000 in
set_option maxHeartbeats 400000 in
theorem terms_off (may : Bool) (P : Nat) (L : List Tk.Tok) (en : Int) (r : List Tk.Tok) (w : World) (hA : At w P L en r) (h : Pr.isText en r [40] = false) :
    Calls Tryd.prog 33 #[.pointer (some ⟨P, 0, none⟩), .bool may] w (TermsEnd may P L en r w) := by
  have hE : TermsEnd may P L en r w = fun e w' => e = gaveP (Pr.hd en r).at_ ∧ w.grownBy w' (some P) := by
    funext e w'
    unfold Pr.isText at h
    simp [TermsEnd, Pr.terms, Pr.must, h]
  rw [hE]
  have hmu : Hid _ := must_no [40] P L en r w hA h
  generalize Pr.hd en r = x at *
  go_enter Tryd.func33, Tryd.ntmps33
  go_wp2_with fail
  refine Calls.mono hmu.out ?_
  rintro e w1 ⟨rfl, hb⟩
  exact ⟨rfl, rfl, grownBy_of_below hb _⟩

set_option maxRecDepth 100000 in
set_option maxHeartbeats 400000 in
theorem terms_none (may : Bool) (P : Nat) (L : List Tk.Tok) (en : Int) (r : List Tk.Tok) (w : World) (hA : At w P L en r) (h : Pr.isText en r [40] = true) (h1 : Pr.isText en r.tail [41] = true) :
    Calls Tryd.prog 33 #[.pointer (some ⟨P, 0, none⟩), .bool may] w (TermsEnd may P L en r w) := by
  have hE : TermsEnd may P L en r w = fun e w' => ∃ v, e = .returned (.tuple #[v, .int .i64 0]) ∧ TermsP w.heap.size w' v [] ∧ Went w w' P L en r.tail.tail := by
    funext e w'
    have h' := h
    unfold Pr.isText at h'
    simp [TermsEnd, Pr.terms, Pr.must, Pr.inside, h', h1]
  rw [hE]
  have hmu : Hid _ := must_yes [40] P L en r w hA (by simp) h
  go_enter Tryd.func33, Tryd.ntmps33
  go_wp2_with fail
  refine Calls.mono hmu.out ?_
  rintro e w1 ⟨rfl, hW⟩
  go_wp2_with fail
  refine (take_yes [41] P L en r.tail w1 hW.2 (by simp) h1).mono ?_
  rintro e w2 ⟨rfl, hW2⟩
  go_wp2
  exact bodyPost_ret (v := .tuple #[.slice none 0 0, .int .i64 0]) (by simp [results, Tryd.results33]) rfl ⟨_, rfl, ⟨none, 0, rfl, .inl rfl⟩, Went.trans hW hW2⟩

set_option maxRecDepth 100000 in
set_option maxHeartbeats 1000000 in
theorem terms_some (may : Bool) (P : Nat) (L : List Tk.Tok) (en : Int) (r : List Tk.Tok) (w : World) (hA : At w P L en r) (h : Pr.isText en r [40] = true) (h1 : Pr.isText en r.tail [41] = false) :
    Calls Tryd.prog 33 #[.pointer (some ⟨P, 0, none⟩), .bool may] w (TermsEnd may P L en r w) := by
  obtain ⟨i0, hi, hz0, hz1, hz2⟩ := info_parts A_info71
  have HE : Hid (∀ e w', (match Pr.more may en (r.tail.length + 1) [] r.tail with
      | .inl a => e = gaveP a ∧ w.grownBy w' (some P)
      | .inr x => match Pr.must [41] en x.2 with
        | .inl a => e = gaveP a ∧ w.grownBy w' (some P)
        | .inr r3 => ∃ v, e = .returned (.tuple #[v, .int .i64 x.1.2]) ∧ TermsP w.heap.size w' v x.1.1 ∧ Went w w' P L en r3) → TermsEnd may P L en r w e w') := by
    intro e w' hh
    have h' := h
    unfold Pr.isText at h'
    simp only [TermsEnd, Pr.terms, Pr.must, Pr.inside, h', h1, if_true, Bool.false_eq_true, if_false]
    revert hh
    cases Pr.more may en (r.tail.length + 1) [] r.tail with
    | inl a => exact id
    | inr x =>
      simp only [Pr.must]
      cases ((Pr.hd en x.2).text == [41]) <;> exact id
  have hmu : Hid _ := must_yes [40] P L en r w hA (by simp) h
  have hlt := hA.lt
  generalize hX : Pr.more may en (r.tail.length + 1) [] r.tail = X at HE
  generalize TermsEnd may P L en r w = Q at *
  clear hA
  go_enter Tryd.func33, Tryd.ntmps33
  go_wp2_with fail
  refine Calls.mono hmu.out ?_
  rintro e w1 ⟨rfl, hW1⟩
  go_wp2_with fail
  refine (take_no [41] P L en r.tail w1 hW1.2 h1).mono ?_
  rintro e w2 ⟨rfl, hb2⟩
  have hW2 : Went w w2 P L en r.tail := Went.below hW1 hb2
  clear hW1 hb2 hmu h h1
  generalize r.tail = r0 at *
  go_wp2_with fail
  go_loopw [6, 7, 8] (fun a b c wr => ∃ (acc : List Tr.Term) (r1 : List Tk.Tok) (fo : Int), wr.ownsRow w.heap.size 76 2 a acc.length (acc.map termCells).flatten ∧ Went w wr P L en r1 ∧ b = .int .i64 fo ∧ acc.length + r1.length ≤ L.length ∧
      ((c = .bool true ∧ fo = 0 ∧ ∃ f, r1.length < f ∧ Pr.more may en f acc r1 = X) ∨ (c = .bool false ∧ X = .inr ((acc, fo), r1))))
    (fun _ _ c wr => bitOf c + (L.length - nxOf wr P))
  case atStart =>
    obtain ⟨m1, m2, m3⟩ := hW2.2.meas
    exact ⟨[], r0, 0, World.ownsRow_nil _ _ _ _, hW2, rfl, by simpa using m2, .inl ⟨rfl, rfl, _, Nat.lt_succ_self _, hX⟩⟩
  case round =>
    obtain ⟨acc, r1, fo, hown, hW, rfl, hlen, hc⟩ := hrel
    obtain ⟨ao, cap, rfl⟩ := own_slice hown
    obtain ⟨m1, m2, m3⟩ := hW.2.meas
    rcases hc with ⟨rfl, rfl, f, hf, hX1⟩ | ⟨rfl, hX1⟩
    · obtain ⟨f, rfl⟩ : ∃ f', f = f' + 1 := ⟨f - 1, by omega⟩
      cases may
      · have hWF := hW
        have hownF := hown
        cases hT : Pr.term en r1 with
        | inl a =>
          have hXa : X = .inl a := by rw [← hX1, Pr.more, show Pr.foldMay false en r1 = (0, r1) from rfl, hT]
          go_wp2_with fail
          refine (term_no P L en r1 _ hWF.2 a hT).mono ?_
          rintro e w3 ⟨rfl, hg3⟩
          exact ⟨rfl, HE.out _ _ (by rw [hXa]; exact ⟨rfl, grownBy_trans hWF.1 hg3⟩)⟩
        | inr x =>
          obtain ⟨t, r2⟩ := x
          have hl2 : r2.length < r1.length := Nat.lt_of_lt_of_le (term_len hT) (Nat.le_refl _)
          have hXs : X = if ((0 : Int) == 0) && Pr.isText en r2 [44] then Pr.more false en f (acc ++ [t]) r2.tail else .inr ((acc ++ [t], (0 : Int)), r2) := by rw [← hX1, Pr.more, show Pr.foldMay false en r1 = (0, r1) from rfl, hT]
          go_wp2_with fail
          refine (term_yes P L en r1 _ hWF.2 t r2 hT).mono ?_
          rintro e w3 ⟨rfl, hW3⟩
          have hW3' : Went w w3 P L en r2 := Went.trans hWF hW3
          have hown3 := ownsRow_grown hownF hW3.1 hlt
          have hsz3 : w.heap.size ≤ w3.heap.size := hW3'.1.size
          clear hW3 hX1 hT
          go_wp2_with (at_builtin; refine wpList_append_own _ rfl (.tmp 23) (.tmp 26) 37 rfl w.heap.size 76 i0 _ 2 24 Tryd.underlying37 hi hz0 hz1 hz2 rfl (by decide) _ _ _ rfl (ownsRow_below hown3 ((Below.refl _ _).alloc (Nat.le_refl _) _)) ⟨w3.heap.size, 0, none⟩ 1 1 (termCells t) rfl rfl ?c1 ?c2 ?c3 ?c4 ?c5 ?_)
          case c1 =>
            intro j u hj
            match j, hj with
            | 0, hj => simp [termCells] at hj; subst hj; simp [Addr.add, go_sem]
            | 1, hj => simp [termCells] at hj; subst hj; simp [Addr.add, go_sem]
          case c2 => intro u hu; simp [termCells] at hu; rcases hu with rfl | rfl <;> rfl
          case c3 => unfold maxLen; omega
          case c4 => omega
          case c5 => simp; omega
          intro v' w4 hown4 hgrow _
          have hW4 : Went w w4 P L en r2 := Went.own (Went.alloc hW3' _) hgrow (ownsRow_below hown3 ((Below.refl _ _).alloc (Nat.le_refl _) _)) (Nat.le_refl _) hlt
          have hown4' : w4.ownsRow w.heap.size 76 2 v' (acc ++ [t]).length ((acc ++ [t]).map termCells).flatten := by
            simpa using hown4
          obtain ⟨ao', cap', rfl⟩ := own_slice hown4
          clear hown4 hgrow hown3 hW3' hi hz0 hz1 hz2
          cases hq : Pr.isText en r2 [44]
          · go_wp2_with fail
            refine (take_no [44] P L en r2 _ hW4.2 hq).mono ?_
            rintro e w5 ⟨rfl, hb5⟩
            have hW5 := Went.below hW4 hb5
            go_wp2
            go_roundw
            case rel => exact ⟨acc ++ [t], r2, 0, ownsRow_below hown4' hb5, hW5, rfl, by rw [List.length_append]; simp; omega, .inr ⟨rfl, by rw [hXs, hq]; rfl⟩⟩
            case measure => rw [hW5.2.meas.1, hW.2.meas.1]; simp [bitOf]; omega
          · have hl3 := text_len (by simp) hq
            go_wp2_with fail
            refine (take_yes [44] P L en r2 _ hW4.2 (by simp) hq).mono ?_
            rintro e w5 ⟨rfl, hW5⟩
            have hown5 := ownsRow_grown hown4' hW5.1 hlt
            have hW5 := Went.trans hW4 hW5
            go_wp2
            go_roundw
            case rel => exact ⟨acc ++ [t], r2.tail, 0, hown5, hW5, rfl, by rw [List.length_append]; simp; omega, .inl ⟨rfl, rfl, f, by omega, by rw [hXs, hq]; rfl⟩⟩
            case measure => rw [hW5.2.meas.1, hW.2.meas.1]; simp [bitOf]; omega
      · have hfl := fold_len true en r1
        generalize hfm : Pr.foldMay true en r1 = fm at hfl
        have hfa : Hid (∀ w', At w' P L en r1 → _) := fun w' h' => fold_any P L en r1 w' h'
        rw [hfm] at hfa
        go_wp2_with fail
        refine Calls.mono (hfa.out _ hW.2) ?_
        rintro e wf ⟨rfl, hWf⟩
        have hWF : Went w wf P L en fm.2 := Went.trans hW hWf
        have hownF := ownsRow_grown hown hWf.1 hlt
        cases hT : Pr.term en fm.2 with
        | inl a =>
          have hXa : X = .inl a := by rw [← hX1, Pr.more, hfm, hT]
          go_wp2_with fail
          refine (term_no P L en fm.2 _ hWF.2 a hT).mono ?_
          rintro e w3 ⟨rfl, hg3⟩
          exact ⟨rfl, HE.out _ _ (by rw [hXa]; exact ⟨rfl, grownBy_trans hWF.1 hg3⟩)⟩
        | inr x =>
          obtain ⟨t, r2⟩ := x
          have hl2 : r2.length < r1.length := Nat.lt_of_lt_of_le (term_len hT) (hfl)
          have hXs : X = if (fm.1 == 0) && Pr.isText en r2 [44] then Pr.more true en f (acc ++ [t]) r2.tail else .inr ((acc ++ [t], fm.1), r2) := by rw [← hX1, Pr.more, hfm, hT]
          go_wp2_with fail
          refine (term_yes P L en fm.2 _ hWF.2 t r2 hT).mono ?_
          rintro e w3 ⟨rfl, hW3⟩
          have hW3' : Went w w3 P L en r2 := Went.trans hWF hW3
          have hown3 := ownsRow_grown hownF hW3.1 hlt
          have hsz3 : w.heap.size ≤ w3.heap.size := hW3'.1.size
          clear hW3 hX1 hT
          go_wp2_with (at_builtin; refine wpList_append_own _ rfl (.tmp 23) (.tmp 26) 37 rfl w.heap.size 76 i0 _ 2 24 Tryd.underlying37 hi hz0 hz1 hz2 rfl (by decide) _ _ _ rfl (ownsRow_below hown3 ((Below.refl _ _).alloc (Nat.le_refl _) _)) ⟨w3.heap.size, 0, none⟩ 1 1 (termCells t) rfl rfl ?c1 ?c2 ?c3 ?c4 ?c5 ?_)
          case c1 =>
            intro j u hj
            match j, hj with
            | 0, hj => simp [termCells] at hj; subst hj; simp [Addr.add, go_sem]
            | 1, hj => simp [termCells] at hj; subst hj; simp [Addr.add, go_sem]
          case c2 => intro u hu; simp [termCells] at hu; rcases hu with rfl | rfl <;> rfl
          case c3 => unfold maxLen; omega
          case c4 => omega
          case c5 => simp; omega
          intro v' w4 hown4 hgrow _
          have hW4 : Went w w4 P L en r2 := Went.own (Went.alloc hW3' _) hgrow (ownsRow_below hown3 ((Below.refl _ _).alloc (Nat.le_refl _) _)) (Nat.le_refl _) hlt
          have hown4' : w4.ownsRow w.heap.size 76 2 v' (acc ++ [t]).length ((acc ++ [t]).map termCells).flatten := by
            simpa using hown4
          obtain ⟨ao', cap', rfl⟩ := own_slice hown4
          clear hown4 hgrow hown3 hW3' hi hz0 hz1 hz2
          cases hf : (fm.1 == 0)
          · go_wp2
            go_roundw
            case rel => exact ⟨acc ++ [t], r2, fm.1, hown4', hW4, rfl, by rw [List.length_append]; simp; omega, .inr ⟨rfl, by rw [hXs, hf]; rfl⟩⟩
            case measure => rw [hW4.2.meas.1, hW.2.meas.1]; simp [bitOf]; omega
          · have hf0 : fm.1 = 0 := eq_of_beq hf
            cases hq : Pr.isText en r2 [44]
            · go_wp2_with fail
              refine (take_no [44] P L en r2 _ hW4.2 hq).mono ?_
              rintro e w5 ⟨rfl, hb5⟩
              have hW5 := Went.below hW4 hb5
              go_wp2
              go_roundw
              case rel => exact ⟨acc ++ [t], r2, fm.1, ownsRow_below hown4' hb5, hW5, by rw [hf0], by rw [List.length_append]; simp; omega, .inr ⟨rfl, by rw [hXs, hf, hq]; rfl⟩⟩
              case measure => rw [hW5.2.meas.1, hW.2.meas.1]; simp [bitOf]; omega
            · have hl3 := text_len (by simp) hq
              go_wp2_with fail
              refine (take_yes [44] P L en r2 _ hW4.2 (by simp) hq).mono ?_
              rintro e w5 ⟨rfl, hW5⟩
              have hown5 := ownsRow_grown hown4' hW5.1 hlt
              have hW5 := Went.trans hW4 hW5
              go_wp2
              go_roundw
              case rel => exact ⟨acc ++ [t], r2.tail, fm.1, hown5, hW5, by rw [hf0], by rw [List.length_append]; simp; omega, .inl ⟨rfl, hf0, f, by omega, by rw [hXs, hf, hq]; rfl⟩⟩
              case measure => rw [hW5.2.meas.1, hW.2.meas.1]; simp [bitOf]; omega
    · cases hq : Pr.isText en r1 [41]
      · have hm : Pr.must [41] en r1 = .inl (Pr.hd en r1).at_ := by unfold Pr.must; unfold Pr.isText at hq; rw [hq]; rfl
        go_wp2_with fail
        refine (must_no [41] P L en r1 _ hW.2 hq).mono ?_
        rintro e w5 ⟨rfl, hb5⟩
        exact ⟨rfl, HE.out _ _ (by rw [hX1]; simp only [hm]; exact ⟨trivial, ground hW.1 hb5⟩)⟩
      · have hm : Pr.must [41] en r1 = .inr r1.tail := by unfold Pr.must; unfold Pr.isText at hq; rw [hq]; rfl
        go_wp2_with fail
        refine (must_yes [41] P L en r1 _ hW.2 (by simp) hq).mono ?_
        rintro e w5 ⟨rfl, hW5⟩
        have hown5 := ownsRow_grown hown hW5.1 hlt
        go_wp2
        refine HE.out _ _ ?_
        rw [hX1]
        simp only [hm]
        exact ⟨_, rfl, rowP_own (by intro c hc; simp at hc; obtain ⟨t, _, rfl⟩ := hc; rfl) (by rw [List.length_map]; exact hown5), Went.trans hW hW5⟩

theorem terms_any (may : Bool) (P : Nat) (L : List Tk.Tok) (en : Int) (r : List Tk.Tok) (w : World) (hA : At w P L en r) :
    Calls Tryd.prog 33 #[.pointer (some ⟨P, 0, none⟩), .bool may] w (TermsEnd may P L en r w) := by
  cases h : Pr.isText en r [40]
  · exact terms_off may P L en r w hA h
  · cases h1 : Pr.isText en r.tail [41]
    · exact terms_some may P L en r w hA h h1
    · exact terms_none may P L en r w hA h h1

end Go.Proofs.YtjbfbbhaagkagaaDoor

/- The parser's literals that are reckoned. -/
namespace Go.Proofs.YtjbfbbhaagkagaaDoor
open Go.RowKit

abbrev litZero : Obj := .cells #[.int .i64 0, .int .i64 0, .int .i64 0, .string ⟨#[]⟩, .slice none 0 0] 42
/-- A literal under way: block N: the result's; N + 1: the literal's. -/
structure RInv (w wr : World) (P : Nat) (L : List Tk.Tok) (en : Int) (r : List Tk.Tok) (k at_ op : Int) (v : Value) (acc : List Tr.Term) : Prop where
  went : Went w wr P L en r
  res : wr.heap[w.heap.size]? = some litZero
  lit : wr.heap[w.heap.size + 1]? = some (.cells #[.int .i64 k, .int .i64 at_, .int .i64 op, .string ⟨#[]⟩, v] 42)
  own : wr.ownsRow (w.heap.size + 2) 76 2 v acc.length (acc.map termCells).flatten
  lt : P < w.heap.size

theorem RInv.sz {w wr : World} {P : Nat} {L : List Tk.Tok} {en : Int} {r : List Tk.Tok} {k at_ op : Int} {v : Value} {acc : List Tr.Term} (h : RInv w wr P L en r k at_ op v acc) : w.heap.size + 2 ≤ wr.heap.size := heap_lt h.lit
theorem RInv.start {w : World} {P : Nat} {L : List Tk.Tok} {en : Int} {r : List Tk.Tok} (hA : At w P L en r) (at_ : Int) :
    RInv w ((w.alloc litZero).alloc (.cells #[.int .i64 3, .int .i64 at_, .int .i64 0, .string ⟨#[]⟩, .slice none 0 0] 42)) P L en r 3 at_ 0 (.slice none 0 0) [] where
  went := Went.alloc (Went.alloc ⟨grownBy_of_below (Below.refl _ _) _, hA⟩ _) _
  res := (heap_alloc_old _ _ (by simp)).trans (heap_alloc_new w _)
  lit := by have := heap_alloc_new (w.alloc litZero) (.cells #[.int .i64 3, .int .i64 at_, .int .i64 0, .string ⟨#[]⟩, .slice none 0 0] 42); simpa using this
  own := World.ownsRow_nil _ _ _ _
  lt := hA.lt
theorem RInv.on {w wr w' : World} {P : Nat} {L : List Tk.Tok} {en : Int} {r r' : List Tk.Tok} {k at_ op : Int} {v : Value} {acc : List Tr.Term} (h : RInv w wr P L en r k at_ op v acc) (hW : Went wr w' P L en r') : RInv w w' P L en r' k at_ op v acc where
  went := Went.trans h.went hW
  res := (hW.1.block _ (heap_lt h.res) (by have := h.lt; intro e; injection e; omega)).trans h.res
  lit := (hW.1.block _ (heap_lt h.lit) (by have := h.lt; intro e; injection e; omega)).trans h.lit
  own := ownsRow_grown h.own hW.1 (by have := h.lt; omega)
  lt := h.lt
theorem RInv.below {w wr w' : World} {P : Nat} {L : List Tk.Tok} {en : Int} {r : List Tk.Tok} {k at_ op : Int} {v : Value} {acc : List Tr.Term} (h : RInv w wr P L en r k at_ op v acc) (hb : Below wr.heap.size wr w') : RInv w w' P L en r k at_ op v acc :=
  h.on ⟨grownBy_of_below hb _, h.went.2.below hb⟩
theorem RInv.on2 {w wr wr' w' : World} {P : Nat} {L : List Tk.Tok} {en : Int} {r r' : List Tk.Tok} {k at_ op : Int} {v : Value} {acc : List Tr.Term} (h : RInv w wr P L en r k at_ op v acc) (hW : Went wr' w' P L en r') (hb : Below wr.heap.size wr wr') : RInv w w' P L en r' k at_ op v acc :=
  (h.below hb).on hW
/-- The cells. -/
theorem RInv.cells {w wr : World} {P : Nat} {L : List Tk.Tok} {en : Int} {r : List Tk.Tok} {k at_ op : Int} {v : Value} {acc : List Tr.Term} (h : RInv w wr P L en r k at_ op v acc) :
    wr.cell? ⟨w.heap.size + 1, 0, none⟩ = some (.int .i64 k) ∧ wr.cell? ⟨w.heap.size + 1, 1, none⟩ = some (.int .i64 at_) ∧ wr.cell? ⟨w.heap.size + 1, 2, none⟩ = some (.int .i64 op) ∧ wr.cell? ⟨w.heap.size + 1, 3, none⟩ = some (.string ⟨#[]⟩) ∧
      wr.cell? ⟨w.heap.size + 1, 4, none⟩ = some v ∧ (∀ o, wr.frozen? ⟨w.heap.size + 1, o, none⟩ = false) ∧ (∀ o, wr.frozen? ⟨w.heap.size, o, none⟩ = false) :=
  ⟨by rw [Lib.cell_of_heap h.lit]; rfl, by rw [Lib.cell_of_heap h.lit]; rfl, by rw [Lib.cell_of_heap h.lit]; rfl, by rw [Lib.cell_of_heap h.lit]; rfl, by rw [Lib.cell_of_heap h.lit]; rfl, fun o => by simp [World.frozen?, h.lit], fun o => by simp [World.frozen?, h.res]⟩

theorem RInv.app {w wr w3 : World} {P : Nat} {L : List Tk.Tok} {en : Int} {r : List Tk.Tok} {k at_ op : Int} {v : Value} {acc : List Tr.Term} (h : RInv w wr P L en r k at_ op v acc) (hg : wr.grownBy w3 v.ownBlock) :
    w3.heap[w.heap.size]? = some litZero ∧ w3.heap[w.heap.size + 1]? = some (.cells #[.int .i64 k, .int .i64 at_, .int .i64 op, .string ⟨#[]⟩, v] 42) ∧ w3.cell? ⟨w.heap.size + 1, 4, none⟩ = some v ∧ w3.frozen? ⟨w.heap.size + 1, 4, none⟩ = false := by
  have hs := h.sz
  have hne : ∀ i, i < w.heap.size + 2 → some i ≠ v.ownBlock := fun i hi he => by have := (h.own.lt i he.symm).1; omega
  have e1 := (hg.block _ (heap_lt h.res) (hne _ (by omega))).trans h.res
  have e2 := (hg.block _ (heap_lt h.lit) (hne _ (by omega))).trans h.lit
  exact ⟨e1, e2, by rw [Lib.cell_of_heap e2]; rfl, by simp [World.frozen?, e2]⟩
theorem RInv.put {w wr w3 : World} {P : Nat} {L : List Tk.Tok} {en : Int} {r : List Tk.Tok} {k at_ op : Int} {v v' : Value} {acc : List Tr.Term} {t : Tr.Term} (h : RInv w wr P L en r k at_ op v acc) (hg : wr.grownBy w3 v.ownBlock)
    (hown : w3.ownsRow (w.heap.size + 2) 76 2 v' (acc.length + 1) ((acc.map termCells).flatten ++ termCells t)) : RInv w (w3.setCell ⟨w.heap.size + 1, 4, none⟩ v') P L en r k at_ op v' (acc ++ [t]) where
  went := (Went.own h.went hg h.own (by omega) h.lt).set h.lt (by omega) _ _
  res := (Below.heap_setCell _ _ _ _ (show ¬ w.heap.size = w.heap.size + 1 by omega)).trans (h.app hg).1
  lit := by
    have := (h.app hg).2.1
    simp [World.setCell, Array.getElem?_modify, this]
  own := ownsRow_setCell_below (by simpa using hown) (by simp) _
  lt := h.lt

theorem news_term (w : World) (t : Tr.Term) : ∀ j u, (termCells t)[j]? = some u → (w.alloc (.cells #[.string ⟨t.var.toArray⟩, .int .i64 t.n] 76)).cell? ((⟨w.heap.size, 0, none⟩ : Addr).add j) = some u := World.news_of_block (heap_alloc_new w _)
theorem one_term (t : Tr.Term) : ∀ u ∈ termCells t, u.oneCell' = true := by intro u hu; simp [termCells] at hu; rcases hu with rfl | rfl <;> rfl

theorem RInv.setOp {w wr : World} {P : Nat} {L : List Tk.Tok} {en : Int} {r : List Tk.Tok} {k at_ op : Int} {v : Value} {acc : List Tr.Term} (h : RInv w wr P L en r k at_ op v acc) (o : Int) : RInv w (wr.setCell ⟨w.heap.size + 1, 2, none⟩ (.int .i64 o)) P L en r k at_ o v acc where
  went := h.went.set h.lt (by omega) _ _
  res := (Below.heap_setCell _ _ _ _ (show ¬ w.heap.size = w.heap.size + 1 by omega)).trans h.res
  lit := by
    have := h.lit
    simp [World.setCell, Array.getElem?_modify, this]
  own := ownsRow_setCell_below h.own (by simp) _
  lt := h.lt
theorem RInv.setKind {w wr : World} {P : Nat} {L : List Tk.Tok} {en : Int} {r : List Tk.Tok} {k at_ op : Int} {v : Value} {acc : List Tr.Term} (h : RInv w wr P L en r k at_ op v acc) (o : Int) : RInv w (wr.setCell ⟨w.heap.size + 1, 0, none⟩ (.int .i64 o)) P L en r o at_ op v acc where
  went := h.went.set h.lt (by omega) _ _
  res := (Below.heap_setCell _ _ _ _ (show ¬ w.heap.size = w.heap.size + 1 by omega)).trans h.res
  lit := by
    have := h.lit
    simp [World.setCell, Array.getElem?_modify, this]
  own := ownsRow_setCell_below h.own (by simp) _
  lt := h.lt
theorem RInv.rcells {w wr : World} {P : Nat} {L : List Tk.Tok} {en : Int} {r : List Tk.Tok} {k at_ op : Int} {v : Value} {acc : List Tr.Term} (h : RInv w wr P L en r k at_ op v acc) :
    wr.cell? ⟨w.heap.size, 0, none⟩ = some (.int .i64 0) ∧ wr.cell? ⟨w.heap.size, 1, none⟩ = some (.int .i64 0) ∧ wr.cell? ⟨w.heap.size, 2, none⟩ = some (.int .i64 0) ∧ wr.cell? ⟨w.heap.size, 3, none⟩ = some (.string ⟨#[]⟩) ∧
      wr.cell? ⟨w.heap.size, 4, none⟩ = some (.slice none 0 0) :=
  ⟨by rw [Lib.cell_of_heap h.res]; rfl, by rw [Lib.cell_of_heap h.res]; rfl, by rw [Lib.cell_of_heap h.res]; rfl, by rw [Lib.cell_of_heap h.res]; rfl, by rw [Lib.cell_of_heap h.res]; rfl⟩
theorem gone {w wr wr' w' : World} {P : Nat} (h : w.grownBy wr (some P)) (hg : wr'.grownBy w' (some P)) (hb : Below wr.heap.size wr wr') : w.grownBy w' (some P) := grownBy_trans (ground h hb) hg
/-- What literal and reckoning leave. -/
def LitEnd (P : Nat) (L : List Tk.Tok) (en : Int) (w : World) (x : Int ⊕ (Tr.Lit × List Tk.Tok)) (e : Ending) (w' : World) : Prop := match x with
  | .inl a => e = gaveP a ∧ w.grownBy w' (some P)
  | .inr x => ∃ v, e = .returned (litVal x.1 v) ∧ TermsP w.heap.size w' v x.1.terms ∧ Went w w' P L en x.2
/-- The literal, copied to the result. -/
theorem RInv.out {w wr : World} {P : Nat} {L : List Tk.Tok} {en : Int} {r : List Tk.Tok} {k at_ op : Int} {v : Value} {acc : List Tr.Term} (h : RInv w wr P L en r k at_ op v acc) (a b c d e : Value) :
    TermsP w.heap.size (((((wr.setCell ⟨w.heap.size, 0, none⟩ a).setCell ⟨w.heap.size, 1, none⟩ b).setCell ⟨w.heap.size, 2, none⟩ c).setCell ⟨w.heap.size, 3, none⟩ d).setCell ⟨w.heap.size, 4, none⟩ e) v acc ∧
      Went w (((((wr.setCell ⟨w.heap.size, 0, none⟩ a).setCell ⟨w.heap.size, 1, none⟩ b).setCell ⟨w.heap.size, 2, none⟩ c).setCell ⟨w.heap.size, 3, none⟩ d).setCell ⟨w.heap.size, 4, none⟩ e) P L en r := by
  have h0 : TermsP (w.heap.size + 2) wr v acc := rowP_own (by intro c hc; simp at hc; obtain ⟨t, _, rfl⟩ := hc; rfl) (by rw [List.length_map]; exact h.own)
  refine ⟨?_, ((((h.went.set h.lt (Nat.le_refl _) _ _).set h.lt (Nat.le_refl _) _ _).set h.lt (Nat.le_refl _) _ _).set h.lt (Nat.le_refl _) _ _).set h.lt (Nat.le_refl _) _ _⟩
  exact (((((h0.keep (keeps_set _ (by omega) _ _)).keep (keeps_set _ (by omega) _ _)).keep (keeps_set _ (by omega) _ _)).keep (keeps_set _ (by omega) _ _)).keep (keeps_set _ (by omega) _ _)).mono (by omega)

set_option maxRecDepth 100000 in
set_option maxHeartbeats 4000000 in
theorem reckon_any (at_ : Int) (P : Nat) (L : List Tk.Tok) (en : Int) (r : List Tk.Tok) (w : World) (hA : At w P L en r) :
    Calls Tryd.prog 54 #[.pointer (some ⟨P, 0, none⟩), .int .i64 at_] w (LitEnd P L en w (Pr.reckon at_ en r)) := by
  obtain ⟨i0, hi, hz0, hz1, hz2⟩ := info_parts A_info71
  have hI := RInv.start hA at_
  have HQ : Hid (∀ X, Pr.reckon at_ en r = X → ∀ e w', LitEnd P L en w X e w' → LitEnd P L en w (Pr.reckon at_ en r) e w') := by rintro X rfl e w' h; exact h
  generalize LitEnd P L en w (Pr.reckon at_ en r) = Q at HQ ⊢
  cases h1 : Pr.term en r with
  | inl a =>
    have hX' : Pr.reckon at_ en r = .inl a := by rw [Pr.reckon, h1]
    have hX : Hid _ := hX'
    clear hX'
    have HN : Hid (∀ w1, At w1 P L en r → _) := fun w1 h => term_no P L en r w1 h a h1
    go_enter Tryd.func54, Tryd.ntmps54
    go_upto_region 2 with fail
    generalize (w.alloc litZero).alloc (.cells #[.int .i64 3, .int .i64 at_, .int .i64 0, .string ⟨#[]⟩, .slice none 0 0] 42) = w0 at *
    obtain ⟨c0, c1, c2, c3, c4, f1, f0⟩ := hI.cells
    go_region_dies
    all_goals (refine Calls.mono (HN.out _ (At.keep hI.went.2 (fun _ _ => rfl))) ?_)
    all_goals rintro e y2 ⟨rfl, hg2⟩
    all_goals exact ⟨rfl, HQ.out _ hX.out _ _ ⟨rfl, gone hI.went.1 hg2 ⟨rfl, rfl, rfl, Nat.le_refl _, fun _ _ => rfl⟩⟩⟩
  | inr x1 =>
    obtain ⟨t1, r1⟩ := x1
    have HT1 : Hid (∀ w1, At w1 P L en r → _) := fun w1 h => term_yes P L en r w1 h t1 r1 h1
    by_cases hop : Pr.opOf (Pr.hd en r1).text = 0
    · have hX' : Pr.reckon at_ en r = .inl (Pr.hd en r1).at_ := by
        have : Pr.op en r1 = .inl (Pr.hd en r1).at_ := by simp [Pr.op, hop]
        simp only [Pr.reckon, h1, this]
      have hX : Hid _ := hX'
      clear hX'
      have HN : Hid (∀ w1, At w1 P L en r1 → _) := fun w1 h => op_no P L en r1 w1 h hop
      generalize Pr.hd en r1 = x at *
      go_enter Tryd.func54, Tryd.ntmps54
      go_upto_region 2 with fail
      generalize (w.alloc litZero).alloc (.cells #[.int .i64 3, .int .i64 at_, .int .i64 0, .string ⟨#[]⟩, .slice none 0 0] 42) = w0 at *
      obtain ⟨c0, c1, c2, c3, c4, f1, f0⟩ := hI.cells
      go_cut [] (fun wx => ∃ v, RInv w wx P L en r1 3 at_ 0 v [t1])
      case first =>
        go_region_law (first
          | (go_simp; go_at_call 53; refine Calls.mono (HT1.out _ (At.keep hI.went.2 (fun _ _ => rfl))) ?_; rintro e y2 ⟨rfl, hW2⟩; have hI2 := RInv.on2 hI hW2 ⟨rfl, rfl, rfl, Nat.le_refl _, fun _ _ => rfl⟩; obtain ⟨d0, d1, d2, d3, d4, g1, g0⟩ := hI2.cells; have hsz := hI2.sz; have hsz1 : w.heap.size + 1 < y2.heap.size := hsz; dsimp only)
          | (refine step_append_lies _ rfl (.tmp 9) (.tmp 12) 37 rfl (w.heap.size + 2) 76 i0 _ 2 24 Tryd.underlying37 hi hz0 hz1 hz2 rfl (by decide) (.slice none 0 0) 0 _ ?hs (RInv.below hI2 ((Below.refl _ _).alloc (Nat.le_refl _) _)).own ⟨y2.heap.size, 0, none⟩ 1 1 (termCells t1) ?hx rfl ?hn ?ho ?hm ?h6 ?hb ?hB _ rfl ?_
             case hs => simp [Act.eval]
             case hx => simp [Act.eval]
             case hn => exact news_term _ _
             case ho => exact one_term _
             case hm => decide
             case h6 => decide
             case hb => decide
             case hB => (simp; omega)
             intro g cap y3 hown hgrow hat hlt
             have hI3 := RInv.put (t := t1) (RInv.below hI2 ((Below.refl _ _).alloc (Nat.le_refl _) _)) hgrow hown
             obtain ⟨_, _, e4, ef⟩ := RInv.app (RInv.below hI2 ((Below.refl _ _).alloc (Nat.le_refl _) _)) hgrow))
        all_goals (go_wp2_with fail; go_meet)
        all_goals exact ⟨_, hI3⟩
      case rest =>
        obtain ⟨va, hIa⟩ := hcut
        obtain ⟨aoa, capa, rfl⟩ := own_slice hIa.own
        go_wp2_with fail
        refine Calls.mono (HN.out _ hIa.went.2) ?_
        rintro e y2 ⟨rfl, hb2⟩
        exact ⟨rfl, HQ.out _ hX.out _ _ ⟨rfl, ground hIa.went.1 hb2⟩⟩
    · have hO : Pr.op en r1 = .inr (Pr.opOf (Pr.hd en r1).text, r1.tail) := by simp [Pr.op, hop]
      have HO : Hid (∀ w1, At w1 P L en r1 → _) := fun w1 h => op_yes P L en r1 w1 h hop
      generalize Pr.opOf (Pr.hd en r1).text = o at hO HO
      clear hop
      have hX0' : Pr.reckon at_ en r = match Pr.term en r1.tail with
          | .inl p => .inl p
          | .inr b => if Tr.between o 5 7 then Pr.calcLit at_ o t1 b.1 en b.2 else .inr (⟨3, at_, o, [], [t1, b.1]⟩, b.2) := by
        simp only [Pr.reckon, h1, hO]
        cases Pr.term en r1.tail <;> rfl
      have hX0 : Hid _ := hX0'
      clear hX0'
      go_enter Tryd.func54, Tryd.ntmps54
      go_upto_region 2 with fail
      generalize (w.alloc litZero).alloc (.cells #[.int .i64 3, .int .i64 at_, .int .i64 0, .string ⟨#[]⟩, .slice none 0 0] 42) = w0 at *
      obtain ⟨c0, c1, c2, c3, c4, f1, f0⟩ := hI.cells
      go_cut [] (fun wx => ∃ v, RInv w wx P L en r1 3 at_ 0 v [t1])
      case first =>
        go_region_law (first
          | (go_simp; go_at_call 53; refine Calls.mono (HT1.out _ (At.keep hI.went.2 (fun _ _ => rfl))) ?_; rintro e y2 ⟨rfl, hW2⟩; have hI2 := RInv.on2 hI hW2 ⟨rfl, rfl, rfl, Nat.le_refl _, fun _ _ => rfl⟩; obtain ⟨d0, d1, d2, d3, d4, g1, g0⟩ := hI2.cells; have hsz := hI2.sz; have hsz1 : w.heap.size + 1 < y2.heap.size := hsz; dsimp only)
          | (refine step_append_lies _ rfl (.tmp 9) (.tmp 12) 37 rfl (w.heap.size + 2) 76 i0 _ 2 24 Tryd.underlying37 hi hz0 hz1 hz2 rfl (by decide) (.slice none 0 0) 0 _ ?hs (RInv.below hI2 ((Below.refl _ _).alloc (Nat.le_refl _) _)).own ⟨y2.heap.size, 0, none⟩ 1 1 (termCells t1) ?hx rfl ?hn ?ho ?hm ?h6 ?hb ?hB _ rfl ?_
             case hs => simp [Act.eval]
             case hx => simp [Act.eval]
             case hn => exact news_term _ _
             case ho => exact one_term _
             case hm => decide
             case h6 => decide
             case hb => decide
             case hB => (simp; omega)
             intro g cap y3 hown hgrow hat hlt
             have hI3 := RInv.put (t := t1) (RInv.below hI2 ((Below.refl _ _).alloc (Nat.le_refl _) _)) hgrow hown
             obtain ⟨_, _, e4, ef⟩ := RInv.app (RInv.below hI2 ((Below.refl _ _).alloc (Nat.le_refl _) _)) hgrow))
        all_goals (go_wp2_with fail; go_meet)
        all_goals exact ⟨_, hI3⟩
      case rest =>
        obtain ⟨va, hIa⟩ := hcut
        obtain ⟨aoa, capa, rfl⟩ := own_slice hIa.own
        obtain ⟨c0, c1, c2, c3, c4, f1, f0⟩ := hIa.cells
        clear hI
        go_wp2_with fail
        refine Calls.mono (HO.out _ hIa.went.2) ?_
        rintro e w2 ⟨rfl, hW2⟩
        have hIb := (hIa.on hW2)
        obtain ⟨c0, c1, c2, c3, c4, f1, f0⟩ := hIb.cells
        have hIc := hIb.setOp o
        go_upto_region 4 with fail
        generalize w2.setCell ⟨w.heap.size + 1, 2, none⟩ (.int .i64 o) = w3 at *
        clear c0 c1 c2 c3 c4 f1 f0 hIa hIb
        obtain ⟨c0, c1, c2, c3, c4, f1, f0⟩ := hIc.cells
        generalize r1.tail = r2 at *
        cases h2 : Pr.term en r2 with
        | inl a =>
          have hX' : Pr.reckon at_ en r = .inl a := by rw [hX0.out, h2]
          have hX : Hid _ := hX'
          clear hX'
          have HN : Hid (∀ w1, At w1 P L en r2 → _) := fun w1 h => term_no P L en r2 w1 h a h2
          go_region_dies
          all_goals (refine Calls.mono (HN.out _ (At.keep hIc.went.2 (fun _ _ => rfl))) ?_)
          all_goals rintro e y2 ⟨rfl, hg2⟩
          all_goals exact ⟨rfl, HQ.out _ hX.out _ _ ⟨rfl, gone hIc.went.1 hg2 ⟨rfl, rfl, rfl, Nat.le_refl _, fun _ _ => rfl⟩⟩⟩
        | inr x2 =>
          obtain ⟨t2, r3⟩ := x2
          have hX1' : Pr.reckon at_ en r = if Tr.between o 5 7 then Pr.calcLit at_ o t1 t2 en r3 else .inr (⟨3, at_, o, [], [t1, t2]⟩, r3) := by rw [hX0.out, h2]
          have hX1 : Hid _ := hX1'
          clear hX1'
          have HT2 : Hid (∀ w1, At w1 P L en r2 → _) := fun w1 h => term_yes P L en r2 w1 h t2 r3 h2
          go_cut [] (fun wx => ∃ v, RInv w wx P L en r3 3 at_ o v [t1, t2])
          case first =>
            go_region_law (first
              | (go_simp; go_at_call 53; refine Calls.mono (HT2.out _ (At.keep hIc.went.2 (fun _ _ => rfl))) ?_; rintro e y2 ⟨rfl, hW2⟩; have hI2 := RInv.on2 hIc hW2 ⟨rfl, rfl, rfl, Nat.le_refl _, fun _ _ => rfl⟩; obtain ⟨d0, d1, d2, d3, d4, g1, g0⟩ := hI2.cells; have hsz := hI2.sz; have hsz1 : w.heap.size + 1 < y2.heap.size := hsz; dsimp only)
              | (refine step_append_lies _ rfl (.tmp 19) (.tmp 22) 37 rfl (w.heap.size + 2) 76 i0 _ 2 24 Tryd.underlying37 hi hz0 hz1 hz2 rfl (by decide) (.slice aoa 1 capa) 1 _ ?hs (RInv.below hI2 ((Below.refl _ _).alloc (Nat.le_refl _) _)).own ⟨y2.heap.size, 0, none⟩ 1 1 (termCells t2) ?hx rfl ?hn ?ho ?hm ?h6 ?hb ?hB _ rfl ?_
                 case hs => simp [Act.eval]
                 case hx => simp [Act.eval]
                 case hn => exact news_term _ _
                 case ho => exact one_term _
                 case hm => decide
                 case h6 => decide
                 case hb => decide
                 case hB => (simp; omega)
                 intro g cap y3 hown hgrow hat hlt
                 have hI3 := RInv.put (t := t2) (RInv.below hI2 ((Below.refl _ _).alloc (Nat.le_refl _) _)) hgrow hown
                 obtain ⟨_, _, e4, ef⟩ := RInv.app (RInv.below hI2 ((Below.refl _ _).alloc (Nat.le_refl _) _)) hgrow))
            all_goals (go_wp2_with fail; go_meet)
            all_goals exact ⟨_, hI3⟩
          case rest =>
            obtain ⟨vd, hId⟩ := hcut
            obtain ⟨aod, capd, rfl⟩ := own_slice hId.own
            clear c0 c1 c2 c3 c4 f1 f0 hIc
            obtain ⟨c0, c1, c2, c3, c4, f1, f0⟩ := hId.cells
            clear HT1 HO HT2 hX0
            go_wp2_with fail
            refine (isCalc_any o _).mono ?_
            rintro e w5 ⟨rfl, rfl⟩
            cases hb : Tr.between o 5 7
            · have hX : Pr.reckon at_ en r = .inr (⟨3, at_, o, [], [t1, t2]⟩, r3) := by rw [hX1.out, hb]; rfl
              have HF : Hid (∀ e w', _ → Q e w') := fun e w' h => HQ.out _ hX e w' h
              clear hX hX1 HQ
              obtain ⟨x0, x1, x2, x3, x4⟩ := hId.rcells
              go_wp2
              exact bodyPost_ret (v := litVal ⟨3, at_, o, [], [t1, t2]⟩ (.slice aod 2 capd)) (by simp [results, Tryd.results54, go_sem, x0, x1, x2, x3, x4]) rfl (HF.out _ _ ⟨_, rfl, hId.out _ _ _ _ _⟩)
            · have hIe := hId.setKind 4
              go_wp2_with fail
              cases hm : Pr.isText en r3 [61]
              · have hX' : Pr.reckon at_ en r = .inl (Pr.hd en r3).at_ := by
                  have : Pr.must [61] en r3 = .inl (Pr.hd en r3).at_ := by unfold Pr.must; unfold Pr.isText at hm; rw [hm]; rfl
                  rw [hX1.out, hb]
                  simp only [if_true, Pr.calcLit, this]
                have HF : Hid (∀ e w', _ → Q e w') := fun e w' h => HQ.out _ hX' e w' h
                clear hX' hX1 HQ
                refine (must_no [61] P L en r3 _ hIe.went.2 hm).mono ?_
                rintro e y2 ⟨rfl, hb2⟩
                exact ⟨rfl, HF.out _ _ ⟨rfl, ground hIe.went.1 hb2⟩⟩
              · have hX2' : Pr.reckon at_ en r = match Pr.term en r3.tail with
                    | .inl p => .inl p
                    | .inr z => .inr (⟨4, at_, o, [], [t1, t2, z.1]⟩, z.2) := by
                  have : Pr.must [61] en r3 = .inr r3.tail := by unfold Pr.must; unfold Pr.isText at hm; rw [hm]; rfl
                  rw [hX1.out, hb]
                  simp only [if_true, Pr.calcLit, this]
                  cases Pr.term en r3.tail <;> rfl
                have hX2 : Hid _ := hX2'
                clear hX2'
                refine (must_yes [61] P L en r3 _ hIe.went.2 (by simp) hm).mono ?_
                rintro e w6 ⟨rfl, hW6⟩
                have hIf := hIe.on hW6
                clear c0 c1 c2 c3 c4 f1 f0 hId hIe hW6 hX1
                generalize r3.tail = r4 at *
                obtain ⟨c0, c1, c2, c3, c4, f1, f0⟩ := hIf.cells
                go_upto_region 8 with fail
                cases h3 : Pr.term en r4 with
                | inl a =>
                  have hX' : Pr.reckon at_ en r = .inl a := by rw [hX2.out, h3]
                  have hX : Hid _ := hX'
                  clear hX'
                  have HN : Hid (∀ w1, At w1 P L en r4 → _) := fun w1 h => term_no P L en r4 w1 h a h3
                  go_region_dies
                  all_goals (refine Calls.mono (HN.out _ (At.keep hIf.went.2 (fun _ _ => rfl))) ?_)
                  all_goals rintro e y2 ⟨rfl, hg2⟩
                  all_goals exact ⟨rfl, HQ.out _ hX.out _ _ ⟨rfl, gone hIf.went.1 hg2 ⟨rfl, rfl, rfl, Nat.le_refl _, fun _ _ => rfl⟩⟩⟩
                | inr x3 =>
                  obtain ⟨t3, r5⟩ := x3
                  have hX' : Pr.reckon at_ en r = .inr (⟨4, at_, o, [], [t1, t2, t3]⟩, r5) := by rw [hX2.out, h3]
                  have HF : Hid (∀ e w', _ → Q e w') := fun e w' h => HQ.out _ hX' e w' h
                  clear hX' hX2 HQ
                  have HT3 : Hid (∀ w1, At w1 P L en r4 → _) := fun w1 h => term_yes P L en r4 w1 h t3 r5 h3
                  go_cut [] (fun wx => ∃ v, RInv w wx P L en r5 4 at_ o v [t1, t2, t3])
                  case first =>
                    go_region_law (first
                      | (go_simp; go_at_call 53; refine Calls.mono (HT3.out _ (At.keep hIf.went.2 (fun _ _ => rfl))) ?_; rintro e y2 ⟨rfl, hW2⟩; have hI2 := RInv.on2 hIf hW2 ⟨rfl, rfl, rfl, Nat.le_refl _, fun _ _ => rfl⟩; obtain ⟨d0, d1, d2, d3, d4, g1, g0⟩ := hI2.cells; have hsz := hI2.sz; have hsz1 : w.heap.size + 1 < y2.heap.size := hsz; dsimp only)
                      | (refine step_append_lies _ rfl (.tmp 32) (.tmp 35) 37 rfl (w.heap.size + 2) 76 i0 _ 2 24 Tryd.underlying37 hi hz0 hz1 hz2 rfl (by decide) (.slice aod 2 capd) 2 _ ?hs (RInv.below hI2 ((Below.refl _ _).alloc (Nat.le_refl _) _)).own ⟨y2.heap.size, 0, none⟩ 1 1 (termCells t3) ?hx rfl ?hn ?ho ?hm ?h6 ?hb ?hB _ rfl ?_
                         case hs => simp [Act.eval]
                         case hx => simp [Act.eval]
                         case hn => exact news_term _ _
                         case ho => exact one_term _
                         case hm => decide
                         case h6 => decide
                         case hb => decide
                         case hB => (simp; omega)
                         intro g cap y3 hown hgrow hat hlt
                         have hI3 := RInv.put (t := t3) (RInv.below hI2 ((Below.refl _ _).alloc (Nat.le_refl _) _)) hgrow hown
                         obtain ⟨_, _, e4, ef⟩ := RInv.app (RInv.below hI2 ((Below.refl _ _).alloc (Nat.le_refl _) _)) hgrow))
                    all_goals (go_wp2_with fail; go_meet)
                    all_goals exact ⟨_, hI3⟩
                  case rest =>
                    obtain ⟨vg, hIg⟩ := hcut
                    obtain ⟨aog, capg, rfl⟩ := own_slice hIg.own
                    clear c0 c1 c2 c3 c4 f1 f0 hIf
                    obtain ⟨c0, c1, c2, c3, c4, f1, f0⟩ := hIg.cells
                    obtain ⟨x0, x1, x2, x3, x4⟩ := hIg.rcells
                    go_wp2
                    exact bodyPost_ret (v := litVal ⟨4, at_, o, [], [t1, t2, t3]⟩ (.slice aog 3 capg)) (by simp [results, Tryd.results54, go_sem, x0, x1, x2, x3, x4]) rfl (HF.out _ _ ⟨_, rfl, hIg.out _ _ _ _ _⟩)

end Go.Proofs.YtjbfbbhaagkagaaDoor

/- The parser's literals. -/
namespace Go.Proofs.YtjbfbbhaagkagaaDoor
open Go.RowKit

/-- A literal with a name under way: its block is B. -/
structure LInv (w wr : World) (B P : Nat) (L : List Tk.Tok) (en : Int) (r : List Tk.Tok) (k at_ : Int) (nm : List UInt8) : Prop where
  went : Went w wr P L en r
  res : wr.heap[w.heap.size]? = some litZero
  lit : wr.heap[B]? = some (.cells #[.int .i64 k, .int .i64 at_, .int .i64 0, .string ⟨nm.toArray⟩, .slice none 0 0] 42)
  lt : P < w.heap.size
  ltB : w.heap.size < B
theorem LInv.start {w w1 : World} {P : Nat} {L : List Tk.Tok} {en : Int} {r : List Tk.Tok} (hA : At w P L en r) (hb : Below (w.alloc litZero).heap.size (w.alloc litZero) w1) (at_ : Int) :
    LInv w (w1.alloc (.cells #[.int .i64 0, .int .i64 at_, .int .i64 0, .string ⟨#[]⟩, .slice none 0 0] 42)) w1.heap.size P L en r 0 at_ [] where
  went := (Went.behind ((Below.refl _ _).alloc (Nat.le_refl _) _) ⟨grownBy_of_below hb _, (hA.below ((Below.refl _ _).alloc (Nat.le_refl _) _)).below hb⟩).alloc _
  res := by
    have h1 : w1.heap[w.heap.size]? = some litZero := (hb.block _ (by simp)).trans (heap_alloc_new w _)
    exact (((Below.refl _ _).alloc (Nat.le_refl _) _).block _ (heap_lt h1)).trans h1
  lit := heap_alloc_new w1 _
  lt := hA.lt
  ltB := by have := hb.size; simp at this; omega
theorem LInv.on {w wr w' : World} {B P : Nat} {L : List Tk.Tok} {en : Int} {r r' : List Tk.Tok} {k at_ : Int} {nm : List UInt8} (h : LInv w wr B P L en r k at_ nm) (hW : Went wr w' P L en r') : LInv w w' B P L en r' k at_ nm where
  went := Went.trans h.went hW
  res := (hW.1.block _ (heap_lt h.res) (by have := h.lt; intro e; injection e; omega)).trans h.res
  lit := (hW.1.block _ (heap_lt h.lit) (by have := h.lt; have := h.ltB; intro e; injection e; omega)).trans h.lit
  lt := h.lt
  ltB := h.ltB
theorem LInv.below {w wr w' : World} {B P : Nat} {L : List Tk.Tok} {en : Int} {r : List Tk.Tok} {k at_ : Int} {nm : List UInt8} (h : LInv w wr B P L en r k at_ nm) (hb : Below wr.heap.size wr w') : LInv w w' B P L en r k at_ nm :=
  h.on ⟨grownBy_of_below hb _, h.went.2.below hb⟩
theorem LInv.cells {w wr : World} {B P : Nat} {L : List Tk.Tok} {en : Int} {r : List Tk.Tok} {k at_ : Int} {nm : List UInt8} (h : LInv w wr B P L en r k at_ nm) :
    wr.cell? ⟨B, 0, none⟩ = some (.int .i64 k) ∧ wr.cell? ⟨B, 1, none⟩ = some (.int .i64 at_) ∧ wr.cell? ⟨B, 2, none⟩ = some (.int .i64 0) ∧ wr.cell? ⟨B, 3, none⟩ = some (.string ⟨nm.toArray⟩) ∧
      wr.cell? ⟨B, 4, none⟩ = some (.slice none 0 0) ∧ (∀ o, wr.frozen? ⟨B, o, none⟩ = false) ∧ (∀ o, wr.frozen? ⟨w.heap.size, o, none⟩ = false) :=
  ⟨by rw [Lib.cell_of_heap h.lit]; rfl, by rw [Lib.cell_of_heap h.lit]; rfl, by rw [Lib.cell_of_heap h.lit]; rfl, by rw [Lib.cell_of_heap h.lit]; rfl, by rw [Lib.cell_of_heap h.lit]; rfl, fun o => by simp [World.frozen?, h.lit], fun o => by simp [World.frozen?, h.res]⟩
theorem LInv.rcells {w wr : World} {B P : Nat} {L : List Tk.Tok} {en : Int} {r : List Tk.Tok} {k at_ : Int} {nm : List UInt8} (h : LInv w wr B P L en r k at_ nm) :
    wr.cell? ⟨w.heap.size, 0, none⟩ = some (.int .i64 0) ∧ wr.cell? ⟨w.heap.size, 1, none⟩ = some (.int .i64 0) ∧ wr.cell? ⟨w.heap.size, 2, none⟩ = some (.int .i64 0) ∧ wr.cell? ⟨w.heap.size, 3, none⟩ = some (.string ⟨#[]⟩) ∧
      wr.cell? ⟨w.heap.size, 4, none⟩ = some (.slice none 0 0) :=
  ⟨by rw [Lib.cell_of_heap h.res]; rfl, by rw [Lib.cell_of_heap h.res]; rfl, by rw [Lib.cell_of_heap h.res]; rfl, by rw [Lib.cell_of_heap h.res]; rfl, by rw [Lib.cell_of_heap h.res]; rfl⟩
theorem LInv.setKind {w wr : World} {B P : Nat} {L : List Tk.Tok} {en : Int} {r : List Tk.Tok} {k at_ : Int} {nm : List UInt8} (h : LInv w wr B P L en r k at_ nm) (o : Int) : LInv w (wr.setCell ⟨B, 0, none⟩ (.int .i64 o)) B P L en r o at_ nm where
  went := h.went.set h.lt (Nat.le_of_lt h.ltB) _ _
  res := (Below.heap_setCell _ _ _ _ (show ¬ w.heap.size = B by have := h.ltB; omega)).trans h.res
  lit := by
    have := h.lit
    simp [World.setCell, Array.getElem?_modify, this]
  lt := h.lt
  ltB := h.ltB
theorem LInv.setName {w wr : World} {B P : Nat} {L : List Tk.Tok} {en : Int} {r : List Tk.Tok} {k at_ : Int} {nm : List UInt8} (h : LInv w wr B P L en r k at_ nm) (s : List UInt8) : LInv w (wr.setCell ⟨B, 3, none⟩ (.string ⟨s.toArray⟩)) B P L en r k at_ s where
  went := h.went.set h.lt (Nat.le_of_lt h.ltB) _ _
  res := (Below.heap_setCell _ _ _ _ (show ¬ w.heap.size = B by have := h.ltB; omega)).trans h.res
  lit := by
    have := h.lit
    simp [World.setCell, Array.getElem?_modify, this]
  lt := h.lt
  ltB := h.ltB
theorem Went.put5 {w wr : World} {P : Nat} {L : List Tk.Tok} {en : Int} {r : List Tk.Tok} (h : Went w wr P L en r) (hlt : P < w.heap.size) (a b c d e : Value) :
    Went w (((((wr.setCell ⟨w.heap.size, 0, none⟩ a).setCell ⟨w.heap.size, 1, none⟩ b).setCell ⟨w.heap.size, 2, none⟩ c).setCell ⟨w.heap.size, 3, none⟩ d).setCell ⟨w.heap.size, 4, none⟩ e) P L en r :=
  ((((h.set hlt (Nat.le_refl _) _ _).set hlt (Nat.le_refl _) _ _).set hlt (Nat.le_refl _) _ _).set hlt (Nat.le_refl _) _ _).set hlt (Nat.le_refl _) _ _
theorem keeps5 {w wr : World} {B' : Nat} (hB : w.heap.size < B') (E : TypeId → Prop) (a b c d e : Value) :
    Keeps B' wr (((((wr.setCell ⟨w.heap.size, 0, none⟩ a).setCell ⟨w.heap.size, 1, none⟩ b).setCell ⟨w.heap.size, 2, none⟩ c).setCell ⟨w.heap.size, 3, none⟩ d).setCell ⟨w.heap.size, 4, none⟩ e) E :=
  ((((keeps_set E hB _ _).trans (keeps_set E hB _ _)).trans (keeps_set E hB _ _)).trans (keeps_set E hB _ _)).trans (keeps_set E hB _ _)

set_option maxRecDepth 100000 in
set_option maxHeartbeats 4000000 in
theorem lit_reck (P : Nat) (L : List Tk.Tok) (en : Int) (r : List Tk.Tok) (w : World) (hA : At w P L en r) (h1 : Pr.isText en r [110, 111, 116] = false) (h2 : ((Pr.hd en r).kind == 1) = false) :
    Calls Tryd.prog 36 #[.pointer (some ⟨P, 0, none⟩)] w (LitEnd P L en w (Pr.lit en r)) := by
  have hX : Pr.lit en r = Pr.reckon (Pr.hd en r).at_ en r := by simp [Pr.lit, h1, h2]
  rw [hX]
  have hpk : Hid _ := peekAt P L en r w hA
  have HR : Hid (∀ at_ w1, At w1 P L en r → Calls Tryd.prog 54 #[.pointer (some ⟨P, 0, none⟩), .int .i64 at_] w1 (LitEnd P L en w1 (Pr.reckon at_ en r))) := fun at_ w1 h => reckon_any at_ P L en r w1 h
  generalize Pr.hd en r = x at *
  generalize hY : Pr.reckon x.at_ en r = Y
  go_enter Tryd.func36, Tryd.ntmps36
  go_wp2_with fail
  refine Calls.mono (hpk.out _ ((Below.refl _ _).alloc (Nat.le_refl _) _)) ?_
  rintro e w1 ⟨rfl, hb0⟩
  have hI := LInv.start hA hb0 x.at_
  go_wp2_with fail
  simp only [fld1]
  go_wp2_with fail
  refine (take_no [110, 111, 116] P L en r _ hI.went.2 h1).mono ?_
  rintro e w2 ⟨rfl, hb2⟩
  have hI2 := hI.below hb2
  have hlt2 := hI2.ltB
  obtain ⟨c0, c1, c2, c3, c4, f1, f0⟩ := hI2.cells
  go_wp2_with fail
  have hbw : Below w.heap.size w w2 := ((((Below.refl _ _).alloc (Nat.le_refl _) _).trans (hb0.mono (by simp))).alloc (by have := hb0.size; simp at this; omega) _).trans (hb2.mono (by have := hb0.size; simp at this; simp; omega))
  refine Calls.mono (hpk.out _ hbw) ?_
  rintro e w3 ⟨rfl, hb3⟩
  have hI3 := hI2.below hb3
  obtain ⟨c0, c1, c2, c3, c4, f1, f0⟩ := hI3.cells
  clear hpk hI hI2
  go_wp2_with fail
  simp only [fld0]
  go_wp2_with fail
  refine Calls.mono (HR.out _ _ hI3.went.2) ?_
  rw [hY]
  have hlt := hI3.lt
  cases Y with
  | inl a =>
    rintro e w4 ⟨rfl, hg4⟩
    exact ⟨rfl, rfl, grownBy_trans hI3.went.1 hg4⟩
  | inr y =>
    rintro e w4 ⟨v, rfl, hT, hW4⟩
    have hI4 := hI3.on hW4
    have hsz : w.heap.size < w3.heap.size := heap_lt hI3.res
    obtain ⟨x0, x1, x2, x3, x4⟩ := hI4.rcells
    obtain ⟨c0, c1, c2, c3, c4, f1, f0⟩ := hI4.cells
    obtain ⟨ao, cap, hv, hT'⟩ := hT
    have hT := (show TermsP w3.heap.size w4 v y.1.terms from ⟨ao, cap, hv, hT'⟩)
    subst hv
    go_wp2
    exact bodyPost_ret (v := litVal y.1 _) (by simp [results, Tryd.results36, go_sem, x0, x1, x2, x3, x4]) rfl ⟨_, rfl, (hT.keep (keeps5 hsz _ _ _ _ _ _)).mono (Nat.le_of_lt hsz), hI4.went.put5 hlt _ _ _ _ _⟩

end Go.Proofs.YtjbfbbhaagkagaaDoor

/- The parser's literals with a name. -/
namespace Go.Proofs.YtjbfbbhaagkagaaDoor
open Go.RowKit

set_option maxRecDepth 100000 in
set_option maxHeartbeats 4000000 in
theorem lit_not (P : Nat) (L : List Tk.Tok) (en : Int) (r : List Tk.Tok) (w : World) (hA : At w P L en r) (h1 : Pr.isText en r [110, 111, 116] = true) :
    Calls Tryd.prog 36 #[.pointer (some ⟨P, 0, none⟩)] w (LitEnd P L en w (Pr.lit en r)) := by
  have hX : Pr.lit en r = Pr.atom 2 (Pr.hd en r).at_ en r.tail := by simp [Pr.lit, h1]
  have HQ : Hid (∀ X, Pr.atom 2 (Pr.hd en r).at_ en r.tail = X → ∀ e w', LitEnd P L en w X e w' → LitEnd P L en w (Pr.lit en r) e w') := by rintro X rfl e w' h; rw [hX]; exact h
  generalize LitEnd P L en w (Pr.lit en r) = Q at HQ ⊢
  clear hX
  have hpk : Hid _ := peekAt P L en r w hA
  have HM : Hid (∀ w1, At w1 P L en r → _) := fun w1 h => take_yes [110, 111, 116] P L en r w1 h (by simp) h1
  generalize Pr.hd en r = x at *
  generalize r.tail = r0 at *
  go_enter Tryd.func36, Tryd.ntmps36
  go_wp2_with fail
  refine Calls.mono (hpk.out _ ((Below.refl _ _).alloc (Nat.le_refl _) _)) ?_
  rintro e w1 ⟨rfl, hb0⟩
  have hI := LInv.start hA hb0 x.at_
  go_wp2_with fail
  simp only [fld1]
  go_wp2_with fail
  refine Calls.mono (HM.out _ hI.went.2) ?_
  rintro e w2 ⟨rfl, hW2⟩
  have hI2 := hI.on hW2
  obtain ⟨c0, c1, c2, c3, c4, f1, f0⟩ := hI2.cells
  have hI3 := hI2.setKind 2
  clear hI hpk HM hb0 hA h1
  cases hn : (((Pr.hd en r0).kind == 1) && !Tr.isWord (Pr.hd en r0).text)
  · have hN : Pr.name en r0 = .inl (Pr.hd en r0).at_ := by unfold Pr.name; rw [hn]; rfl
    have HF : Hid (∀ e w', LitEnd P L en w (.inl (Pr.hd en r0).at_) e w' → Q e w') := fun e w' h => HQ.out _ (by simp only [Pr.atom, hN]) e w' h
    go_wp2_with fail
    refine (name_no P L en r0 _ hI3.went.2 hn).mono ?_
    rintro e w5 ⟨rfl, hb5⟩
    exact ⟨rfl, HF.out _ _ ⟨rfl, ground hI3.went.1 hb5⟩⟩
  · have hN : Pr.name en r0 = .inr ((Pr.hd en r0).text, r0.tail) := by unfold Pr.name; rw [hn]; rfl
    have HN : Hid (∀ w1, At w1 P L en r0 → _) := fun w1 h => name_yes P L en r0 w1 h hn
    have HA : Hid (∀ X, (match Pr.terms false en r0.tail with
        | .inl a => Sum.inl a
        | .inr y => .inr ((⟨2, x.at_, 0, (Pr.hd en r0).text, y.1.1⟩ : Tr.Lit), y.2)) = X → ∀ e w', LitEnd P L en w X e w' → Q e w') := by
      intro X hX e w' h
      refine HQ.out X ?_ e w' h
      rw [← hX]
      simp only [Pr.atom, hN]
      cases Pr.terms false en r0.tail <;> rfl
    have HT : Hid (∀ w1, At w1 P L en r0.tail → _) := fun w1 h => terms_any false P L en r0.tail w1 h
    unfold TermsEnd at HT
    generalize (Pr.hd en r0).text = nm at *
    clear hN hn HQ
    go_wp2_with fail
    refine Calls.mono (HN.out _ hI3.went.2) ?_
    rintro e w5 ⟨rfl, hW5⟩
    have hI5 := hI3.on hW5
    have hI6 := hI5.setName nm
    obtain ⟨c0, c1, c2, c3, c4, f1, f0⟩ := hI5.cells
    go_wp2_with fail
    refine Calls.mono (HT.out _ hI6.went.2) ?_
    have hlt := hI6.lt
    have hltB := hI6.ltB
    have hltB' : w1.heap.size < (w5.setCell ⟨w1.heap.size, 3, none⟩ (.string ⟨nm.toArray⟩)).heap.size := heap_lt hI6.lit
    generalize w5.setCell ⟨w1.heap.size, 3, none⟩ (.string ⟨nm.toArray⟩) = w6 at *
    clear c0 c1 c2 c3 c4 f1 f0 hI5 hW5 HN HT
    cases hY : Pr.terms false en r0.tail with
    | inl a =>
      have HF : Hid (∀ e w', LitEnd P L en w (.inl a) e w' → Q e w') := fun e w' h => HA.out _ (by rw [hY]) e w' h
      rintro e w7 ⟨rfl, hg7⟩
      exact ⟨rfl, HF.out _ _ ⟨rfl, grownBy_trans hI6.went.1 hg7⟩⟩
    | inr y =>
      have HF : Hid (∀ e w', LitEnd P L en w (.inr (⟨2, x.at_, 0, nm, y.1.1⟩, y.2)) e w' → Q e w') := fun e w' h => HA.out _ (by rw [hY]) e w' h
      clear HA
      rintro e w7 ⟨v, rfl, hT, hW7⟩
      have hI7 := hI6.on hW7
      obtain ⟨x0, x1, x2, x3, x4⟩ := hI7.rcells
      obtain ⟨c0, c1, c2, c3, c4, f1, f0⟩ := hI7.cells
      obtain ⟨ao, cap, hv, hT'⟩ := hT
      have hT := (show TermsP w6.heap.size w7 v y.1.1 from ⟨ao, cap, hv, hT'⟩)
      subst hv
      go_wp2
      exact bodyPost_ret (v := litVal ⟨2, x.at_, 0, nm, y.1.1⟩ _) (by simp [results, Tryd.results36, go_sem, x0, x1, x2, x3, x4]) rfl (HF.out _ _ ⟨_, rfl, (((hT.keep (keeps_set _ hltB' _ _)).keep (keeps5 (Nat.lt_trans hltB hltB') _ _ _ _ _ _)).mono (Nat.le_of_lt (Nat.lt_trans hltB hltB'))), (hI7.went.set hlt (Nat.le_of_lt hltB) _ _).put5 hlt _ _ _ _ _⟩)

set_option maxRecDepth 100000 in
set_option maxHeartbeats 4000000 in
theorem lit_yes (P : Nat) (L : List Tk.Tok) (en : Int) (r : List Tk.Tok) (w : World) (hA : At w P L en r) (h1 : Pr.isText en r [110, 111, 116] = false) (h2 : ((Pr.hd en r).kind == 1) = true) :
    Calls Tryd.prog 36 #[.pointer (some ⟨P, 0, none⟩)] w (LitEnd P L en w (Pr.lit en r)) := by
  have hX : Pr.lit en r = Pr.atom 1 (Pr.hd en r).at_ en r := by simp [Pr.lit, h1, h2]
  have HQ : Hid (∀ X, Pr.atom 1 (Pr.hd en r).at_ en r = X → ∀ e w', LitEnd P L en w X e w' → LitEnd P L en w (Pr.lit en r) e w') := by rintro X rfl e w' h; rw [hX]; exact h
  generalize LitEnd P L en w (Pr.lit en r) = Q at HQ ⊢
  clear hX
  have hpk : Hid _ := peekAt P L en r w hA
  have HM : Hid (∀ w1, At w1 P L en r → _) := fun w1 h => take_no [110, 111, 116] P L en r w1 h h1
  generalize hx : Pr.hd en r = x at HQ hpk h2
  have HX : Hid (Pr.hd en r = x) := hx
  clear hx
  go_enter Tryd.func36, Tryd.ntmps36
  go_wp2_with fail
  refine Calls.mono (hpk.out _ ((Below.refl _ _).alloc (Nat.le_refl _) _)) ?_
  rintro e w1 ⟨rfl, hb0⟩
  have hI := LInv.start hA hb0 x.at_
  go_wp2_with fail
  simp only [fld1]
  go_wp2_with fail
  refine Calls.mono (HM.out _ hI.went.2) ?_
  rintro e w2 ⟨rfl, hb2⟩
  have hI2 := hI.below hb2
  go_wp2_with fail
  have hbw : Below w.heap.size w w2 := ((((Below.refl _ _).alloc (Nat.le_refl _) _).trans (hb0.mono (by simp))).alloc (by have := hb0.size; simp at this; omega) _).trans (hb2.mono (by have := hb0.size; simp at this; simp; omega))
  refine Calls.mono (hpk.out _ hbw) ?_
  rintro e w3 ⟨rfl, hb3⟩
  have hI3 := hI2.below hb3
  obtain ⟨c0, c1, c2, c3, c4, f1, f0⟩ := hI3.cells
  have hI4 := hI3.setKind 1
  clear hI hI2 hpk HM hb0 hA h1 hb2 hbw
  go_wp2_with fail
  simp only [fld0]
  cases hn : (((Pr.hd en r).kind == 1) && !Tr.isWord (Pr.hd en r).text)
  · have hN : Pr.name en r = .inl (Pr.hd en r).at_ := by unfold Pr.name; rw [hn]; rfl
    have HF : Hid (∀ e w', LitEnd P L en w (.inl (Pr.hd en r).at_) e w' → Q e w') := fun e w' h => HQ.out _ (by simp only [Pr.atom, hN]) e w' h
    go_wp2_with fail
    refine (name_no P L en r _ hI4.went.2 hn).mono ?_
    rintro e w5 ⟨rfl, hb5⟩
    exact ⟨rfl, HF.out _ _ ⟨rfl, ground hI4.went.1 hb5⟩⟩
  · have hN : Pr.name en r = .inr ((Pr.hd en r).text, r.tail) := by unfold Pr.name; rw [hn]; rfl
    have HN : Hid (∀ w1, At w1 P L en r → _) := fun w1 h => name_yes P L en r w1 h hn
    have HA : Hid (∀ X, (match Pr.terms false en r.tail with
        | .inl a => Sum.inl a
        | .inr y => .inr ((⟨1, x.at_, 0, (Pr.hd en r).text, y.1.1⟩ : Tr.Lit), y.2)) = X → ∀ e w', LitEnd P L en w X e w' → Q e w') := by
      intro X hX e w' h
      refine HQ.out X ?_ e w' h
      rw [← hX]
      simp only [Pr.atom, hN]
      cases Pr.terms false en r.tail <;> rfl
    have HT : Hid (∀ w1, At w1 P L en r.tail → _) := fun w1 h => terms_any false P L en r.tail w1 h
    unfold TermsEnd at HT
    generalize (Pr.hd en r).text = nm at *
    clear hN hn HQ
    go_wp2_with fail
    refine Calls.mono (HN.out _ hI4.went.2) ?_
    rintro e w5 ⟨rfl, hW5⟩
    have hI5 := hI4.on hW5
    have hI6 := hI5.setName nm
    obtain ⟨c0, c1, c2, c3, c4, f1, f0⟩ := hI5.cells
    go_wp2_with fail
    refine Calls.mono (HT.out _ hI6.went.2) ?_
    have hlt := hI6.lt
    have hltB := hI6.ltB
    have hltB' : w1.heap.size < (w5.setCell ⟨w1.heap.size, 3, none⟩ (.string ⟨nm.toArray⟩)).heap.size := heap_lt hI6.lit
    generalize w5.setCell ⟨w1.heap.size, 3, none⟩ (.string ⟨nm.toArray⟩) = w6 at *
    clear c0 c1 c2 c3 c4 f1 f0 hI5 hW5 HN HT
    cases hY : Pr.terms false en r.tail with
    | inl a =>
      have HF : Hid (∀ e w', LitEnd P L en w (.inl a) e w' → Q e w') := fun e w' h => HA.out _ (by rw [hY]) e w' h
      rintro e w7 ⟨rfl, hg7⟩
      exact ⟨rfl, HF.out _ _ ⟨rfl, grownBy_trans hI6.went.1 hg7⟩⟩
    | inr y =>
      have HF : Hid (∀ e w', LitEnd P L en w (.inr (⟨1, x.at_, 0, nm, y.1.1⟩, y.2)) e w' → Q e w') := fun e w' h => HA.out _ (by rw [hY]) e w' h
      clear HA
      rintro e w7 ⟨v, rfl, hT, hW7⟩
      have hI7 := hI6.on hW7
      obtain ⟨x0, x1, x2, x3, x4⟩ := hI7.rcells
      obtain ⟨c0, c1, c2, c3, c4, f1, f0⟩ := hI7.cells
      obtain ⟨ao, cap, hv, hT'⟩ := hT
      have hT := (show TermsP w6.heap.size w7 v y.1.1 from ⟨ao, cap, hv, hT'⟩)
      subst hv
      go_wp2
      exact bodyPost_ret (v := litVal ⟨1, x.at_, 0, nm, y.1.1⟩ _) (by simp [results, Tryd.results36, go_sem, x0, x1, x2, x3, x4]) rfl (HF.out _ _ ⟨_, rfl, (((hT.keep (keeps_set _ hltB' _ _)).keep (keeps5 (Nat.lt_trans hltB hltB') _ _ _ _ _ _)).mono (Nat.le_of_lt (Nat.lt_trans hltB hltB'))), (hI7.went.set hlt (Nat.le_of_lt hltB) _ _).put5 hlt _ _ _ _ _⟩)

theorem lit_any (P : Nat) (L : List Tk.Tok) (en : Int) (r : List Tk.Tok) (w : World) (hA : At w P L en r) :
    Calls Tryd.prog 36 #[.pointer (some ⟨P, 0, none⟩)] w (LitEnd P L en w (Pr.lit en r)) := by
  cases h1 : Pr.isText en r [110, 111, 116]
  · cases h2 : ((Pr.hd en r).kind == 1)
    · exact lit_reck P L en r w hA h1 h2
    · exact lit_yes P L en r w hA h1 h2
  · exact lit_not P L en r w hA h1

end Go.Proofs.YtjbfbbhaagkagaaDoor

/- What is parsed is shorter behind. -/
namespace Go.Proofs.YtjbfbbhaagkagaaDoor
open Go.RowKit

theorem name_len {en : Int} {r : List Tk.Tok} {x : List UInt8 × List Tk.Tok} (h : Pr.name en r = .inr x) : x.2.length < r.length := by
  unfold Pr.name at h
  cases hk : (((Pr.hd en r).kind == 1) && !Tr.isWord (Pr.hd en r).text)
  · rw [hk] at h; simp at h
  · rw [hk] at h
    simp only [if_true, Sum.inr.injEq] at h
    subst h
    exact kind_len (en := en) (k := 1) (by decide) (by revert hk; cases ((Pr.hd en r).kind == 1) <;> simp)
theorem op_len {en : Int} {r : List Tk.Tok} {x : Int × List Tk.Tok} (h : Pr.op en r = .inr x) : x.2.length < r.length := by
  unfold Pr.op at h
  cases r with
  | nil => simp [Pr.hd, Pr.opOf] at h
  | cons a r =>
    split at h
    · simp only [Sum.inr.injEq] at h; subst h; simp
    · simp at h
theorem more_len (may : Bool) (en : Int) : ∀ (f : Nat) (acc : List Tr.Term) (r : List Tk.Tok) (x : (List Tr.Term × Int) × List Tk.Tok), Pr.more may en f acc r = .inr x → x.2.length < r.length := by
  intro f
  induction f with
  | zero => intro acc r x h; simp [Pr.more] at h
  | succ f ih =>
    intro acc r x h
    cases hT : Pr.term en (Pr.foldMay may en r).2 with
    | inl a => simp [Pr.more, hT] at h
    | inr y =>
      have hl := Nat.lt_of_lt_of_le (term_len hT) (fold_len may en r)
      rw [more_step may en f acc r y.1 y.2 (by rw [hT])] at h
      split at h
      · have := ih _ _ _ h
        have h2 : y.2.tail.length ≤ y.2.length := by simp
        omega
      · simp only [Sum.inr.injEq] at h
        subst h
        exact hl
theorem terms_len {may : Bool} {en : Int} {r : List Tk.Tok} {x : (List Tr.Term × Int) × List Tk.Tok} (h : Pr.terms may en r = .inr x) : x.2.length < r.length := by
  unfold Pr.terms at h
  cases hm : Pr.must [40] en r with
  | inl a => rw [hm] at h; simp at h
  | inr r1 =>
    rw [hm] at h
    have h1 := must_len (by simp) hm
    simp only at h
    unfold Pr.inside at h
    split at h
    · simp only [Sum.inr.injEq] at h
      subst h
      have : r1.tail.length ≤ r1.length := by simp
      exact Nat.lt_of_le_of_lt this h1
    · cases hM : Pr.more may en (r1.length + 1) [] r1 with
      | inl a => rw [hM] at h; simp at h
      | inr y =>
        rw [hM] at h
        have h2 := more_len _ _ _ _ _ _ hM
        simp only at h
        cases hm2 : Pr.must [41] en y.2 with
        | inl a => rw [hm2] at h; simp at h
        | inr r3 =>
          rw [hm2] at h
          have h3 := must_len (by simp) hm2
          simp only [Sum.inr.injEq] at h
          subst h
          show r3.length < r.length
          omega
theorem atom_len {k at_ en : Int} {r : List Tk.Tok} {x : Tr.Lit × List Tk.Tok} (h : Pr.atom k at_ en r = .inr x) : x.2.length < r.length := by
  unfold Pr.atom at h
  cases hn : Pr.name en r with
  | inl a => rw [hn] at h; simp at h
  | inr y =>
    rw [hn] at h
    have h1 := name_len hn
    simp only at h
    cases ht : Pr.terms false en y.2 with
    | inl a => rw [ht] at h; simp at h
    | inr z =>
      rw [ht] at h
      have h2 := terms_len ht
      simp only [Sum.inr.injEq] at h
      subst h
      show z.2.length < r.length
      omega
theorem reckon_len {at_ en : Int} {r : List Tk.Tok} {x : Tr.Lit × List Tk.Tok} (h : Pr.reckon at_ en r = .inr x) : x.2.length < r.length := by
  unfold Pr.reckon at h
  cases h1 : Pr.term en r with
  | inl a => rw [h1] at h; simp at h
  | inr a =>
    rw [h1] at h
    have l1 := term_len h1
    simp only at h
    cases h2 : Pr.op en a.2 with
    | inl a => rw [h2] at h; simp at h
    | inr o =>
      rw [h2] at h
      have l2 := op_len h2
      simp only at h
      cases h3 : Pr.term en o.2 with
      | inl a => rw [h3] at h; simp at h
      | inr b =>
        rw [h3] at h
        have l3 := term_len h3
        simp only at h
        split at h
        · unfold Pr.calcLit at h
          cases h4 : Pr.must [61] en b.2 with
          | inl a => rw [h4] at h; simp at h
          | inr r4 =>
            rw [h4] at h
            have l4 := must_len (by simp) h4
            simp only at h
            cases h5 : Pr.term en r4 with
            | inl a => rw [h5] at h; simp at h
            | inr z =>
              rw [h5] at h
              have l5 := term_len h5
              simp only [Sum.inr.injEq] at h
              subst h
              show z.2.length < r.length
              omega
        · simp only [Sum.inr.injEq] at h
          subst h
          show b.2.length < r.length
          omega
theorem lit_len {en : Int} {r : List Tk.Tok} {x : Tr.Lit × List Tk.Tok} (h : Pr.lit en r = .inr x) : x.2.length < r.length := by
  unfold Pr.lit at h
  split at h
  · have := atom_len h
    have h2 : r.tail.length ≤ r.length := by simp
    omega
  · split at h
    · exact atom_len h
    · exact reckon_len h

/-- Behind a literal of a body. -/
def Pr.after (en : Int) (f : Nat) (acc : List Tr.Lit) (r : List Tk.Tok) : Int ⊕ (List Tr.Lit × List Tk.Tok) := if Pr.isText en r [44] then Pr.lits en f acc r.tail else .inr (acc, r)
theorem lits_yes {en : Int} {f : Nat} {acc : List Tr.Lit} {r : List Tk.Tok} {x : Tr.Lit × List Tk.Tok} (h : Pr.lit en r = .inr x) : Pr.lits en (f + 1) acc r = Pr.after en f (acc ++ [x.1]) x.2 := by
  rw [Pr.lits, h]; rfl
theorem lits_no {en : Int} {f : Nat} {acc : List Tr.Lit} {r : List Tk.Tok} {a : Int} (h : Pr.lit en r = .inl a) : Pr.lits en (f + 1) acc r = .inl a := by
  rw [Pr.lits, h]

/-- A rule under way: its block is B. -/
abbrev ruleZero : Obj := .cells #[.int .i64 0, .string ⟨#[]⟩, .slice none 0 0, .int .i64 0, .slice none 0 0] 40
structure UInv (w wr : World) (B P : Nat) (L : List Tk.Tok) (en : Int) (r : List Tk.Tok) (at_ : Int) (nm : List UInt8) (tv : Value) (ts : List Tr.Term) (fo : Int) (bv : Value) (q : List (Tr.Lit × Value)) : Prop where
  went : Went w wr P L en r
  res : wr.heap[w.heap.size]? = some ruleZero
  rul : wr.heap[B]? = some (.cells #[.int .i64 at_, .string ⟨nm.toArray⟩, tv, .int .i64 fo, bv] 40)
  trm : TermsP (B + 1) wr tv ts
  own : wr.ownsRow (B + 1) 42 5 bv q.length (q.map litCells).flatten
  lts : ∀ p, p ∈ q → TermsP (B + 1) wr p.2 p.1.terms
  lt : P < w.heap.size
  ltB : w.heap.size < B

section
variable {w wr w' : World} {B P : Nat} {L : List Tk.Tok} {en : Int} {r r' : List Tk.Tok} {at_ : Int} {nm : List UInt8} {tv : Value} {ts : List Tr.Term} {fo : Int} {bv : Value} {q : List (Tr.Lit × Value)}
theorem UInv.start {w1 : World} (hA : At w P L en r) (hb : Below (w.alloc ruleZero).heap.size (w.alloc ruleZero) w1) (at_ : Int) :
    UInv w (w1.alloc (.cells #[.int .i64 at_, .string ⟨#[]⟩, .slice none 0 0, .int .i64 0, .slice none 0 0] 40)) w1.heap.size P L en r at_ [] (.slice none 0 0) [] 0 (.slice none 0 0) [] where
  went := (Went.behind ((Below.refl _ _).alloc (Nat.le_refl _) _) ⟨grownBy_of_below hb _, (hA.below ((Below.refl _ _).alloc (Nat.le_refl _) _)).below hb⟩).alloc _
  res := by
    have h1 : w1.heap[w.heap.size]? = some ruleZero := (hb.block _ (by simp)).trans (heap_alloc_new w _)
    exact (((Below.refl _ _).alloc (Nat.le_refl _) _).block _ (heap_lt h1)).trans h1
  rul := heap_alloc_new w1 _
  trm := ⟨none, 0, rfl, .inl rfl⟩
  own := World.ownsRow_nil _ _ _ _
  lts := fun p hp => absurd hp (by simp)
  lt := hA.lt
  ltB := by have := hb.size; simp at this; omega
theorem UInv.on (h : UInv w wr B P L en r at_ nm tv ts fo bv q) (hW : Went wr w' P L en r') : UInv w w' B P L en r' at_ nm tv ts fo bv q := by
  have h1 := h.lt
  have h2 := h.ltB
  exact { went := Went.trans h.went hW
          res := (hW.1.block _ (heap_lt h.res) (by intro e; injection e; omega)).trans h.res
          rul := (hW.1.block _ (heap_lt h.rul) (by intro e; injection e; omega)).trans h.rul
          trm := h.trm.keep (keeps_grown _ hW.1 (by omega))
          own := ownsRow_grown h.own hW.1 (by omega)
          lts := fun p hp => (h.lts p hp).keep (keeps_grown _ hW.1 (by omega))
          lt := h1
          ltB := h2 }
theorem UInv.below (h : UInv w wr B P L en r at_ nm tv ts fo bv q) (hb : Below wr.heap.size wr w') : UInv w w' B P L en r at_ nm tv ts fo bv q := h.on ⟨grownBy_of_below hb _, h.went.2.below hb⟩
theorem UInv.on2 {wr' : World} (h : UInv w wr B P L en r at_ nm tv ts fo bv q) (hW : Went wr' w' P L en r') (hb : Below wr.heap.size wr wr') : UInv w w' B P L en r' at_ nm tv ts fo bv q := (h.below hb).on hW
theorem UInv.sz (h : UInv w wr B P L en r at_ nm tv ts fo bv q) : B < wr.heap.size := heap_lt h.rul
theorem UInv.cells (h : UInv w wr B P L en r at_ nm tv ts fo bv q) :
    wr.cell? ⟨B, 0, none⟩ = some (.int .i64 at_) ∧ wr.cell? ⟨B, 1, none⟩ = some (.string ⟨nm.toArray⟩) ∧ wr.cell? ⟨B, 2, none⟩ = some tv ∧ wr.cell? ⟨B, 3, none⟩ = some (.int .i64 fo) ∧
      wr.cell? ⟨B, 4, none⟩ = some bv ∧ (∀ o, wr.frozen? ⟨B, o, none⟩ = false) ∧ (∀ o, wr.frozen? ⟨w.heap.size, o, none⟩ = false) :=
  ⟨by rw [Lib.cell_of_heap h.rul]; rfl, by rw [Lib.cell_of_heap h.rul]; rfl, by rw [Lib.cell_of_heap h.rul]; rfl, by rw [Lib.cell_of_heap h.rul]; rfl, by rw [Lib.cell_of_heap h.rul]; rfl, fun o => by simp [World.frozen?, h.rul], fun o => by simp [World.frozen?, h.res]⟩
theorem UInv.rcells (h : UInv w wr B P L en r at_ nm tv ts fo bv q) :
    wr.cell? ⟨w.heap.size, 0, none⟩ = some (.int .i64 0) ∧ wr.cell? ⟨w.heap.size, 1, none⟩ = some (.string ⟨#[]⟩) ∧ wr.cell? ⟨w.heap.size, 2, none⟩ = some (.slice none 0 0) ∧ wr.cell? ⟨w.heap.size, 3, none⟩ = some (.int .i64 0) ∧
      wr.cell? ⟨w.heap.size, 4, none⟩ = some (.slice none 0 0) :=
  ⟨by rw [Lib.cell_of_heap h.res]; rfl, by rw [Lib.cell_of_heap h.res]; rfl, by rw [Lib.cell_of_heap h.res]; rfl, by rw [Lib.cell_of_heap h.res]; rfl, by rw [Lib.cell_of_heap h.res]; rfl⟩
theorem UInv.setName (h : UInv w wr B P L en r at_ nm tv ts fo bv q) (s : List UInt8) : UInv w (wr.setCell ⟨B, 1, none⟩ (.string ⟨s.toArray⟩)) B P L en r at_ s tv ts fo bv q where
  went := h.went.set h.lt (Nat.le_of_lt h.ltB) _ _
  res := (Below.heap_setCell _ _ _ _ (show ¬ w.heap.size = B by have := h.ltB; omega)).trans h.res
  rul := by
    have := h.rul
    simp [World.setCell, Array.getElem?_modify, this]
  trm := h.trm.keep (keeps_set _ (by omega) _ _)
  own := ownsRow_setCell_below h.own (by simp) _
  lts := fun p hp => (h.lts p hp).keep (keeps_set _ (by omega) _ _)
  lt := h.lt
  ltB := h.ltB
theorem UInv.setTerms (h : UInv w wr B P L en r at_ nm tv ts fo bv q) {v : Value} {l : List Tr.Term} (hT : TermsP (B + 1) wr v l) (f : Int) : UInv w ((wr.setCell ⟨B, 2, none⟩ v).setCell ⟨B, 3, none⟩ (.int .i64 f)) B P L en r at_ nm v l f bv q where
  went := (h.went.set h.lt (Nat.le_of_lt h.ltB) _ _).set h.lt (Nat.le_of_lt h.ltB) _ _
  res := (Below.heap_setCell _ _ _ _ (show ¬ w.heap.size = B by have := h.ltB; omega)).trans ((Below.heap_setCell _ _ _ _ (show ¬ w.heap.size = B by have := h.ltB; omega)).trans h.res)
  rul := by
    have := h.rul
    simp [World.setCell, Array.getElem?_modify, this]
  trm := (hT.keep (keeps_set _ (by omega) _ _)).keep (keeps_set _ (by omega) _ _)
  own := ownsRow_setCell_below (ownsRow_setCell_below h.own (by simp) _) (by simp) _
  lts := fun p hp => ((h.lts p hp).keep (keeps_set _ (by omega) _ _)).keep (keeps_set _ (by omega) _ _)
  lt := h.lt
  ltB := h.ltB
theorem UInv.app {w3 : World} (h : UInv w wr B P L en r at_ nm tv ts fo bv q) (hg : wr.grownBy w3 bv.ownBlock) :
    w3.heap[w.heap.size]? = some ruleZero ∧ w3.heap[B]? = some (.cells #[.int .i64 at_, .string ⟨nm.toArray⟩, tv, .int .i64 fo, bv] 40) ∧ w3.cell? ⟨B, 4, none⟩ = some bv ∧ w3.frozen? ⟨B, 4, none⟩ = false := by
  have hB := h.ltB
  have hne : ∀ i, i < B + 1 → some i ≠ bv.ownBlock := fun i hi he => by have := (h.own.lt i he.symm).1; omega
  have e1 := (hg.block _ (heap_lt h.res) (hne _ (by omega))).trans h.res
  have e2 := (hg.block _ (heap_lt h.rul) (hne _ (by omega))).trans h.rul
  exact ⟨e1, e2, by rw [Lib.cell_of_heap e2]; rfl, by simp [World.frozen?, e2]⟩
theorem UInv.put {w3 : World} {bv' : Value} {p : Tr.Lit × Value} (h : UInv w wr B P L en r at_ nm tv ts fo bv q) (hg : wr.grownBy w3 bv.ownBlock) (hT : TermsP (B + 1) wr p.2 p.1.terms)
    (hown : w3.ownsRow (B + 1) 42 5 bv' (q.length + 1) ((q.map litCells).flatten ++ litCells p)) : UInv w (w3.setCell ⟨B, 4, none⟩ bv') B P L en r at_ nm tv ts fo bv' (q ++ [p]) := by
  have hB := h.ltB
  have hk : Keeps (B + 1) wr w3 (· = 76) := keeps_own hg h.own (by decide)
  exact { went := (Went.own h.went hg h.own (by omega) h.lt).set h.lt (by omega) _ _
          res := (Below.heap_setCell _ _ _ _ (show ¬ w.heap.size = B by omega)).trans (h.app hg).1
          rul := by
            have := (h.app hg).2.1
            simp [World.setCell, Array.getElem?_modify, this]
          trm := (h.trm.keep hk).keep (keeps_set _ (by omega) _ _)
          own := ownsRow_setCell_below (by simpa using hown) (by simp) _
          lts := by
            intro p' hp'
            rw [List.mem_append, List.mem_singleton] at hp'
            rcases hp' with hp' | rfl
            · exact ((h.lts p' hp').keep hk).keep (keeps_set _ (by omega) _ _)
            · exact (hT.keep hk).keep (keeps_set _ (by omega) _ _)
          lt := h.lt
          ltB := hB }
end

end Go.Proofs.YtjbfbbhaagkagaaDoor

/- The parser's rules. -/
namespace Go.Proofs.YtjbfbbhaagkagaaDoor
open Go.RowKit

/-- What rule leaves. -/
def RuleEnd (P : Nat) (L : List Tk.Tok) (en : Int) (w : World) (x : Int ⊕ (Tr.Rule × List Tk.Tok)) (e : Ending) (w' : World) : Prop := match x with
  | .inl a => e = gaveP a ∧ w.grownBy w' (some P)
  | .inr x => ∃ v u, e = .returned (ruleVal x.1 v u) ∧ TermsP w.heap.size w' v x.1.terms ∧ LitsP w.heap.size w' u x.1.body ∧ Went w w' P L en x.2

theorem UInv.out {w wr : World} {B P : Nat} {L : List Tk.Tok} {en : Int} {r : List Tk.Tok} {at_ : Int} {nm : List UInt8} {tv : Value} {ts : List Tr.Term} {fo : Int} {bv : Value} {q : List (Tr.Lit × Value)} (h : UInv w wr B P L en r at_ nm tv ts fo bv q) (a b c d e : Value) :
    TermsP w.heap.size (((((wr.setCell ⟨w.heap.size, 0, none⟩ a).setCell ⟨w.heap.size, 1, none⟩ b).setCell ⟨w.heap.size, 2, none⟩ c).setCell ⟨w.heap.size, 3, none⟩ d).setCell ⟨w.heap.size, 4, none⟩ e) tv ts ∧
      LitsP w.heap.size (((((wr.setCell ⟨w.heap.size, 0, none⟩ a).setCell ⟨w.heap.size, 1, none⟩ b).setCell ⟨w.heap.size, 2, none⟩ c).setCell ⟨w.heap.size, 3, none⟩ d).setCell ⟨w.heap.size, 4, none⟩ e) bv (q.map (·.1)) ∧
      Went w (((((wr.setCell ⟨w.heap.size, 0, none⟩ a).setCell ⟨w.heap.size, 1, none⟩ b).setCell ⟨w.heap.size, 2, none⟩ c).setCell ⟨w.heap.size, 3, none⟩ d).setCell ⟨w.heap.size, 4, none⟩ e) P L en r := by
  have hB := h.ltB
  have h0 : LitsP (B + 1) wr bv (q.map (·.1)) := ⟨q, rfl, rowP_own (by intro c hc; simp at hc; obtain ⟨x, y, _, rfl⟩ := hc; rfl) (by rw [List.length_map]; exact h.own), h.lts⟩
  exact ⟨(h.trm.keep (keeps5 (by omega) _ _ _ _ _ _)).mono (by omega), (h0.keep (keeps5 (by omega) _ _ _ _ _ _)).mono (by omega), h.went.put5 h.lt _ _ _ _ _⟩

theorem A_info49 : (Tryd.prog.info? 42).map (fun i => (i.zero, i.size, i.bytes)) = some (some (.agg #[.int .i64 0, .int .i64 0, .int .i64 0, .string ⟨#[]⟩, .slice none 0 0]), 5, 64) := by kernel_rfl
theorem news_lit (w : World) (x : Tr.Lit) (v : Value) : ∀ j u, (litCells (x, v))[j]? = some u → (w.alloc (.cells #[.int .i64 x.kind, .int .i64 x.at_, .int .i64 x.op, .string ⟨x.name.toArray⟩, v] 42)).cell? ((⟨w.heap.size, 0, none⟩ : Addr).add j) = some u := World.news_of_block (heap_alloc_new w _)
theorem one_lit (x : Tr.Lit) (ao : Option Addr) (n c : Nat) : ∀ u ∈ litCells (x, .slice ao n c), u.oneCell' = true := by intro u hu; simp [litCells] at hu; rcases hu with rfl | rfl | rfl | rfl | rfl <;> rfl

set_option maxRecDepth 100000 in
set_option maxHeartbeats 4000000 in
theorem rule_any (P : Nat) (L : List Tk.Tok) (en : Int) (r : List Tk.Tok) (w : World) (hA : At w P L en r) :
    Calls Tryd.prog 22 #[.pointer (some ⟨P, 0, none⟩)] w (RuleEnd P L en w (Pr.rule en r)) := by
  obtain ⟨i0, hi, hz0, hz1, hz2⟩ := info_parts A_info49
  have HQ : Hid (∀ X, Pr.rule en r = X → ∀ e w', RuleEnd P L en w X e w' → RuleEnd P L en w (Pr.rule en r) e w') := by rintro X rfl e w' h; exact h
  generalize RuleEnd P L en w (Pr.rule en r) = Q at HQ ⊢
  have hpk : Hid _ := peekAt P L en r w hA
  cases hn : (((Pr.hd en r).kind == 1) && !Tr.isWord (Pr.hd en r).text)
  · have hN : Pr.name en r = .inl (Pr.hd en r).at_ := by unfold Pr.name; rw [hn]; rfl
    have HF : Hid (∀ e w', RuleEnd P L en w (.inl (Pr.hd en r).at_) e w' → Q e w') := fun e w' h => HQ.out _ (by rw [Pr.rule, hN]) e w' h
    have HN : Hid (∀ w1, At w1 P L en r → _) := fun w1 h => name_no P L en r w1 h hn
    clear hN HQ
    generalize Pr.hd en r = x at *
    go_enter Tryd.func22, Tryd.ntmps22
    go_wp2_with fail
    refine Calls.mono (hpk.out _ ((Below.refl _ _).alloc (Nat.le_refl _) _)) ?_
    rintro e w1 ⟨rfl, hb0⟩
    have hI := UInv.start hA hb0 x.at_
    go_wp2_with fail
    simp only [fld1]
    go_wp2_with fail
    refine Calls.mono (HN.out _ hI.went.2) ?_
    rintro e w2 ⟨rfl, hb2⟩
    exact ⟨rfl, HF.out _ _ ⟨rfl, ground hI.went.1 hb2⟩⟩
  · have hN : Pr.name en r = .inr ((Pr.hd en r).text, r.tail) := by unfold Pr.name; rw [hn]; rfl
    have HN : Hid (∀ w1, At w1 P L en r → _) := fun w1 h => name_yes P L en r w1 h hn
    have HT : Hid (∀ w1, At w1 P L en r.tail → _) := fun w1 h => terms_any true P L en r.tail w1 h
    unfold TermsEnd at HT
    have HR : Hid (∀ X, (match Pr.terms true en r.tail with
        | .inl p => Sum.inl p
        | .inr y => if (y.1.2 == 0) && Pr.isText en y.2 [46] then .inr ((⟨(Pr.hd en r).at_, (Pr.hd en r).text, y.1.1, y.1.2, []⟩ : Tr.Rule), y.2.tail) else Pr.tailOf (Pr.hd en r).at_ (Pr.hd en r).text y.1.1 y.1.2 en y.2) = X → ∀ e w', RuleEnd P L en w X e w' → Q e w') := by
      intro X hX e w' h
      refine HQ.out X ?_ e w' h
      rw [← hX]
      simp only [Pr.rule, hN]
      cases Pr.terms true en r.tail <;> rfl
    generalize Pr.hd en r = x at *
    clear hN hn HQ
    go_enter Tryd.func22, Tryd.ntmps22
    go_wp2_with fail
    refine Calls.mono (hpk.out _ ((Below.refl _ _).alloc (Nat.le_refl _) _)) ?_
    rintro e w1 ⟨rfl, hb0⟩
    have hI := UInv.start hA hb0 x.at_
    go_wp2_with fail
    simp only [fld1]
    go_wp2_with fail
    refine Calls.mono (HN.out _ hI.went.2) ?_
    rintro e w2 ⟨rfl, hW2⟩
    have hI2 := hI.on hW2
    have hI3 := hI2.setName x.text
    obtain ⟨c0, c1, c2, c3, c4, f1, f0⟩ := hI2.cells
    clear hI hW2 hb0 hpk HN hA
    generalize hB : w1.heap.size = B at *
    go_wp2_with fail
    refine Calls.mono (HT.out _ hI3.went.2) ?_
    clear c0 c1 c2 c3 c4 f1 f0 HT hI2
    have hsz3 := hI3.sz
    generalize w2.setCell ⟨B, 1, none⟩ (.string ⟨x.text.toArray⟩) = w3 at *
    cases hY : Pr.terms true en r.tail with
    | inl a =>
      have HF : Hid (∀ e w', RuleEnd P L en w (.inl a) e w' → Q e w') := fun e w' h => HR.out _ (by rw [hY]) e w' h
      rintro e w4 ⟨rfl, hg4⟩
      exact ⟨rfl, HF.out _ _ ⟨rfl, grownBy_trans hI3.went.1 hg4⟩⟩
    | inr y =>
      obtain ⟨⟨ts, fo⟩, r2⟩ := y
      rintro e w4 ⟨v, rfl, hT, hW4⟩
      have hI4 := (hI3.on hW4)
      have hI5 := hI4.setTerms (hT.mono hsz3) fo
      obtain ⟨c0, c1, c2, c3, c4, f1, f0⟩ := hI4.cells
      obtain ⟨aot, capt, hv, hT'⟩ := hT
      rw [List.length_map] at hv
      subst hv
      have HS : Hid (∀ X, (if (fo == 0) && Pr.isText en r2 [46] then Sum.inr ((⟨x.at_, x.text, ts, fo, []⟩ : Tr.Rule), r2.tail) else Pr.tailOf x.at_ x.text ts fo en r2) = X → ∀ e w', RuleEnd P L en w X e w' → Q e w') := fun X hX e w' h => HR.out _ (by rw [hY]; exact hX) e w' h
      clear HR hY hT'
      cases hf : (fo == 0)
      · have HX : Hid (∀ X, Pr.tailOf x.at_ x.text ts fo en r2 = X → ∀ e w', RuleEnd P L en w X e w' → Q e w') := fun X hX e w' h => HS.out X (by rw [hf]; exact hX) e w' h
        clear HS
        have hI6 := hI5
        cases hm : Pr.isText en r2 [58, 45]
        · have HF : Hid (∀ e w', RuleEnd P L en w (.inl (Pr.hd en r2).at_) e w' → Q e w') := fun e w' h => HX.out _ (by
            have : Pr.must [58, 45] en r2 = .inl (Pr.hd en r2).at_ := by unfold Pr.must; unfold Pr.isText at hm; rw [hm]; rfl
            rw [Pr.tailOf, this]) e w' h
          go_wp2_with fail
          refine (must_no [58, 45] P L en r2 _ hI6.went.2 hm).mono ?_
          rintro e w7 ⟨rfl, hb7⟩
          exact ⟨rfl, HF.out _ _ ⟨rfl, ground hI6.went.1 hb7⟩⟩
        · have HX2 : Hid (∀ X, (match Pr.lits en (r2.tail.length + 1) [] r2.tail with
              | .inl p => Sum.inl p
              | .inr b => match Pr.must [46] en b.2 with
                | .inl p => .inl p
                | .inr r2 => .inr ((⟨x.at_, x.text, ts, fo, b.1⟩ : Tr.Rule), r2)) = X → ∀ e w', RuleEnd P L en w X e w' → Q e w') := by
            intro X hX e w' h
            refine HX.out X ?_ e w' h
            rw [← hX]
            have : Pr.must [58, 45] en r2 = .inr r2.tail := by unfold Pr.must; unfold Pr.isText at hm; rw [hm]; rfl
            simp only [Pr.tailOf, this]
            cases Pr.lits en (r2.tail.length + 1) [] r2.tail with
            | inl a => rfl
            | inr b => cases h : Pr.must [46] en b.2 <;> simp only [h]
          have HM : Hid (∀ w1, At w1 P L en r2 → _) := fun w1 h => must_yes [58, 45] P L en r2 w1 h (by simp) hm
          generalize r2.tail = r3 at *
          clear HX hm
          go_wp2_with fail
          refine Calls.mono (HM.out _ hI6.went.2) ?_
          rintro e w7 ⟨rfl, hW7⟩
          have hI7 := hI6.on hW7
          clear hW7 HM hI6
          obtain ⟨c0, c1, c2, c3, c4, f1, f0⟩ := hI7.cells
          go_upto_region 7 with fail
          cases hL : Pr.lit en r3 with
          | inl a =>
            have HF : Hid (∀ e w', RuleEnd P L en w (.inl a) e w' → Q e w') := fun e w' h => HX2.out _ (by rw [lits_no hL]) e w' h
            have HN : Hid (∀ w1, At w1 P L en r3 → _) := fun w1 h => lit_any P L en r3 w1 h
            rw [hL] at HN
            go_region_dies
            all_goals (refine Calls.mono (HN.out _ (At.keep hI7.went.2 (fun _ _ => rfl))) ?_)
            all_goals rintro e y2 ⟨rfl, hg2⟩
            all_goals exact ⟨rfl, HF.out _ _ ⟨rfl, gone hI7.went.1 hg2 ⟨rfl, rfl, rfl, Nat.le_refl _, fun _ _ => rfl⟩⟩⟩
          | inr l1 =>
            obtain ⟨l1, r4⟩ := l1
            have hl4 : r4.length < r3.length := lit_len hL
            have hlits : Pr.lits en (r3.length + 1) [] r3 = Pr.after en r3.length [l1] r4 := lits_yes hL
            generalize hLX : Pr.lits en (r3.length + 1) [] r3 = LX at HX2
            rw [hlits] at hLX
            have HLX : Hid _ := hLX
            have HN : Hid (∀ w1, At w1 P L en r3 → _) := fun w1 h => lit_any P L en r3 w1 h
            rw [hL] at HN
            clear hL hlits hLX
            go_cut [] (fun wx => ∃ bv lv, UInv w wx B P L en r4 x.at_ x.text (.slice aot ts.length capt) ts fo bv [(l1, lv)])
            case first =>
              go_region_law (first
                | (go_simp; go_at_call 36; refine Calls.mono (HN.out _ (At.keep hI7.went.2 (fun _ _ => rfl))) ?_; rintro e y2 ⟨lv, rfl, hTl, hW2⟩; have hI2 := UInv.on2 hI7 hW2 ⟨rfl, rfl, rfl, Nat.le_refl _, fun _ _ => rfl⟩; have hTl2 := TermsP.mono (B' := B + 1) hTl hI7.sz; obtain ⟨aol, capl, hlv, hTl'⟩ := hTl; simp only [List.length_map] at hlv; subst hlv; obtain ⟨d0, d1, d2, d3, d4, g1, g0⟩ := hI2.cells; have hsz := hI2.sz; dsimp only)
                | (refine step_append_lies _ rfl (.tmp 29) (.tmp 32) 38 rfl (B + 1) 42 i0 _ 5 64 Tryd.underlying38 hi hz0 hz1 hz2 rfl (by decide) (.slice none 0 0) 0 _ ?hs (UInv.below hI2 ((Below.refl _ _).alloc (Nat.le_refl _) _)).own ⟨y2.heap.size, 0, none⟩ 1 1 (litCells (l1, .slice aol l1.terms.length capl)) ?hx rfl ?hn ?ho ?hm ?h6 ?hb ?hB _ rfl ?_
                   case hs => simp [Act.eval]
                   case hx => simp [Act.eval]
                   case hn => exact news_lit _ _ _
                   case ho => exact one_lit _ _ _ _
                   case hm => decide
                   case h6 => decide
                   case hb => decide
                   case hB => (simp; omega)
                   intro g cap y3 hown hgrow hat hlt
                   have hI3 := UInv.put (UInv.below hI2 ((Below.refl _ _).alloc (Nat.le_refl _) _)) hgrow (hTl2.keep (keeps_below _ ((Below.refl _ _).alloc (Nat.le_refl _) _))) hown
                   obtain ⟨_, _, e4, ef⟩ := UInv.app (UInv.below hI2 ((Below.refl _ _).alloc (Nat.le_refl _) _)) hgrow))
              all_goals (go_wp2_with fail; go_meet)
              all_goals exact ⟨_, _, hI3⟩
            case rest =>
              obtain ⟨bv, lv, hI8⟩ := hcut
              obtain ⟨m1, m2, m3⟩ := hI7.went.2.meas
              clear c0 c1 c2 c3 c4 f1 f0 hI7 HN
              go_wp2_with fail
              go_loopw [] (fun wr => ∃ (bv : Value) (q : List (Tr.Lit × Value)) (r5 : List Tk.Tok) (f : Nat), UInv w wr B P L en r5 x.at_ x.text (.slice aot ts.length capt) ts fo bv q ∧ q.length + r5.length ≤ L.length ∧ r5.length ≤ f ∧ Pr.after en f (q.map (·.1)) r5 = LX)
                (fun wr => L.length - nxOf wr P)
              case atStart => exact ⟨bv, [(l1, lv)], r4, r3.length, hI8, by simp; omega, by omega, HLX.out⟩
              case round =>
                obtain ⟨bv, q, r5, f, hI9, hlen, hrf, hAf⟩ := hrel
                have HAf : Hid _ := hAf
                obtain ⟨aob, capb, rfl⟩ := own_slice hI9.own
                clear hAf hI8 HLX
                cases hc : Pr.isText en r5 [44]
                · have hLX2 : LX = .inr (q.map (·.1), r5) := by rw [← HAf.out, Pr.after, hc]; rfl
                  cases hd : Pr.isText en r5 [46]
                  · have HF : Hid (∀ e w', RuleEnd P L en w (.inl (Pr.hd en r5).at_) e w' → Q e w') := fun e w' h => HX2.out _ (by
                      have : Pr.must [46] en r5 = .inl (Pr.hd en r5).at_ := by unfold Pr.must; unfold Pr.isText at hd; rw [hd]; rfl
                      rw [hLX2]; simp only [this]) e w' h
                    clear hLX2 HX2 HAf
                    go_wp2_with fail
                    refine (take_no [44] P L en r5 _ hI9.went.2 hc).mono ?_
                    rintro e w10 ⟨rfl, hb10⟩
                    have hI10 := hI9.below hb10
                    go_wp2_with fail
                    refine (must_no [46] P L en r5 _ hI10.went.2 hd).mono ?_
                    rintro e w11 ⟨rfl, hb11⟩
                    exact ⟨rfl, HF.out _ _ ⟨rfl, ground hI10.went.1 hb11⟩⟩
                  · have HF : Hid (∀ e w', RuleEnd P L en w (.inr (⟨x.at_, x.text, ts, fo, q.map (·.1)⟩, r5.tail)) e w' → Q e w') := fun e w' h => HX2.out _ (by
                      have : Pr.must [46] en r5 = .inr r5.tail := by unfold Pr.must; unfold Pr.isText at hd; rw [hd]; rfl
                      rw [hLX2]; simp only [this]) e w' h
                    clear hLX2 HX2 HAf
                    go_wp2_with fail
                    refine (take_no [44] P L en r5 _ hI9.went.2 hc).mono ?_
                    rintro e w10 ⟨rfl, hb10⟩
                    have hI10 := hI9.below hb10
                    go_wp2_with fail
                    refine (must_yes [46] P L en r5 _ hI10.went.2 (by simp) hd).mono ?_
                    rintro e w11 ⟨rfl, hW11⟩
                    have hI11 := hI10.on hW11
                    obtain ⟨c0, c1, c2, c3, c4, f1, f0⟩ := hI11.cells
                    obtain ⟨x0, x1, x2, x3, x4⟩ := hI11.rcells
                    go_wp2
                    exact bodyPost_ret (v := ruleVal ⟨x.at_, x.text, ts, fo, q.map (·.1)⟩ (.slice aot ts.length capt) (.slice aob q.length capb)) (by simp [results, Tryd.results22, go_sem, x0, x1, x2, x3, x4]) rfl (HF.out _ _ ⟨_, _, rfl, hI11.out _ _ _ _ _⟩)
                · have hl6 := text_len (by simp) hc
                  obtain ⟨f, rfl⟩ : ∃ f', f = f' + 1 := ⟨f - 1, by omega⟩
                  have HL2 : Hid (Pr.lits en (f + 1) (q.map (·.1)) r5.tail = LX) := by
                    have := HAf.out
                    rw [Pr.after, hc] at this
                    exact this
                  have hmeas := hI9.went.2.meas.1
                  go_wp2_with fail
                  refine (take_yes [44] P L en r5 _ hI9.went.2 (by simp) hc).mono ?_
                  rintro e w10 ⟨rfl, hW10⟩
                  have hI10 := hI9.on hW10
                  clear hI9 hW10 HAf hc
                  generalize r5.tail = r6 at *
                  obtain ⟨c0, c1, c2, c3, c4, f1, f0⟩ := hI10.cells
                  go_upto_region 9 with fail
                  cases hL : Pr.lit en r6 with
                  | inl a =>
                    have HF : Hid (∀ e w', RuleEnd P L en w (.inl a) e w' → Q e w') := fun e w' h => HX2.out _ (by rw [← HL2.out, lits_no hL]) e w' h
                    have HN : Hid (∀ w1, At w1 P L en r6 → _) := fun w1 h => lit_any P L en r6 w1 h
                    rw [hL] at HN
                    go_region_dies
                    all_goals (refine Calls.mono (HN.out _ (At.keep hI10.went.2 (fun _ _ => rfl))) ?_)
                    all_goals rintro e y2 ⟨rfl, hg2⟩
                    all_goals exact ⟨rfl, HF.out _ _ ⟨rfl, gone hI10.went.1 hg2 ⟨rfl, rfl, rfl, Nat.le_refl _, fun _ _ => rfl⟩⟩⟩
                  | inr l2 =>
                    obtain ⟨l2, r7⟩ := l2
                    have hl7 : r7.length < r6.length := lit_len hL
                    have HA2 : Hid (Pr.after en f (q.map (·.1) ++ [l2]) r7 = LX) := (lits_yes hL).symm.trans HL2.out
                    have HN : Hid (∀ w1, At w1 P L en r6 → _) := fun w1 h => lit_any P L en r6 w1 h
                    rw [hL] at HN
                    clear hL HL2
                    go_region_law (first
                      | (go_simp; go_at_call 36; refine Calls.mono (HN.out _ (At.keep hI10.went.2 (fun _ _ => rfl))) ?_; rintro e y2 ⟨lv, rfl, hTl, hW2⟩; have hI2 := UInv.on2 hI10 hW2 ⟨rfl, rfl, rfl, Nat.le_refl _, fun _ _ => rfl⟩; have hTl2 := TermsP.mono (B' := B + 1) hTl hI10.sz; obtain ⟨aol, capl, hlv, hTl'⟩ := hTl; simp only [List.length_map] at hlv; subst hlv; obtain ⟨d0, d1, d2, d3, d4, g1, g0⟩ := hI2.cells; have hsz := hI2.sz; dsimp only)
                      | (refine step_append_lies _ rfl (.tmp 38) (.tmp 41) 38 rfl (B + 1) 42 i0 _ 5 64 Tryd.underlying38 hi hz0 hz1 hz2 rfl (by decide) (.slice aob q.length capb) q.length _ ?hs (UInv.below hI2 ((Below.refl _ _).alloc (Nat.le_refl _) _)).own ⟨y2.heap.size, 0, none⟩ 1 1 (litCells (l2, .slice aol l2.terms.length capl)) ?hx rfl ?hn ?ho ?hm ?h6 ?hb ?hB _ rfl ?_
                         case hs => simp [Act.eval]
                         case hx => simp [Act.eval]
                         case hn => exact news_lit _ _ _
                         case ho => exact one_lit _ _ _ _
                         case hm => decide
                         case h6 => (unfold maxLen; omega)
                         case hb => omega
                         case hB => (simp; omega)
                         intro g cap y3 hown hgrow hat hlt
                         have hI3 := UInv.put (UInv.below hI2 ((Below.refl _ _).alloc (Nat.le_refl _) _)) hgrow (hTl2.keep (keeps_below _ ((Below.refl _ _).alloc (Nat.le_refl _) _))) hown
                         obtain ⟨_, _, e4, ef⟩ := UInv.app (UInv.below hI2 ((Below.refl _ _).alloc (Nat.le_refl _) _)) hgrow))
                    all_goals go_wp2_with fail
                    all_goals go_roundw
                    all_goals first
                      | exact ⟨_, q ++ [(l2, _)], r7, f, hI3, by rw [List.length_append]; simp; omega, by omega, by simpa using HA2.out⟩
                      | (rw [hI3.went.2.meas.1, hmeas]; show r7.length < r5.length; omega)
      · obtain rfl : fo = 0 := eq_of_beq hf
        cases hq : Pr.isText en r2 [46]
        · have HX : Hid (∀ X, Pr.tailOf x.at_ x.text ts 0 en r2 = X → ∀ e w', RuleEnd P L en w X e w' → Q e w') := fun X hX e w' h => HS.out X (by rw [hf, hq]; exact hX) e w' h
          clear HS
          go_wp2_with fail
          refine (take_no [46] P L en r2 _ hI5.went.2 hq).mono ?_
          rintro e w6 ⟨rfl, hb6⟩
          have hI6 := hI5.below hb6
          clear hb6 hI5 hI4 hq
          cases hm : Pr.isText en r2 [58, 45]
          · have HF : Hid (∀ e w', RuleEnd P L en w (.inl (Pr.hd en r2).at_) e w' → Q e w') := fun e w' h => HX.out _ (by
              have : Pr.must [58, 45] en r2 = .inl (Pr.hd en r2).at_ := by unfold Pr.must; unfold Pr.isText at hm; rw [hm]; rfl
              rw [Pr.tailOf, this]) e w' h
            go_wp2_with fail
            refine (must_no [58, 45] P L en r2 _ hI6.went.2 hm).mono ?_
            rintro e w7 ⟨rfl, hb7⟩
            exact ⟨rfl, HF.out _ _ ⟨rfl, ground hI6.went.1 hb7⟩⟩
          · have HX2 : Hid (∀ X, (match Pr.lits en (r2.tail.length + 1) [] r2.tail with
                | .inl p => Sum.inl p
                | .inr b => match Pr.must [46] en b.2 with
                  | .inl p => .inl p
                  | .inr r2 => .inr ((⟨x.at_, x.text, ts, 0, b.1⟩ : Tr.Rule), r2)) = X → ∀ e w', RuleEnd P L en w X e w' → Q e w') := by
              intro X hX e w' h
              refine HX.out X ?_ e w' h
              rw [← hX]
              have : Pr.must [58, 45] en r2 = .inr r2.tail := by unfold Pr.must; unfold Pr.isText at hm; rw [hm]; rfl
              simp only [Pr.tailOf, this]
              cases Pr.lits en (r2.tail.length + 1) [] r2.tail with
              | inl a => rfl
              | inr b => cases h : Pr.must [46] en b.2 <;> simp only [h]
            have HM : Hid (∀ w1, At w1 P L en r2 → _) := fun w1 h => must_yes [58, 45] P L en r2 w1 h (by simp) hm
            generalize r2.tail = r3 at *
            clear HX hm
            go_wp2_with fail
            refine Calls.mono (HM.out _ hI6.went.2) ?_
            rintro e w7 ⟨rfl, hW7⟩
            have hI7 := hI6.on hW7
            clear hW7 HM hI6
            obtain ⟨c0, c1, c2, c3, c4, f1, f0⟩ := hI7.cells
            go_upto_region 7 with fail
            cases hL : Pr.lit en r3 with
            | inl a =>
              have HF : Hid (∀ e w', RuleEnd P L en w (.inl a) e w' → Q e w') := fun e w' h => HX2.out _ (by rw [lits_no hL]) e w' h
              have HN : Hid (∀ w1, At w1 P L en r3 → _) := fun w1 h => lit_any P L en r3 w1 h
              rw [hL] at HN
              go_region_dies
              all_goals (refine Calls.mono (HN.out _ (At.keep hI7.went.2 (fun _ _ => rfl))) ?_)
              all_goals rintro e y2 ⟨rfl, hg2⟩
              all_goals exact ⟨rfl, HF.out _ _ ⟨rfl, gone hI7.went.1 hg2 ⟨rfl, rfl, rfl, Nat.le_refl _, fun _ _ => rfl⟩⟩⟩
            | inr l1 =>
              obtain ⟨l1, r4⟩ := l1
              have hl4 : r4.length < r3.length := lit_len hL
              have hlits : Pr.lits en (r3.length + 1) [] r3 = Pr.after en r3.length [l1] r4 := lits_yes hL
              generalize hLX : Pr.lits en (r3.length + 1) [] r3 = LX at HX2
              rw [hlits] at hLX
              have HLX : Hid _ := hLX
              have HN : Hid (∀ w1, At w1 P L en r3 → _) := fun w1 h => lit_any P L en r3 w1 h
              rw [hL] at HN
              clear hL hlits hLX
              go_cut [] (fun wx => ∃ bv lv, UInv w wx B P L en r4 x.at_ x.text (.slice aot ts.length capt) ts 0 bv [(l1, lv)])
              case first =>
                go_region_law (first
                  | (go_simp; go_at_call 36; refine Calls.mono (HN.out _ (At.keep hI7.went.2 (fun _ _ => rfl))) ?_; rintro e y2 ⟨lv, rfl, hTl, hW2⟩; have hI2 := UInv.on2 hI7 hW2 ⟨rfl, rfl, rfl, Nat.le_refl _, fun _ _ => rfl⟩; have hTl2 := TermsP.mono (B' := B + 1) hTl hI7.sz; obtain ⟨aol, capl, hlv, hTl'⟩ := hTl; simp only [List.length_map] at hlv; subst hlv; obtain ⟨d0, d1, d2, d3, d4, g1, g0⟩ := hI2.cells; have hsz := hI2.sz; dsimp only)
                  | (refine step_append_lies _ rfl (.tmp 29) (.tmp 32) 38 rfl (B + 1) 42 i0 _ 5 64 Tryd.underlying38 hi hz0 hz1 hz2 rfl (by decide) (.slice none 0 0) 0 _ ?hs (UInv.below hI2 ((Below.refl _ _).alloc (Nat.le_refl _) _)).own ⟨y2.heap.size, 0, none⟩ 1 1 (litCells (l1, .slice aol l1.terms.length capl)) ?hx rfl ?hn ?ho ?hm ?h6 ?hb ?hB _ rfl ?_
                     case hs => simp [Act.eval]
                     case hx => simp [Act.eval]
                     case hn => exact news_lit _ _ _
                     case ho => exact one_lit _ _ _ _
                     case hm => decide
                     case h6 => decide
                     case hb => decide
                     case hB => (simp; omega)
                     intro g cap y3 hown hgrow hat hlt
                     have hI3 := UInv.put (UInv.below hI2 ((Below.refl _ _).alloc (Nat.le_refl _) _)) hgrow (hTl2.keep (keeps_below _ ((Below.refl _ _).alloc (Nat.le_refl _) _))) hown
                     obtain ⟨_, _, e4, ef⟩ := UInv.app (UInv.below hI2 ((Below.refl _ _).alloc (Nat.le_refl _) _)) hgrow))
                all_goals (go_wp2_with fail; go_meet)
                all_goals exact ⟨_, _, hI3⟩
              case rest =>
                obtain ⟨bv, lv, hI8⟩ := hcut
                obtain ⟨m1, m2, m3⟩ := hI7.went.2.meas
                clear c0 c1 c2 c3 c4 f1 f0 hI7 HN
                go_wp2_with fail
                go_loopw [] (fun wr => ∃ (bv : Value) (q : List (Tr.Lit × Value)) (r5 : List Tk.Tok) (f : Nat), UInv w wr B P L en r5 x.at_ x.text (.slice aot ts.length capt) ts 0 bv q ∧ q.length + r5.length ≤ L.length ∧ r5.length ≤ f ∧ Pr.after en f (q.map (·.1)) r5 = LX)
                  (fun wr => L.length - nxOf wr P)
                case atStart => exact ⟨bv, [(l1, lv)], r4, r3.length, hI8, by simp; omega, by omega, HLX.out⟩
                case round =>
                  obtain ⟨bv, q, r5, f, hI9, hlen, hrf, hAf⟩ := hrel
                  have HAf : Hid _ := hAf
                  obtain ⟨aob, capb, rfl⟩ := own_slice hI9.own
                  clear hAf hI8 HLX
                  cases hc : Pr.isText en r5 [44]
                  · have hLX2 : LX = .inr (q.map (·.1), r5) := by rw [← HAf.out, Pr.after, hc]; rfl
                    cases hd : Pr.isText en r5 [46]
                    · have HF : Hid (∀ e w', RuleEnd P L en w (.inl (Pr.hd en r5).at_) e w' → Q e w') := fun e w' h => HX2.out _ (by
                        have : Pr.must [46] en r5 = .inl (Pr.hd en r5).at_ := by unfold Pr.must; unfold Pr.isText at hd; rw [hd]; rfl
                        rw [hLX2]; simp only [this]) e w' h
                      clear hLX2 HX2 HAf
                      go_wp2_with fail
                      refine (take_no [44] P L en r5 _ hI9.went.2 hc).mono ?_
                      rintro e w10 ⟨rfl, hb10⟩
                      have hI10 := hI9.below hb10
                      go_wp2_with fail
                      refine (must_no [46] P L en r5 _ hI10.went.2 hd).mono ?_
                      rintro e w11 ⟨rfl, hb11⟩
                      exact ⟨rfl, HF.out _ _ ⟨rfl, ground hI10.went.1 hb11⟩⟩
                    · have HF : Hid (∀ e w', RuleEnd P L en w (.inr (⟨x.at_, x.text, ts, 0, q.map (·.1)⟩, r5.tail)) e w' → Q e w') := fun e w' h => HX2.out _ (by
                        have : Pr.must [46] en r5 = .inr r5.tail := by unfold Pr.must; unfold Pr.isText at hd; rw [hd]; rfl
                        rw [hLX2]; simp only [this]) e w' h
                      clear hLX2 HX2 HAf
                      go_wp2_with fail
                      refine (take_no [44] P L en r5 _ hI9.went.2 hc).mono ?_
                      rintro e w10 ⟨rfl, hb10⟩
                      have hI10 := hI9.below hb10
                      go_wp2_with fail
                      refine (must_yes [46] P L en r5 _ hI10.went.2 (by simp) hd).mono ?_
                      rintro e w11 ⟨rfl, hW11⟩
                      have hI11 := hI10.on hW11
                      obtain ⟨c0, c1, c2, c3, c4, f1, f0⟩ := hI11.cells
                      obtain ⟨x0, x1, x2, x3, x4⟩ := hI11.rcells
                      go_wp2
                      exact bodyPost_ret (v := ruleVal ⟨x.at_, x.text, ts, 0, q.map (·.1)⟩ (.slice aot ts.length capt) (.slice aob q.length capb)) (by simp [results, Tryd.results22, go_sem, x0, x1, x2, x3, x4]) rfl (HF.out _ _ ⟨_, _, rfl, hI11.out _ _ _ _ _⟩)
                  · have hl6 := text_len (by simp) hc
                    obtain ⟨f, rfl⟩ : ∃ f', f = f' + 1 := ⟨f - 1, by omega⟩
                    have HL2 : Hid (Pr.lits en (f + 1) (q.map (·.1)) r5.tail = LX) := by
                      have := HAf.out
                      rw [Pr.after, hc] at this
                      exact this
                    have hmeas := hI9.went.2.meas.1
                    go_wp2_with fail
                    refine (take_yes [44] P L en r5 _ hI9.went.2 (by simp) hc).mono ?_
                    rintro e w10 ⟨rfl, hW10⟩
                    have hI10 := hI9.on hW10
                    clear hI9 hW10 HAf hc
                    generalize r5.tail = r6 at *
                    obtain ⟨c0, c1, c2, c3, c4, f1, f0⟩ := hI10.cells
                    go_upto_region 9 with fail
                    cases hL : Pr.lit en r6 with
                    | inl a =>
                      have HF : Hid (∀ e w', RuleEnd P L en w (.inl a) e w' → Q e w') := fun e w' h => HX2.out _ (by rw [← HL2.out, lits_no hL]) e w' h
                      have HN : Hid (∀ w1, At w1 P L en r6 → _) := fun w1 h => lit_any P L en r6 w1 h
                      rw [hL] at HN
                      go_region_dies
                      all_goals (refine Calls.mono (HN.out _ (At.keep hI10.went.2 (fun _ _ => rfl))) ?_)
                      all_goals rintro e y2 ⟨rfl, hg2⟩
                      all_goals exact ⟨rfl, HF.out _ _ ⟨rfl, gone hI10.went.1 hg2 ⟨rfl, rfl, rfl, Nat.le_refl _, fun _ _ => rfl⟩⟩⟩
                    | inr l2 =>
                      obtain ⟨l2, r7⟩ := l2
                      have hl7 : r7.length < r6.length := lit_len hL
                      have HA2 : Hid (Pr.after en f (q.map (·.1) ++ [l2]) r7 = LX) := (lits_yes hL).symm.trans HL2.out
                      have HN : Hid (∀ w1, At w1 P L en r6 → _) := fun w1 h => lit_any P L en r6 w1 h
                      rw [hL] at HN
                      clear hL HL2
                      go_region_law (first
                        | (go_simp; go_at_call 36; refine Calls.mono (HN.out _ (At.keep hI10.went.2 (fun _ _ => rfl))) ?_; rintro e y2 ⟨lv, rfl, hTl, hW2⟩; have hI2 := UInv.on2 hI10 hW2 ⟨rfl, rfl, rfl, Nat.le_refl _, fun _ _ => rfl⟩; have hTl2 := TermsP.mono (B' := B + 1) hTl hI10.sz; obtain ⟨aol, capl, hlv, hTl'⟩ := hTl; simp only [List.length_map] at hlv; subst hlv; obtain ⟨d0, d1, d2, d3, d4, g1, g0⟩ := hI2.cells; have hsz := hI2.sz; dsimp only)
                        | (refine step_append_lies _ rfl (.tmp 38) (.tmp 41) 38 rfl (B + 1) 42 i0 _ 5 64 Tryd.underlying38 hi hz0 hz1 hz2 rfl (by decide) (.slice aob q.length capb) q.length _ ?hs (UInv.below hI2 ((Below.refl _ _).alloc (Nat.le_refl _) _)).own ⟨y2.heap.size, 0, none⟩ 1 1 (litCells (l2, .slice aol l2.terms.length capl)) ?hx rfl ?hn ?ho ?hm ?h6 ?hb ?hB _ rfl ?_
                           case hs => simp [Act.eval]
                           case hx => simp [Act.eval]
                           case hn => exact news_lit _ _ _
                           case ho => exact one_lit _ _ _ _
                           case hm => decide
                           case h6 => (unfold maxLen; omega)
                           case hb => omega
                           case hB => (simp; omega)
                           intro g cap y3 hown hgrow hat hlt
                           have hI3 := UInv.put (UInv.below hI2 ((Below.refl _ _).alloc (Nat.le_refl _) _)) hgrow (hTl2.keep (keeps_below _ ((Below.refl _ _).alloc (Nat.le_refl _) _))) hown
                           obtain ⟨_, _, e4, ef⟩ := UInv.app (UInv.below hI2 ((Below.refl _ _).alloc (Nat.le_refl _) _)) hgrow))
                      all_goals go_wp2_with fail
                      all_goals go_roundw
                      all_goals first
                        | exact ⟨_, q ++ [(l2, _)], r7, f, hI3, by rw [List.length_append]; simp; omega, by omega, by simpa using HA2.out⟩
                        | (rw [hI3.went.2.meas.1, hmeas]; show r7.length < r5.length; omega)
        · have HF : Hid (∀ e w', RuleEnd P L en w (.inr (⟨x.at_, x.text, ts, 0, []⟩, r2.tail)) e w' → Q e w') := fun e w' h => HS.out _ (by rw [hf, hq]; rfl) e w' h
          clear HS
          go_wp2_with fail
          refine (take_yes [46] P L en r2 _ hI5.went.2 (by simp) hq).mono ?_
          rintro e w6 ⟨rfl, hW6⟩
          have hI6 := hI5.on hW6
          clear c0 c1 c2 c3 c4 f1 f0
          obtain ⟨c0, c1, c2, c3, c4, f1, f0⟩ := hI6.cells
          obtain ⟨x0, x1, x2, x3, x4⟩ := hI6.rcells
          go_wp2
          exact bodyPost_ret (v := ruleVal ⟨x.at_, x.text, ts, 0, []⟩ (.slice aot ts.length capt) (.slice none 0 0)) (by simp [results, Tryd.results22, go_sem, x0, x1, x2, x3, x4]) rfl (HF.out _ _ ⟨_, _, rfl, hI6.out _ _ _ _ _⟩)

end Go.Proofs.YtjbfbbhaagkagaaDoor

/- The deferred function of parse. -/
namespace Go.Proofs.YtjbfbbhaagkagaaDoor
open Go.RowKit

set_option maxRecDepth 100000 in
set_option maxHeartbeats 400000 in
theorem catchP_idle (pt pa pe : Addr) (w : World) :
    CallsD Tryd.prog 21 #[.pointer (some pt), .pointer (some pa), .pointer (some pe)] .returning w fun e u' w' => e = .returned (.tuple #[]) ∧ u' = .returning ∧ w' = w := by
  refine callsD_of_wpS Tryd.func21 rfl fun c₀ cs hu => ?_
  apply wpS_seq
  apply wpS_region
  simp [wpOpsS, go_sem, recoverD, hu, Tryd.ntmps21, Exit.thenS]
  refine wpS_of_wp ?_
  rw [show (#[Value.pointer (some pt), Value.pointer (some pa), Value.pointer (some pe)] ++ ((Array.replicate 7 undef).setIfInBounds 1 Value.nilIface).setIfInBounds 0 Value.nilIface) = #[.pointer (some pt), .pointer (some pa), .pointer (some pe), .nilIface, .nilIface, undef, undef, undef, undef, undef] from rfl]
  go_wp2
  refine ⟨rfl, .returning, ?_, .tuple #[], ?_, rfl, rfl, rfl⟩
  · rw [← hu]
  · simp [results, Tryd.results21]

set_option maxRecDepth 100000 in
set_option maxHeartbeats 400000 in
theorem catchP_panicking (bt ba be B : Nat) (tv av ev : Value) (a : Int) (older : List PanicEntry) (w : World)
    (ht : w.cell? ⟨bt, 0, none⟩ = some tv) (ft : w.frozen? ⟨bt, 0, none⟩ = false) (ha : w.cell? ⟨ba, 0, none⟩ = some av) (fa : w.frozen? ⟨ba, 0, none⟩ = false)
    (he : w.cell? ⟨be, 0, none⟩ = some ev) (fe : w.frozen? ⟨be, 0, none⟩ = false) (hB1 : B ≤ bt) (hB2 : bt < ba) (hB3 : ba < be) :
    CallsD Tryd.prog 21 #[.pointer (some ⟨bt, 0, none⟩), .pointer (some ⟨ba, 0, none⟩), .pointer (some ⟨be, 0, none⟩)] (.panicking ({ v := .iface 65 (.int .i64 a), recovered := false } :: older)) w fun e u' w' =>
      e = .returned (.tuple #[]) ∧ u' = .panicking ({ v := .iface 65 (.int .i64 a), recovered := true } :: older) ∧
      w'.cell? ⟨bt, 0, none⟩ = some (.slice none 0 0) ∧ w'.cell? ⟨ba, 0, none⟩ = some (.int .i64 a) ∧ w'.cell? ⟨be, 0, none⟩ = some (.int .i64 1) ∧ Below B w w' := by
  have hta : ∀ w : World, (Instr.typeAssert (.iface 65 (.int .i64 a)) 20 65 false).run Tryd.prog w = .ok (.int .i64 a) w := fun _ => by kernel_rfl
  refine callsD_of_wpS Tryd.func21 rfl fun c₀ cs hu => ?_
  apply wpS_seq
  apply wpS_region
  simp [wpOpsS, go_sem, recoverD, hu, Tryd.ntmps21, Exit.thenS]
  refine wpS_of_wp ?_
  rw [show (#[Value.pointer (some { block := bt, off := 0 }), Value.pointer (some { block := ba, off := 0 }), Value.pointer (some { block := be, off := 0 })] ++
          ((Array.replicate 7 undef).setIfInBounds 1 (Value.iface 65 (Value.int IntKind.i64 a))).setIfInBounds 0 (Value.iface 65 (Value.int IntKind.i64 a))) =
        #[Value.pointer (some { block := bt, off := 0 }), Value.pointer (some { block := ba, off := 0 }), Value.pointer (some { block := be, off := 0 }), (Value.iface 65 (Value.int IntKind.i64 a)), (Value.iface 65 (Value.int IntKind.i64 a)), undef, undef, undef, undef, undef] from rfl]
  have hne : ¬ bt = ba := by omega
  have hne' : ¬ ba = bt := by omega
  have hne2 : ¬ bt = be := by omega
  have hne2' : ¬ be = bt := by omega
  have hne3 : ¬ ba = be := by omega
  have hne3' : ¬ be = ba := by omega
  go_wp2
  go_region
  refine ⟨rfl, _, rfl, .tuple #[], ?_, rfl, rfl, ?_, ?_, ?_, ?_⟩
  · simp [results, Tryd.results21]
  · simp [go_sem, ht]
  · simp [go_sem, ha]
  · simp [go_sem, he]
  · exact ((((Below.refl _ _).setCell (p := ⟨bt, 0, none⟩) hB1 _).setCell (p := ⟨ba, 0, none⟩) (show B ≤ ba by omega) _).setCell (p := ⟨be, 0, none⟩) (show B ≤ be by omega) _).drew

end Go.Proofs.YtjbfbbhaagkagaaDoor

