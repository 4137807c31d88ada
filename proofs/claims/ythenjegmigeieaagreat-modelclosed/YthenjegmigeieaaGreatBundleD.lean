/- Own texts, one behind the other (part 4). -/
import Derived.Test.YthenjegmigeieaaGreatBundleC
import Derived.Test.YthenjegmigeieaaGreatRows
import Derived.Deep.OwnRows
import Derived.RangeFuncNested
import Derived.RangeFuncBound
import Derived.RangeFuncCalls
import Derived.RangeFuncLeaves
import Derived.Shelf.Abstract
import Derived.Shelf.RegionOpen
import Derived.WalkKit
import Derived.OwnWalkIn
import Derived.TacticsInMore
import Derived.LoopNIn
import Derived.LoopIn
import Derived.Deep.QuietTactic
import Derived.BigQuiet
import Derived.Deep.MidRow
import Derived.Deep.WholeRow
import Derived.Maps.OwnSet
/- Package relation: Has; the document's HasFact and SameFacts. -/
namespace Go.Proofs.YthenjegmigeieaaGreat
open Go.RowKit

theorem any_has (l : List Rl.Fc) (f : Rl.Fc) : l.any (fun g => Rl.ord f g == 0) = Rl.has l f := by
  unfold Rl.has
  congr 1
  funext g
  rw [Rl.ord_flip g f]
  by_cases h : Rl.ord g f = 0
  · rw [h]
    rfl
  · have h2 : ¬ (- Rl.ord g f) = 0 := by omega
    rw [beq_false_of_ne h2, beq_false_of_ne h]
set_option maxRecDepth 100000 in
set_option maxHeartbeats 400000 in
theorem has1_any (w : World) (FB : Nat) (f : Rl.Fc) (a : Option Addr) (c : Nat) (hB : w.heap[FB]? = some (.cells #[.int .i64 f.pred, .slice a f.args.length c] 55)) (hI : IntsV w (.slice a f.args.length c) f.args) (hF : FFit f) : Keeps1 213 #[.pointer (some ⟨FB, 0, none⟩)] w (fun g => Rl.ord f g == 0) := by
  intro z g ao cap hz hIg hFg
  show Calls Tryz.prog 213 #[fcVal g.pred (.slice ao g.args.length cap), .pointer (some ⟨FB, 0, none⟩)] z _
  have hBz := (hz.block FB (rl_lt hB)).trans hB
  have hba : Below z.heap.size z (z.alloc (.cells #[.int .i64 g.pred, .slice ao g.args.length cap] 55)) := (Below.refl _ _).alloc (Nat.le_refl _) _
  have hBa := (hba.block FB (rl_lt hBz)).trans hBz
  have hGa := rl_new z (.cells #[.int .i64 g.pred, .slice ao g.args.length cap] 55)
  have HC : Hid (Calls Tryz.prog 148 #[fcVal f.pred (.slice a f.args.length c), fcVal g.pred (.slice ao g.args.length cap)] (z.alloc (.cells #[.int .i64 g.pred, .slice ao g.args.length cap] 55)) fun e w' => e = .returned (.bool (Rl.ord f g == 0)) ∧ Gr (z.alloc (.cells #[.int .i64 g.pred, .slice ao g.args.length cap] 55)) w') := same_any f g _ _ _ (intsV_below (intsV_below hI hz) hba) (intsV_below hIg hba) hF hFg
  have c0 : (z.alloc (.cells #[.int .i64 g.pred, .slice ao g.args.length cap] 55)).cell? ⟨FB, 0, none⟩ = some (.int .i64 f.pred) := by rw [Lib.cell_of_heap hBa]; rfl
  have c1 : (z.alloc (.cells #[.int .i64 g.pred, .slice ao g.args.length cap] 55)).cell? ⟨FB, 1, none⟩ = some (.slice a f.args.length c) := by rw [Lib.cell_of_heap hBa]; rfl
  have d0 : (z.alloc (.cells #[.int .i64 g.pred, .slice ao g.args.length cap] 55)).cell? ⟨z.heap.size, 0, none⟩ = some (.int .i64 g.pred) := by rw [Lib.cell_of_heap hGa]; rfl
  have d1 : (z.alloc (.cells #[.int .i64 g.pred, .slice ao g.args.length cap] 55)).cell? ⟨z.heap.size, 1, none⟩ = some (.slice ao g.args.length cap) := by rw [Lib.cell_of_heap hGa]; rfl
  clear hBz hBa hGa hIg hz
  go_enter Tryz.func213, Tryz.ntmps213
  go_wp2_with fail
  refine Calls.mono HC.out ?_
  rintro e w1 ⟨rfl, hg⟩
  have hb := hba.trans (hg.below.mono hba.size)
  clear HC c0 c1 d0 d1
  go_wp2_with fail
  go_ret
  exact ⟨rfl, hb⟩
theorem rl_enters51 : ∀ args w, (callFunc 213 args).run Tryz.prog w = .ok (.enter 213 args) w := enters_of Tryz.func213 (by kernel_rfl) rfl

set_option maxRecDepth 100000 in
set_option maxHeartbeats 1000000 in
theorem Has_any (l : List Rl.Fc) (f : Rl.Fc) (v u : Value) (w : World) (hV : FactsV w v l) (hU : IntsV w u f.args) (hl : l.length ≤ 9223372036854775807) (hf : ∀ f, f ∈ l → FFit f) (hF : FFit f) :
    Calls Tryz.prog 185 #[v, fcVal f.pred u] w fun e w' => e = .returned (.bool (Rl.has l f)) ∧ Below w.heap.size w w' := by
  obtain ⟨a, c, rfl, _⟩ := id hU
  have hmf : ∀ (fn : Fn) (first cap : Array Value) (w : World), (Instr.makeFunc fn first cap).run Tryz.prog w = .ok (.func fn first cap) w := fun _ _ _ _ => rfl
  have hba : Below w.heap.size w (w.alloc (.cells #[.int .i64 f.pred, .slice a f.args.length c] 55)) := (Below.refl _ _).alloc (Nat.le_refl _) _
  have HC : Hid (Calls Tryz.prog 135 #[v, .func (.func 213) #[] #[.pointer (some ⟨w.heap.size, 0, none⟩)]] (w.alloc (.cells #[.int .i64 f.pred, .slice a f.args.length c] 55)) fun e w' => e = .returned (.bool (Rl.has l f)) ∧ Below (w.alloc (.cells #[.int .i64 f.pred, .slice a f.args.length c] 55)).heap.size (w.alloc (.cells #[.int .i64 f.pred, .slice a f.args.length c] 55)) w') := by
    rw [← any_has]
    exact containsF_any l v _ 213 _ _ (factsV_below hV hba) hl hf rl_enters51 (has1_any _ w.heap.size f a c (rl_new w _) (intsV_below hU hba) hF)
  obtain ⟨ao, cap, rfl, _⟩ := hV
  clear hU hf
  go_enter Tryz.func185, Tryz.ntmps185
  go_wp2_with fail
  refine Calls.mono HC.out ?_
  rintro e w1 ⟨rfl, hb1⟩
  have hb := hba.trans (hb1.mono hba.size)
  clear HC hb1 hba
  go_wp2_with fail
  go_ret
  exact ⟨rfl, hb⟩

set_option maxRecDepth 100000 in
set_option maxHeartbeats 1000000 in
theorem HasFact_any (l : List Rl.Fc) (f : Rl.Fc) (v u : Value) (w : World) (hV : FactsV w v l) (hU : IntsV w u f.args) (hl : l.length ≤ 9223372036854775807) (hf : ∀ f, f ∈ l → FFit f) (hF : FFit f) :
    Calls Tryz.prog 26 #[v, fcVal f.pred u] w fun e w' => e = .returned (.bool (Rl.has l f)) ∧ Below w.heap.size w w' := by
  obtain ⟨ao, cap, rfl, _, hA⟩ := hV
  obtain ⟨a, c, rfl, _⟩ := id hU
  have HA : Hid (FactsAt w ao l) := hA
  have HF : Hid (∀ f, f ∈ l → FFit f) := hf
  have HU : Hid (IntsV w (.slice a f.args.length c) f.args ∧ FFit f) := ⟨hU, hF⟩
  have hba : Below w.heap.size w (w.alloc (.cells #[.int .i64 f.pred, .slice a f.args.length c] 55)) := (Below.refl _ _).alloc (Nat.le_refl _) _
  have hFB := rl_new w (.cells #[.int .i64 f.pred, .slice a f.args.length c] 55)
  clear hA hf hU
  go_enter Tryz.func26, Tryz.ntmps26
  go_wp2_with fail
  generalize w.alloc (.cells #[.int .i64 f.pred, .slice a f.args.length c] 55) = w1 at *
  go_loopw [5] (fun i wr => ∃ k : Nat, k ≤ l.length ∧ i = .int .i64 k ∧ Rl.has l f = Rl.has (l.drop k) f ∧ Below w1.heap.size w1 wr) (fun i _ => l.length - (intOf i).toNat)
  case atStart => exact ⟨0, Nat.zero_le _, rfl, rfl, Below.refl _ _⟩
  case round =>
    obtain ⟨k, hk, rfl, hall, hbel⟩ := hrel
    have HAL : Hid _ := hall
    clear hall
    have hbw := hba.trans (hbel.mono hba.size)
    by_cases hlt : k < l.length
    · obtain ⟨b, off, rfl, p0, fv, p1, hIv⟩ := facts_at HA.out k hlt
      have hmem := factD_mem l k hlt
      have HD : Hid (Rl.has l f = ((Rl.ord (Rl.factD l k) f == 0) || Rl.has (l.drop (k + 1)) f)) := by show _ = _; rw [HAL.out, factD_drop l k hlt]; rfl
      have HIV : Hid (IntsV w fv (Rl.factD l k).args ∧ FFit (Rl.factD l k)) := ⟨hIv, HF.out _ hmem⟩
      obtain ⟨af, cf, rfl, _⟩ := hIv
      have a0 := cell_below hbw p0
      have a1 := cell_below hbw p1
      have hFB2 := (hbel.block _ (rl_lt hFB)).trans hFB
      have c0 : wr.cell? ⟨w.heap.size, 0, none⟩ = some (.int .i64 f.pred) := by rw [Lib.cell_of_heap hFB2]; rfl
      have c1 : wr.cell? ⟨w.heap.size, 1, none⟩ = some (.slice a f.args.length c) := by rw [Lib.cell_of_heap hFB2]; rfl
      clear p0 p1 HAL hmem hFB2
      generalize Rl.factD l k = g at *
      have HN : Hid (∀ z, Below wr.heap.size wr z → Calls Tryz.prog 44 #[fcVal g.pred (.slice af g.args.length cf), fcVal f.pred (.slice a f.args.length c)] z fun e w' => e = .returned (.int .i64 (Rl.ord g f)) ∧ Below wr.heap.size wr w' ∧ w'.cell? ⟨b, off + k * 2, none⟩ = some (.int .i64 g.pred) ∧ w'.cell? ⟨b, off + k * 2 + 1, none⟩ = some (.slice af g.args.length cf) ∧ w'.cell? ⟨w.heap.size, 0, none⟩ = some (.int .i64 f.pred) ∧ w'.cell? ⟨w.heap.size, 1, none⟩ = some (.slice a f.args.length c)) := by
        intro z hz
        have hzw := hbw.trans (hz.mono hbw.size)
        refine (OrderOf_any g f _ _ z (intsV_below HIV.out.1 hzw) (intsV_below HU.out.1 hzw) HIV.out.2 HU.out.2).mono ?_
        rintro e w' ⟨h1, h2⟩
        have h3 := hz.trans (h2.mono hz.size)
        exact ⟨h1, h3, cell_below h3 a0, cell_below h3 a1, cell_below h3 c0, cell_below h3 c1⟩
      have HGA : ∀ b o, Below wr.heap.size wr b → Below wr.heap.size wr (b.alloc o) := fun _ o h => h.alloc h.size o
      have HGD : ∀ b, Below wr.heap.size wr b → Below wr.heap.size wr b.drew := fun _ h => ⟨h.os, h.tape, h.output, h.size, h.block⟩
      have HGR : Below wr.heap.size wr wr := Below.refl _ _
      go_upto_region 4 with fail
      go_region_held3 (fun yy => yy.cell? ⟨b, off + k * 2, none⟩ = some (.int .i64 g.pred) ∧ yy.cell? ⟨b, off + k * 2 + 1, none⟩ = some (.slice af g.args.length cf) ∧ yy.cell? ⟨w.heap.size, 0, none⟩ = some (.int .i64 f.pred) ∧ yy.cell? ⟨w.heap.size, 1, none⟩ = some (.slice a f.args.length c) ∧ Below wr.heap.size wr yy) (go_keep) (
        (go_at_call 44; refine Calls.mono (HN.out _ ?_) ?_; (simp [*]); rintro e w2 ⟨rfl, hb2, hz2, hz3, hz4, hz5⟩))
      clear HGA HGD HGR HN hz2 hz3 hz4 hz5
      have hb3 := hbel.trans (hb2.mono hbel.size)
      have hb4 := hbw.trans (hb2.mono hbw.size)
      clear a0 a1 c0 c1 hb2 hbel hbw
      cases hx : (Rl.ord g f == 0)
      · have HV : Hid (Rl.has l f = Rl.has (l.drop (k + 1)) f) := by show _ = _; rw [HD.out, hx]; rfl
        clear HD
        go_wp2_with fail
        go_roundw
        case rel => exact ⟨k + 1, by omega, by go_num, HV.out, hb3⟩
        case measure => simp [intOf]; omega
      · have HV : Hid (Rl.has l f = true) := by show _ = _; rw [HD.out, hx]; rfl
        clear HD
        go_wp2_with fail
        go_ret
        exact ⟨by rw [HV.out]; rfl, hb4⟩
    · have HV : Hid (Rl.has l f = false) := by show _ = _; rw [HAL.out, List.drop_of_length_le (by omega)]; rfl
      go_wp2_with fail
      go_ret
      exact ⟨by rw [HV.out]; rfl, hbw⟩

set_option maxRecDepth 100000 in
set_option maxHeartbeats 1000000 in
theorem SameFacts_refl (l : List Rl.Fc) (v u : Value) (w : World) (hV : FactsV w v l) (hU : FactsV w u l) (hl : l.length ≤ 9223372036854775807) (hf : ∀ f, f ∈ l → FFit f) :
    Calls Tryz.prog 21 #[v, u] w fun e w' => e = .returned (.bool true) ∧ Below w.heap.size w w' := by
  obtain ⟨ao, cap, rfl, _, hA⟩ := hV
  obtain ⟨bo, cbp, rfl, _, hB⟩ := hU
  have HA : Hid (FactsAt w ao l) := hA
  have HB : Hid (FactsAt w bo l) := hB
  have HF : Hid (∀ f, f ∈ l → FFit f) := hf
  have hne : ((l.length : Int) != (l.length : Int)) = false := by simp
  clear hA hB hf
  go_enter Tryz.func21, Tryz.ntmps21
  go_wp2_with fail
  go_loopw [5] (fun i wr => ∃ k : Nat, k ≤ l.length ∧ i = .int .i64 k ∧ Below w.heap.size w wr) (fun i _ => l.length - (intOf i).toNat)
  case atStart => exact ⟨0, Nat.zero_le _, rfl, Below.refl _ _⟩
  case round =>
    obtain ⟨k, hk, rfl, hbw⟩ := hrel
    by_cases hlt : k < l.length
    · obtain ⟨b, off, rfl, p0, fv, p1, hIv⟩ := facts_at HA.out k hlt
      obtain ⟨b2, off2, rfl, r0, gv, r1, hJv⟩ := facts_at HB.out k hlt
      have hmem := factD_mem l k hlt
      have HIV : Hid (IntsV w fv (Rl.factD l k).args ∧ IntsV w gv (Rl.factD l k).args ∧ FFit (Rl.factD l k)) := ⟨hIv, hJv, HF.out _ hmem⟩
      obtain ⟨af, cf, rfl, _⟩ := hIv
      obtain ⟨ag, cg, rfl, _⟩ := hJv
      have a0 := cell_below hbw p0
      have a1 := cell_below hbw p1
      have c0 := cell_below hbw r0
      have c1 := cell_below hbw r1
      clear p0 p1 r0 r1 hmem
      generalize Rl.factD l k = g at *
      have HN : Hid (∀ z, Below wr.heap.size wr z → Calls Tryz.prog 44 #[fcVal g.pred (.slice af g.args.length cf), fcVal g.pred (.slice ag g.args.length cg)] z fun e w' => e = .returned (.int .i64 0) ∧ Below wr.heap.size wr w' ∧ w'.cell? ⟨b, off + k * 2, none⟩ = some (.int .i64 g.pred) ∧ w'.cell? ⟨b, off + k * 2 + 1, none⟩ = some (.slice af g.args.length cf) ∧ w'.cell? ⟨b2, off2 + k * 2, none⟩ = some (.int .i64 g.pred) ∧ w'.cell? ⟨b2, off2 + k * 2 + 1, none⟩ = some (.slice ag g.args.length cg)) := by
        intro z hz
        have hzw := hbw.trans (hz.mono hbw.size)
        refine (OrderOf_any g g _ _ z (intsV_below HIV.out.1 hzw) (intsV_below HIV.out.2.1 hzw) HIV.out.2.2 HIV.out.2.2).mono ?_
        rintro e w' ⟨h1, h2⟩
        have h3 := hz.trans (h2.mono hz.size)
        rw [Rl.ord_self] at h1
        exact ⟨h1, h3, cell_below h3 a0, cell_below h3 a1, cell_below h3 c0, cell_below h3 c1⟩
      have HGA : ∀ b o, Below wr.heap.size wr b → Below wr.heap.size wr (b.alloc o) := fun _ o h => h.alloc h.size o
      have HGD : ∀ b, Below wr.heap.size wr b → Below wr.heap.size wr b.drew := fun _ h => ⟨h.os, h.tape, h.output, h.size, h.block⟩
      have HGR : Below wr.heap.size wr wr := Below.refl _ _
      go_upto_region 6 with fail
      go_region_held3 (fun yy => yy.cell? ⟨b, off + k * 2, none⟩ = some (.int .i64 g.pred) ∧ yy.cell? ⟨b, off + k * 2 + 1, none⟩ = some (.slice af g.args.length cf) ∧ yy.cell? ⟨b2, off2 + k * 2, none⟩ = some (.int .i64 g.pred) ∧ yy.cell? ⟨b2, off2 + k * 2 + 1, none⟩ = some (.slice ag g.args.length cg) ∧ Below wr.heap.size wr yy) (go_keep) (
        (go_at_call 44; refine Calls.mono (HN.out _ ?_) ?_; (simp [*]); rintro e w2 ⟨rfl, hb2, hz2, hz3, hz4, hz5⟩))
      clear HGA HGD HGR HN hz2 hz3 hz4 hz5
      have hb3 := hbw.trans (hb2.mono hbw.size)
      clear a0 a1 c0 c1 hb2 hbw
      go_wp2_with fail
      go_roundw
      case rel => exact ⟨k + 1, by omega, by go_num, hb3⟩
      case measure => simp [intOf]; omega
    · go_wp2_with fail
      go_ret
      exact ⟨rfl, hbw⟩

end Go.Proofs.YthenjegmigeieaaGreat


/- Numbers that are raised along edges, round by round: they settle in as many rounds as there are numbers, or never; and are then the least. -/
namespace Go.Proofs.YthenjegmigeieaaGreat
namespace Fx

abbrev Edge := Nat × Nat × Int
def step (l : List Int) (e : Edge) : List Int := if l.getD e.1 0 < l.getD e.2.1 0 + e.2.2 then l.set e.1 (l.getD e.2.1 0 + e.2.2) else l
def round (E : List Edge) (l : List Int) : List Int := E.foldl step l
def iter (E : List Edge) : Nat → List Int → List Int
  | 0, l => l
  | k + 1, l => iter E k (round E l)
def Le (l o : List Int) : Prop := l.length = o.length ∧ ∀ i : Nat, l.getD i 0 ≤ o.getD i 0
def Fit (E : List Edge) (o : List Int) : Prop := ∀ e, e ∈ E → o.getD e.2.1 0 + e.2.2 ≤ o.getD e.1 0
def In (E : List Edge) (n : Nat) : Prop := ∀ e, e ∈ E → e.1 < n

theorem Le.refl (l : List Int) : Le l l := ⟨rfl, fun _ => Int.le_refl _⟩
theorem Le.trans {a b c : List Int} (h : Le a b) (k : Le b c) : Le a c := ⟨h.1.trans k.1, fun i => Int.le_trans (h.2 i) (k.2 i)⟩
theorem Le.anti {a b : List Int} (h : Le a b) (k : Le b a) : a = b := by
  refine List.ext_getElem h.1 fun i h1 h2 => ?_
  have := Int.le_antisymm (h.2 i) (k.2 i)
  rw [List.getD_eq_getElem?_getD, List.getD_eq_getElem?_getD, List.getElem?_eq_getElem h1, List.getElem?_eq_getElem h2] at this
  exact this
theorem getD_set (l : List Int) (h i : Nat) (v : Int) : (l.set h v).getD i 0 = if i = h ∧ h < l.length then v else l.getD i 0 := by
  rw [List.getD_eq_getElem?_getD, List.getElem?_set, List.getD_eq_getElem?_getD]
  by_cases hi : h = i
  · subst hi
    by_cases hl : h < l.length
    · simp [hl]
    · simp [hl]
  · rw [if_neg hi, if_neg (fun h => hi h.1.symm)]
theorem step_le (l : List Int) (e : Edge) : Le l (step l e) := by
  unfold step
  split
  · rename_i h
    refine ⟨by simp, fun i => ?_⟩
    rw [getD_set]
    split
    · rename_i h2; rw [h2.1]; omega
    · exact Int.le_refl _
  · exact Le.refl l
theorem step_length (l : List Int) (e : Edge) : (step l e).length = l.length := (step_le l e).1.symm
theorem round_le : ∀ (E : List Edge) (l : List Int), Le l (round E l)
  | [], l => Le.refl l
  | e :: E, l => (step_le l e).trans (round_le E (step l e))
theorem round_length (E : List Edge) (l : List Int) : (round E l).length = l.length := (round_le E l).1.symm
theorem step_fit {l o : List Int} {e : Edge} (h : Le l o) (hf : o.getD e.2.1 0 + e.2.2 ≤ o.getD e.1 0) : Le (step l e) o := by
  unfold step
  split
  · refine ⟨by simp [h.1], fun i => ?_⟩
    rw [getD_set]
    split
    · rename_i h2; rw [h2.1]; have := h.2 e.2.1; omega
    · exact h.2 i
  · exact h
theorem round_fit : ∀ (E : List Edge) {l o : List Int}, Le l o → Fit E o → Le (round E l) o
  | [], _, _, h, _ => h
  | e :: E, _, _, h, hf => round_fit E (step_fit h (hf e List.mem_cons_self)) (fun e' he => hf e' (List.mem_cons_of_mem _ he))
theorem step_reaches {l : List Int} {e : Edge} (h : e.1 < l.length) : l.getD e.2.1 0 + e.2.2 ≤ (step l e).getD e.1 0 := by
  unfold step
  split
  · rw [getD_set, if_pos ⟨rfl, h⟩]; exact Int.le_refl _
  · rename_i h2; omega
theorem round_reaches : ∀ (E : List Edge) {l : List Int}, In E l.length → ∀ e, e ∈ E → l.getD e.2.1 0 + e.2.2 ≤ (round E l).getD e.1 0
  | e0 :: E, l, hi, e, he => by
    rcases List.mem_cons.mp he with rfl | he
    · exact Int.le_trans (step_reaches (hi _ List.mem_cons_self)) ((round_le E (step l e)).2 _)
    · have h1 := round_reaches E (l := step l e0) (fun e' h' => by rw [step_length]; exact hi e' (List.mem_cons_of_mem _ h')) e he
      have h2 := (step_le l e0).2 e.2.1
      show _ ≤ (round E (step l e0)).getD e.1 0
      omega
theorem fit_of_fix {E : List Edge} {l : List Int} (hi : In E l.length) (h : round E l = l) : Fit E l := fun e he => by
  have := round_reaches E hi e he
  rw [h] at this
  exact this
theorem iter_succ (E : List Edge) : ∀ (k : Nat) (l : List Int), iter E (k + 1) l = round E (iter E k l)
  | 0, _ => rfl
  | k + 1, l => by show iter E (k + 1) (round E l) = _; rw [iter_succ E k (round E l)]; rfl
theorem iter_le (E : List Edge) : ∀ (k : Nat) (l : List Int), Le l (iter E k l)
  | 0, l => Le.refl l
  | k + 1, l => (round_le E l).trans (iter_le E k (round E l))
theorem iter_length (E : List Edge) (k : Nat) (l : List Int) : (iter E k l).length = l.length := (iter_le E k l).1.symm
theorem iter_fit (E : List Edge) : ∀ (k : Nat) {l o : List Int}, Le l o → Fit E o → Le (iter E k l) o
  | 0, _, _, h, _ => h
  | k + 1, _, _, h, hf => iter_fit E k (round_fit E h hf) hf
theorem iter_add (E : List Edge) : ∀ (j k : Nat) (l : List Int), iter E (j + k) l = iter E k (iter E j l)
  | 0, k, l => by rw [Nat.zero_add]; rfl
  | j + 1, k, l => by rw [Nat.add_right_comm]; exact iter_add E j k (round E l)
theorem iter_fix {E : List Edge} {l : List Int} (h : round E l = l) : ∀ k, iter E k l = l
  | 0 => rfl
  | k + 1 => by rw [iter_succ, iter_fix h k, h]

end Fx
end Go.Proofs.YthenjegmigeieaaGreat

/- Levels, needs and focus, plain. -/
namespace Go.Proofs.YthenjegmigeieaaGreat
namespace St
open Sc

/-! ### What a head hangs on -/
def hang (x : Sc.Lit) : Bool := decide (x.kind = 1 ∨ x.kind = 2)
def strict (r : Sc.Rule) (x : Sc.Lit) : Int := if x.kind = 2 ∨ r.fold ≠ 0 then 1 else 0
def ruleE (r : Sc.Rule) : List Fx.Edge := (r.body.filter hang).map fun x => (r.pred.toNat, x.pred.toNat, strict r x)
def edges (p : Sc.Prog) : List Fx.Edge := p.rules.flatMap ruleE
def zeros (n : Nat) : List Int := List.replicate n 0
def level (p : Sc.Prog) : List Int := Fx.iter (edges p) p.arity.length (zeros p.arity.length)
/-- Do they settle? -/
def flat (p : Sc.Prog) : Bool := decide (Fx.round (edges p) (level p) = level p)

theorem zeros_getD (n i : Nat) : (zeros n).getD i 0 = 0 := by
  unfold zeros
  rw [List.getD_eq_getElem?_getD, List.getElem?_replicate]
  split <;> rfl
theorem zeros_le {o : List Int} (h : ∀ i : Nat, 0 ≤ o.getD i 0) : Fx.Le (zeros o.length) o := ⟨by simp [zeros], fun i => by rw [zeros_getD]; exact h i⟩
theorem level_length (p : Sc.Prog) : (level p).length = p.arity.length := by unfold level; rw [Fx.iter_length]; simp [zeros]
theorem level_nonneg (p : Sc.Prog) (i : Nat) : 0 ≤ (level p).getD i 0 := by
  have := (Fx.iter_le (edges p) p.arity.length (zeros p.arity.length)).2 i
  rw [zeros_getD] at this
  exact this

/-- Numbers such as levels must be. -/
def fits (p : Sc.Prog) (o : List Int) : Prop := o.length = p.arity.length ∧ (∀ i : Nat, 0 ≤ o.getD i 0) ∧ Fx.Fit (edges p) o
theorem least {p : Sc.Prog} {o : List Int} (h : fits p o) (i : Nat) : (level p).getD i 0 ≤ o.getD i 0 := by
  have h1 : Fx.Le (zeros p.arity.length) o := by rw [← h.1]; exact zeros_le h.2.1
  exact (Fx.iter_fit (edges p) p.arity.length h1 h.2.2).2 i
theorem fits_level {p : Sc.Prog} (hi : Fx.In (edges p) p.arity.length) (h : flat p = true) : fits p (level p) :=
  ⟨level_length p, level_nonneg p, Fx.fit_of_fix (by rw [level_length]; exact hi) (of_decide_eq_true h)⟩

/-! ### What a predicate needs -/
end St

end Go.Proofs.YthenjegmigeieaaGreat

/- Package scope: literals that reckon, and what is no literal. -/
namespace Go.Proofs.YthenjegmigeieaaGreat
open Go.RowKit

set_option maxRecDepth 100000 in
set_option maxHeartbeats 1000000 in
theorem checkLit_3 (ar : List Int) (va vn vr : Value) (op pred : Int) (ts : List Sc.Term) (at_ : Option Addr) (ct : Nat) (w : World) :
    Calls Tryz.prog 208 #[progVal va vn vr, plitVal ⟨3, op, pred, ts⟩ (.slice at_ ts.length ct)] w fun e w' => e = finE (Sc.litErr ar ⟨3, op, pred, ts⟩) ∧ Below w.heap.size w w' := by
  have hb0 : Below w.heap.size w ((w.alloc (.cells #[va, vn, vr] 26)).alloc (.cells #[.int .i64 3, .int .i64 op, .int .i64 pred, .slice at_ ts.length ct] 49)) := below_two w _ _
  have HL : Hid (Sc.litErr ar ⟨3, op, pred, ts⟩ = if Tr.between op 1 4 then (if pred ≠ 0 ∨ ¬ ts.length = 2 then 1 else 0) else 3) := by
    show _ = _
    simp [Sc.litErr]
  by_cases h1 : op < 1
  · have HV : Hid (Sc.litErr ar ⟨3, op, pred, ts⟩ = 3) := by
      show _ = _
      have : ¬ 1 ≤ op := by omega
      rw [HL.out]; simp [Tr.between, this]
    have g1 : decide (op < 1) = true := decide_eq_true h1
    clear HL
    go_enter Tryz.func208, Tryz.ntmps208
    go_wp2_with fail
    refine (refuse_yes 3 _).mono ?_
    rintro e w1 ⟨rfl, hb1⟩
    go_wp2_with fail
    exact ⟨rfl, by rw [HV.out]; rfl, hb0.trans (hb1.mono hb0.size)⟩
  · have g1 : decide (op < 1) = false := decide_eq_false h1
    by_cases h2 : 4 < op
    · have HV : Hid (Sc.litErr ar ⟨3, op, pred, ts⟩ = 3) := by
        show _ = _
        have : ¬ op ≤ 4 := by omega
        rw [HL.out]; simp [Tr.between, this]
      have g2 : decide (4 < op) = true := decide_eq_true h2
      clear HL
      go_enter Tryz.func208, Tryz.ntmps208
      go_wp2_with fail
      refine (refuse_yes 3 _).mono ?_
      rintro e w1 ⟨rfl, hb1⟩
      go_wp2_with fail
      exact ⟨rfl, by rw [HV.out]; rfl, hb0.trans (hb1.mono hb0.size)⟩
    · have g2 : decide (4 < op) = false := decide_eq_false h2
      have HL2 : Hid (Sc.litErr ar ⟨3, op, pred, ts⟩ = if pred ≠ 0 ∨ ¬ ts.length = 2 then 1 else 0) := by
        show _ = _
        have p1 : 1 ≤ op := by omega
        have p2 : op ≤ 4 := by omega
        rw [HL.out]; simp [Tr.between, p1, p2]
      clear HL
      cases g3 : (pred != 0)
      · have p0 : pred = 0 := by simpa using g3
        by_cases h4 : ts.length = 2
        · have HV : Hid (Sc.litErr ar ⟨3, op, pred, ts⟩ = 0) := by show _ = _; rw [HL2.out]; simp [p0, h4]
          have g4 : ((ts.length : Int) != 2) = false := by rw [h4]; rfl
          clear HL2 p0 h4
          go_enter Tryz.func208, Tryz.ntmps208
          go_wp2_with fail
          refine (refuse_no 3 _).mono ?_
          rintro e w1 ⟨rfl, rfl⟩
          go_wp2_with fail
          refine (refuse_no 1 _).mono ?_
          rintro e w1 ⟨rfl, rfl⟩
          go_wp2_with fail
          exact ⟨rfl, .tuple #[], by simp [results, Tryz.results208], by rw [HV.out]; rfl, hb0⟩
        · have HV : Hid (Sc.litErr ar ⟨3, op, pred, ts⟩ = 1) := by show _ = _; rw [HL2.out]; simp [h4]
          have g4 : ((ts.length : Int) != 2) = true := by simp; omega
          clear HL2 p0 h4
          go_enter Tryz.func208, Tryz.ntmps208
          go_wp2_with fail
          refine (refuse_no 3 _).mono ?_
          rintro e w1 ⟨rfl, rfl⟩
          go_wp2_with fail
          refine (refuse_yes 1 _).mono ?_
          rintro e w1 ⟨rfl, hb1⟩
          go_wp2_with fail
          exact ⟨rfl, by rw [HV.out]; rfl, hb0.trans (hb1.mono hb0.size)⟩
      · have p0 : ¬ pred = 0 := by simpa using g3
        have HV : Hid (Sc.litErr ar ⟨3, op, pred, ts⟩ = 1) := by show _ = _; rw [HL2.out]; simp [p0]
        clear HL2 p0
        go_enter Tryz.func208, Tryz.ntmps208
        go_wp2_with fail
        refine (refuse_no 3 _).mono ?_
        rintro e w1 ⟨rfl, rfl⟩
        go_wp2_with fail
        refine (refuse_yes 1 _).mono ?_
        rintro e w1 ⟨rfl, hb1⟩
        go_wp2_with fail
        exact ⟨rfl, by rw [HV.out]; rfl, hb0.trans (hb1.mono hb0.size)⟩

set_option maxRecDepth 100000 in
set_option maxHeartbeats 1000000 in
theorem checkLit_4 (ar : List Int) (va vn vr : Value) (op pred : Int) (ts : List Sc.Term) (at_ : Option Addr) (ct : Nat) (w : World) :
    Calls Tryz.prog 208 #[progVal va vn vr, plitVal ⟨4, op, pred, ts⟩ (.slice at_ ts.length ct)] w fun e w' => e = finE (Sc.litErr ar ⟨4, op, pred, ts⟩) ∧ Below w.heap.size w w' := by
  have hb0 : Below w.heap.size w ((w.alloc (.cells #[va, vn, vr] 26)).alloc (.cells #[.int .i64 4, .int .i64 op, .int .i64 pred, .slice at_ ts.length ct] 49)) := below_two w _ _
  have HL : Hid (Sc.litErr ar ⟨4, op, pred, ts⟩ = if Tr.between op 5 7 then (if pred ≠ 0 ∨ ¬ ts.length = 3 then 1 else 0) else 3) := by
    show _ = _
    simp [Sc.litErr]
  by_cases h1 : op < 5
  · have HV : Hid (Sc.litErr ar ⟨4, op, pred, ts⟩ = 3) := by
      show _ = _
      have : ¬ 5 ≤ op := by omega
      rw [HL.out]; simp [Tr.between, this]
    have g1 : decide (op < 5) = true := decide_eq_true h1
    clear HL
    go_enter Tryz.func208, Tryz.ntmps208
    go_wp2_with fail
    refine (refuse_yes 3 _).mono ?_
    rintro e w1 ⟨rfl, hb1⟩
    go_wp2_with fail
    exact ⟨rfl, by rw [HV.out]; rfl, hb0.trans (hb1.mono hb0.size)⟩
  · have g1 : decide (op < 5) = false := decide_eq_false h1
    by_cases h2 : 7 < op
    · have HV : Hid (Sc.litErr ar ⟨4, op, pred, ts⟩ = 3) := by
        show _ = _
        have : ¬ op ≤ 7 := by omega
        rw [HL.out]; simp [Tr.between, this]
      have g2 : decide (7 < op) = true := decide_eq_true h2
      clear HL
      go_enter Tryz.func208, Tryz.ntmps208
      go_wp2_with fail
      refine (refuse_yes 3 _).mono ?_
      rintro e w1 ⟨rfl, hb1⟩
      go_wp2_with fail
      exact ⟨rfl, by rw [HV.out]; rfl, hb0.trans (hb1.mono hb0.size)⟩
    · have g2 : decide (7 < op) = false := decide_eq_false h2
      have HL2 : Hid (Sc.litErr ar ⟨4, op, pred, ts⟩ = if pred ≠ 0 ∨ ¬ ts.length = 3 then 1 else 0) := by
        show _ = _
        have p1 : 5 ≤ op := by omega
        have p2 : op ≤ 7 := by omega
        rw [HL.out]; simp [Tr.between, p1, p2]
      clear HL
      cases g3 : (pred != 0)
      · have p0 : pred = 0 := by simpa using g3
        by_cases h4 : ts.length = 3
        · have HV : Hid (Sc.litErr ar ⟨4, op, pred, ts⟩ = 0) := by show _ = _; rw [HL2.out]; simp [p0, h4]
          have g4 : ((ts.length : Int) != 3) = false := by rw [h4]; rfl
          clear HL2 p0 h4
          go_enter Tryz.func208, Tryz.ntmps208
          go_wp2_with fail
          refine (refuse_no 3 _).mono ?_
          rintro e w1 ⟨rfl, rfl⟩
          go_wp2_with fail
          refine (refuse_no 1 _).mono ?_
          rintro e w1 ⟨rfl, rfl⟩
          go_wp2_with fail
          exact ⟨rfl, .tuple #[], by simp [results, Tryz.results208], by rw [HV.out]; rfl, hb0⟩
        · have HV : Hid (Sc.litErr ar ⟨4, op, pred, ts⟩ = 1) := by show _ = _; rw [HL2.out]; simp [h4]
          have g4 : ((ts.length : Int) != 3) = true := by simp; omega
          clear HL2 p0 h4
          go_enter Tryz.func208, Tryz.ntmps208
          go_wp2_with fail
          refine (refuse_no 3 _).mono ?_
          rintro e w1 ⟨rfl, rfl⟩
          go_wp2_with fail
          refine (refuse_yes 1 _).mono ?_
          rintro e w1 ⟨rfl, hb1⟩
          go_wp2_with fail
          exact ⟨rfl, by rw [HV.out]; rfl, hb0.trans (hb1.mono hb0.size)⟩
      · have p0 : ¬ pred = 0 := by simpa using g3
        have HV : Hid (Sc.litErr ar ⟨4, op, pred, ts⟩ = 1) := by show _ = _; rw [HL2.out]; simp [p0]
        clear HL2 p0
        go_enter Tryz.func208, Tryz.ntmps208
        go_wp2_with fail
        refine (refuse_no 3 _).mono ?_
        rintro e w1 ⟨rfl, rfl⟩
        go_wp2_with fail
        refine (refuse_yes 1 _).mono ?_
        rintro e w1 ⟨rfl, hb1⟩
        go_wp2_with fail
        exact ⟨rfl, by rw [HV.out]; rfl, hb0.trans (hb1.mono hb0.size)⟩

set_option maxRecDepth 100000 in
set_option maxHeartbeats 1000000 in
theorem checkLit_else (ar : List Int) (va vn vr : Value) (kind op pred : Int) (ts : List Sc.Term) (at_ : Option Addr) (ct : Nat) (w : World) (h1 : ¬ kind = 1) (h2 : ¬ kind = 2) (h3 : ¬ kind = 3) (h4 : ¬ kind = 4) :
    Calls Tryz.prog 208 #[progVal va vn vr, plitVal ⟨kind, op, pred, ts⟩ (.slice at_ ts.length ct)] w fun e w' => e = finE (Sc.litErr ar ⟨kind, op, pred, ts⟩) ∧ Below w.heap.size w w' := by
  have hb0 : Below w.heap.size w ((w.alloc (.cells #[va, vn, vr] 26)).alloc (.cells #[.int .i64 kind, .int .i64 op, .int .i64 pred, .slice at_ ts.length ct] 49)) := below_two w _ _
  have HV : Hid (Sc.litErr ar ⟨kind, op, pred, ts⟩ = 7) := by show _ = _; simp [Sc.litErr, h1, h2, h3, h4]
  have g1 : (kind == 1) = false := by simpa using h1
  have g2 : (kind == 2) = false := by simpa using h2
  have g3 : (kind == 3) = false := by simpa using h3
  have g4 : (kind == 4) = false := by simpa using h4
  clear h1 h2 h3 h4
  go_enter Tryz.func208, Tryz.ntmps208
  go_wp2_with fail
  refine (refuse_yes 7 _).mono ?_
  rintro e w1 ⟨rfl, hb1⟩
  go_wp2_with fail
  exact ⟨rfl, by rw [HV.out]; rfl, hb0.trans (hb1.mono hb0.size)⟩

/-- A literal, all but its terms. -/
theorem checkLit_any (ar : List Int) (va vn vr : Value) (x : Sc.Lit) (v : Value) (w : World) (hA : IntsV w va ar) (hT : ∃ ao cap, v = .slice ao x.terms.length cap) :
    Calls Tryz.prog 208 #[progVal va vn vr, plitVal x v] w fun e w' => e = finE (Sc.litErr ar x) ∧ Below w.heap.size w w' := by
  obtain ⟨kind, op, pred, ts⟩ := x
  obtain ⟨at_, ct, rfl⟩ := hT
  obtain ⟨ao, cap, rfl, hA⟩ := hA
  by_cases h : kind = 1 ∨ kind = 2
  · exact checkLit_pred ar ao cap vn vr kind op pred ts at_ ct w hA h
  · by_cases h3 : kind = 3
    · subst h3; exact checkLit_3 ar _ vn vr op pred ts at_ ct w
    · by_cases h4 : kind = 4
      · subst h4; exact checkLit_4 ar _ vn vr op pred ts at_ ct w
      · exact checkLit_else ar _ vn vr kind op pred ts at_ ct w (fun e => h (.inl e)) (fun e => h (.inr e)) h3 h4

end Go.Proofs.YthenjegmigeieaaGreat

/- Package scope: which variables are bound. -/
namespace Go.Proofs.YthenjegmigeieaaGreat
open Go.RowKit

/-- The block of what is bound: a box with a slice of bools. -/
structure Bd (w : World) (X : Nat) (R : Nat) (bs : List Bool) : Prop where
  box : w.heap[X]? = some (.cells #[.slice (some ⟨R, 0, none⟩) bs.length bs.length] 57 (0, 0))
  row : w.heap[R]? = some (.cells (bs.map Value.bool).toArray 4 (0, 0))
theorem Bd.c0 {w : World} {X R : Nat} {bs : List Bool} (h : Bd w X R bs) : w.cell? ⟨X, 0, none⟩ = some (.slice (some ⟨R, 0, none⟩) bs.length bs.length) := by rw [Lib.cell_of_heap h.box]; rfl
theorem Bd.at {w : World} {X R : Nat} {bs : List Bool} (h : Bd w X R bs) (i : Nat) (hi : i < bs.length) : w.cell? ⟨R, i, none⟩ = some (.bool (bs.getD i false)) := by
  rw [Lib.cell_of_heap h.row]
  simp [List.getD_eq_getElem?_getD, hi]
theorem Bd.below {w w' : World} {X R : Nat} {bs : List Bool} (h : Bd w X R bs) (hb : Below w.heap.size w w') : Bd w' X R bs :=
  ⟨(hb.block _ (heap_lt h.box)).trans h.box, (hb.block _ (heap_lt h.row)).trans h.row⟩

set_option maxRecDepth 100000 in
set_option maxHeartbeats 400000 in
theorem known_any (X R : Nat) (bs : List Bool) (t : Sc.Term) (w : World) (hB : Bd w X R bs) (ht : t.var < bs.length) :
    Calls Tryz.prog 223 #[ptermVal t, .pointer (some ⟨X, 0, none⟩)] w fun e w' => e = .returned (.bool (Sc.known bs t)) ∧ Below w.heap.size w w' := by
  have hc0 := hB.c0
  have hX := heap_lt hB.box
  have hR := heap_lt hB.row
  have hb0 : ∀ o, Below w.heap.size w (w.alloc o) := fun o => (Below.refl _ _).alloc (Nat.le_refl _) o
  unfold Sc.known
  by_cases h : t.var < 0
  · have g : decide (t.var < 0) = true := decide_eq_true h
    go_enter Tryz.func223, Tryz.ntmps223
    go_wp2
    go_ret
    exact ⟨by rw [g]; rfl, hb0 _⟩
  · have g : decide (t.var < 0) = false := decide_eq_false h
    obtain ⟨k, hk⟩ : ∃ k : Nat, t.var = k := ⟨t.var.toNat, by omega⟩
    have hkl : k < bs.length := by omega
    have hcR := hB.at k hkl
    obtain ⟨var, nn⟩ := t
    simp only at hk ht h g
    subst hk
    clear h ht hB
    go_enter Tryz.func223, Tryz.ntmps223
    go_wp2_with fail
    go_ret
    exact ⟨by rw [g]; simp [hkl], hb0 _⟩

theorem enters223 : Enters 223 := enters_of Tryz.func223 (by kernel_rfl) rfl
/-- What binds may lean on. -/
def LitGood (n : Nat) (x : Sc.Lit) : Prop := (x.kind = 4 → x.terms.length = 3) ∧ (∀ t, t ∈ x.terms → t.var < n) ∧ x.terms.length ≤ 9223372036854775807
theorem good_at {n : Nat} {x : Sc.Lit} (h : LitGood n x) (i : Nat) (hi : i < x.terms.length) : (Sc.termD x.terms i).var < n := by
  refine h.2.1 _ ?_
  unfold Sc.termD
  rw [List.getD_eq_getElem?_getD, List.getElem?_eq_getElem hi]
  exact List.getElem_mem hi
theorem pterms_at {w : World} {ao : Option Addr} {l : List Sc.Term} (h : PTermsAt w ao l) (n : Nat) (hn : n < l.length) : ∃ b off, ao = some ⟨b, off, none⟩ ∧ ∀ i, i < l.length → PTermIn w b (off + i * 2) (Sc.termD l i) := by
  rcases h with h | ⟨b, off, ha, hc⟩
  · rw [h] at hn; exact absurd hn (by simp)
  · exact ⟨b, off, ha, hc⟩

set_option maxRecDepth 100000 in
set_option maxHeartbeats 1000000 in
theorem binds_any (X R : Nat) (bs : List Bool) (x : Sc.Lit) (v : Value) (w : World) (hB : Bd w X R bs) (hT : PTermsV w v x.terms) (hG : LitGood bs.length x) :
    Calls Tryz.prog 224 #[plitVal x v, .func (.func 223) #[] #[.pointer (some ⟨X, 0, none⟩)]] w fun e w' => ∃ u, e = .returned u ∧ (∀ y, PTermsV y v x.terms → PTermsV y u (Sc.binds bs x)) ∧ Below w.heap.size w w' := by
  have he := enters223
  unfold Enters at he
  have hb0 : ∀ o, Below w.heap.size w (w.alloc o) := fun o => (Below.refl _ _).alloc (Nat.le_refl _) o
  obtain ⟨kind, op, pred, ts⟩ := x
  obtain ⟨ao, cap, rfl, hcap, hA⟩ := hT
  have hA : PTermsAt w ao ts := hA
  have HT : Hid (PTermsAt w ao ts) := hA
  have hcap : ts.length ≤ cap := hcap
  cases g1 : (kind == 1)
  · have h1 : ¬ kind = 1 := by simpa using g1
    cases g4 : (kind == 4)
    · have h4 : ¬ kind = 4 := by simpa using g4
      have HV : Hid (Sc.binds bs ⟨kind, op, pred, ts⟩ = []) := by show _ = _; simp [Sc.binds, h1, h4]
      clear h1 h4 hA
      go_enter Tryz.func224, Tryz.ntmps224
      go_wp2_with fail
      go_ret
      exact ⟨_, rfl, by rw [HV.out]; exact fun _ _ => ⟨none, 0, rfl, Nat.le_refl _, .inl rfl⟩, hb0 _⟩
    · have h4 : kind = 4 := by simpa using g4
      have hl : ts.length = 3 := hG.1 h4
      obtain ⟨b, off, rfl, hc⟩ := pterms_at hA 0 (by omega)
      obtain ⟨a0, a1⟩ := hc 0 (by omega)
      obtain ⟨a2, a3⟩ := hc 1 (by omega)
      have hv0 : (Sc.termD ts 0).var < bs.length := good_at hG 0 (show 0 < ts.length by omega)
      have hv1 : (Sc.termD ts 1).var < bs.length := good_at hG 1 (show 1 < ts.length by omega)
      simp only [Nat.zero_mul, Nat.one_mul, Nat.add_zero] at a0 a1 a2 a3
      have hbw : b < w.heap.size := World.block_lt_of_cell? w _ a0
      have HK0 : Hid (∀ y, Below w.heap.size w y → Calls Tryz.prog 223 #[ptermVal (Sc.termD ts 0), .pointer (some ⟨X, 0, none⟩)] y fun e w' => e = .returned (.bool (Sc.known bs (Sc.termD ts 0))) ∧ Below y.heap.size y w') := fun y hy => known_any X R bs _ y (hB.below hy) hv0
      have HK1 : Hid (∀ y, Below w.heap.size w y → Calls Tryz.prog 223 #[ptermVal (Sc.termD ts 1), .pointer (some ⟨X, 0, none⟩)] y fun e w' => e = .returned (.bool (Sc.known bs (Sc.termD ts 1))) ∧ Below y.heap.size y w') := fun y hy => known_any X R bs _ y (hB.below hy) hv1
      have HB : Hid (Sc.binds bs ⟨kind, op, pred, ts⟩ = if Sc.known bs (Sc.termD ts 0) = true ∧ Sc.known bs (Sc.termD ts 1) = true then ts.drop 2 else []) := by show _ = _; simp [Sc.binds, h4]
      have HC : Hid (∀ i, i < ts.length → PTermIn w b (off + i * 2) (Sc.termD ts i)) := hc
      subst h4
      have hl' : Hid (ts.length = 3) := hl
      have hcap3 : 3 ≤ cap := by omega
      have hX0 := heap_alloc_new w (.cells #[.int .i64 4, .int .i64 op, .int .i64 pred, .slice (some ⟨b, off, none⟩) 3 cap] 49)
      have hbx := hb0 (.cells #[.int .i64 4, .int .i64 op, .int .i64 pred, .slice (some ⟨b, off, none⟩) 3 cap] 49)
      rw [show ts.length = 3 from hl]
      clear hc hA HT hB hG hcap hl h1
      generalize hT0 : Sc.termD ts 0 = t0 at *
      generalize hT1 : Sc.termD ts 1 = t1 at *
      clear hT0 hT1
      go_enter Tryz.func224, Tryz.ntmps224
      go_wp2_with fail
      refine Calls.mono (HK0.out _ hbx) ?_
      rintro e w1 ⟨rfl, hb1⟩
      have hX1 := (hb1.block _ (heap_lt hX0)).trans hX0
      have hw1 := hbx.trans (hb1.mono hbx.size)
      have b0 := cell_below hw1 a0
      have b1 := cell_below hw1 a1
      have b2 := cell_below hw1 a2
      have b3 := cell_below hw1 a3
      have d0 : w1.cell? ⟨w.heap.size, 3, none⟩ = some (.slice (some ⟨b, off, none⟩) 3 cap) := by rw [Lib.cell_of_heap hX1]; rfl
      clear hb1 hX0 hbx HK0
      cases hk0 : Sc.known bs t0
      · have HV : Hid (Sc.binds bs ⟨4, op, pred, ts⟩ = []) := by show _ = _; rw [HB.out, hk0]; simp
        go_wp2_with fail
        go_ret
        exact ⟨_, rfl, by rw [HV.out]; exact fun _ _ => ⟨none, 0, rfl, Nat.le_refl _, .inl rfl⟩, hw1⟩
      · go_wp2_with fail
        refine Calls.mono (HK1.out _ hw1) ?_
        rintro e w2 ⟨rfl, hb2⟩
        have hX2 := (hb2.block _ (heap_lt hX1)).trans hX1
        have hw2 := hw1.trans (hb2.mono hw1.size)
        have d2 : w2.cell? ⟨w.heap.size, 3, none⟩ = some (.slice (some ⟨b, off, none⟩) 3 cap) := by rw [Lib.cell_of_heap hX2]; rfl
        clear hb2 hX1 d0 b0 b1 b2 b3
        cases hk1 : Sc.known bs t1
        · have HV : Hid (Sc.binds bs ⟨4, op, pred, ts⟩ = []) := by show _ = _; rw [HB.out, hk0, hk1]; simp
          go_wp2_with fail
          go_ret
          exact ⟨_, rfl, by rw [HV.out]; exact fun _ _ => ⟨none, 0, rfl, Nat.le_refl _, .inl rfl⟩, hw2⟩
        · have HV : Hid (Sc.binds bs ⟨4, op, pred, ts⟩ = ts.drop 2) := by show _ = _; rw [HB.out, hk0, hk1]; simp
          go_wp2_with fail
          go_ret
          refine ⟨_, rfl, ?_, hw2⟩
          rw [HV.out]
          show ∀ y, PTermsV y (.slice (some ⟨b, off, none⟩) 3 cap) ts → PTermsV y (.slice (some ⟨b, off + 4, none⟩) 1 (cap - 2)) (ts.drop 2)
          intro y hy
          have hl1 : (ts.drop 2).length = 1 := by rw [List.length_drop, hl'.out]
          refine ⟨some ⟨b, off + 4, none⟩, cap - 2, by rw [hl1], by omega, .inr ⟨b, off + 4, rfl, fun i hi => ?_⟩⟩
          obtain rfl : i = 0 := by omega
          obtain ⟨ao', cap', hv, _, hy⟩ := hy
          injection hv with e1 e2 e3
          subst e1
          obtain ⟨b', off', hb', hy⟩ := pterms_at hy 2 (by rw [hl'.out]; omega)
          obtain ⟨rfl, rfl⟩ : b = b' ∧ off = off' := by simpa using hb'
          have h2 := hy 2 (by rw [hl'.out]; omega)
          have hd : Sc.termD (ts.drop 2) 0 = Sc.termD ts 2 := by simp [Sc.termD, List.getD_eq_getElem?_getD]
          rw [hd]
          exact h2
  · have h1 : kind = 1 := by simpa using g1
    have HV : Hid (Sc.binds bs ⟨kind, op, pred, ts⟩ = ts) := by show _ = _; simp [Sc.binds, h1]
    clear h1 hA
    go_enter Tryz.func224, Tryz.ntmps224
    go_wp2_with fail
    go_ret
    exact ⟨_, rfl, by rw [HV.out]; exact fun _ h => h, hb0 _⟩

set_option maxRecDepth 100000 in
set_option maxHeartbeats 400000 in
theorem index_any (R : Nat) (bs : List Bool) (n cap : Nat) (w : World) (hn : bs.length = n) (hmax : n ≤ 9223372036854775807) (hB : ∀ i, i < n → w.cell? ⟨R, i, none⟩ = some (.bool (bs.getD i false))) :
    Calls Tryz.prog 232 #[.slice (some ⟨R, 0, none⟩) n cap, .bool false] w fun e w' => ∃ r : Int, e = .returned (.int .i64 r) ∧ decide (0 ≤ r) = !(bs.all id) ∧ ∃ k, w' = w.drewN k := by
  have HN : Hid (bs.length = n) := hn
  clear hn
  go_enter Tryz.func232, Tryz.ntmps232
  go_wp2_with fail
  go_loopw [8] (fun i wr => ∃ k : Nat, k ≤ n ∧ i = .int .i64 k ∧ bs.all id = (bs.drop k).all id ∧ ∃ q, wr = w.drewN q) (fun i _ => n - (intOf i).toNat)
  case atStart => exact ⟨0, Nat.zero_le _, rfl, rfl, 0, rfl⟩
  case round =>
    obtain ⟨k, hk, rfl, hall, q, rfl⟩ := hrel
    have HA : Hid (bs.all id = (bs.drop k).all id) := hall
    clear hall
    by_cases hlt : k < n
    · have hc := hB k hlt
      have HD : Hid (bs.all id = (bs.getD k false && (bs.drop (k + 1)).all id)) := HA.out.trans (all_drop _ _ _ k (by rw [HN.out]; exact hlt))
      clear hB HA
      generalize bs.getD k false = x at *
      cases x
      · have HV : Hid (bs.all id = false) := HD.out
        go_wp2_with fail
        go_ret
        exact ⟨k, rfl, by rw [HV.out]; simp, _, rfl⟩
      · have HV : Hid (bs.all id = (bs.drop (k + 1)).all id) := by show _ = _; rw [HD.out]; rfl
        clear HD
        go_wp2_with fail
        go_roundw
        case rel => exact ⟨k + 1, by omega, by go_num, HV.out, _, rfl⟩
        case measure => simp [intOf]; omega
    · have HV : Hid (bs.all id = true) := by show _ = _; rw [HA.out, List.drop_of_length_le (by rw [HN.out]; omega)]; rfl
      clear hB
      go_wp2_with fail
      go_ret
      exact ⟨-1, rfl, by rw [HV.out]; rfl, _, rfl⟩

set_option maxRecDepth 100000 in
set_option maxHeartbeats 400000 in
theorem contains_any (R : Nat) (bs : List Bool) (n cap : Nat) (w : World) (hn : bs.length = n) (hmax : n ≤ 9223372036854775807) (hB : ∀ i, i < n → w.cell? ⟨R, i, none⟩ = some (.bool (bs.getD i false))) :
    Calls Tryz.prog 225 #[.slice (some ⟨R, 0, none⟩) n cap, .bool false] w fun e w' => e = .returned (.bool (!(bs.all id))) ∧ ∃ k, w' = w.drewN k := by
  go_enter Tryz.func225, Tryz.ntmps225
  go_wp2_with fail
  refine (index_any R bs n cap w hn hmax hB).mono ?_
  rintro e w1 ⟨r, rfl, hr, k, rfl⟩
  go_wp2_with fail
  go_ret
  exact ⟨rfl, _, rfl⟩

/-- A rule whose literals are right. -/
def RuleGood (r : Sc.Rule) : Prop := 0 ≤ r.vars ∧ r.vars ≤ 8 ∧ r.body.length ≤ 4 ∧ ∀ i, i < r.body.length → LitGood r.vars.toNat (Sc.litD r.body i)

/-- What stands while isSafe goes on. -/
structure SInv (w : World) (rb : Obj) (X R : Nat) (bs : List Bool) (wr : World) : Prop where
  bel : Below w.heap.size w wr
  box : wr.heap[w.heap.size]? = some rb
  bd : Bd wr X R bs
  r0 : w.heap.size < R
  r1 : R < X
theorem SInv.below {w wr w2 : World} {rb : Obj} {X R : Nat} {bs : List Bool} (h : SInv w rb X R bs wr) (hb : Below wr.heap.size wr w2) : SInv w rb X R bs w2 :=
  ⟨h.bel.trans (hb.mono h.bel.size), (hb.block _ (heap_lt h.box)).trans h.box, h.bd.below hb, h.r0, h.r1⟩
theorem SInv.set {w wr : World} {rb : Obj} {X R : Nat} {bs : List Bool} (h : SInv w rb X R bs wr) (k : Nat) : SInv w rb X R (bs.set k true) (wr.setCell ⟨R, k, none⟩ (.bool true)) := by
  have h0 := h.r0
  have h1 := h.r1
  refine ⟨h.bel.setCell (p := ⟨R, k, none⟩) (Nat.le_of_lt h0) _, ?_, ⟨?_, ?_⟩, h0, h1⟩
  · rw [Below.heap_setCell _ _ _ _ (show ¬ w.heap.size = R by omega)]; exact h.box
  · rw [Below.heap_setCell _ _ _ _ (show ¬ X = R by omega), List.length_set]; exact h.bd.box
  · rw [Lib.heap_setCell_same h.bd.row]
    simp [List.map_set]
theorem made_bools (n : Nat) : madeCells #[Value.bool false] n = ((List.replicate n false).map Value.bool).toArray := by
  apply Array.ext
  · simp [size_madeCells]
  · intro i h1 h2
    simp [madeCells, Nat.mod_one]
theorem rounds_step (body : List Sc.Lit) (n k : Nat) (h : k < n) (b : List Bool) : Sc.rounds body (n - k) b = Sc.rounds body (n - (k + 1)) (Sc.round body b) := by
  obtain ⟨m, hm⟩ : ∃ m, n - k = m + 1 := ⟨n - k - 1, by omega⟩
  rw [hm, show n - (k + 1) = m by omega]
  rfl
theorem foldl_drop {α β : Type} (f : β → α → β) (d : α) (l : List α) (k : Nat) (h : k < l.length) (b : β) : (l.drop k).foldl f b = (l.drop (k + 1)).foldl f (f b (l.getD k d)) := by
  rw [List.drop_eq_getElem_cons h, List.foldl_cons, List.getD_eq_getElem?_getD, List.getElem?_eq_getElem h]
  rfl
theorem binds_sub {bs : List Bool} {x : Sc.Lit} {t : Sc.Term} (h : t ∈ Sc.binds bs x) : t ∈ x.terms := by
  unfold Sc.binds at h
  split at h
  · exact h
  · split at h
    · exact List.mem_of_mem_drop h
    · simp at h
theorem binds_len (bs : List Bool) (x : Sc.Lit) : (Sc.binds bs x).length ≤ x.terms.length := by
  unfold Sc.binds
  split
  · exact Nat.le_refl _
  · split
    · simp
    · simp
theorem termD_mem {l : List Sc.Term} {i : Nat} (h : i < l.length) : Sc.termD l i ∈ l := by
  unfold Sc.termD
  rw [List.getD_eq_getElem?_getD, List.getElem?_eq_getElem h]
  exact List.getElem_mem h
theorem plits_at {w : World} {ao : Option Addr} {l : List Sc.Lit} (h : PLitsAt w ao l) (n : Nat) (hn : n < l.length) : ∃ b off, ao = some ⟨b, off, none⟩ ∧ PLitIn w b (off + n * 4) (Sc.litD l n) := by
  rcases h with h | ⟨b, off, ha, hc⟩
  · rw [h] at hn; exact absurd hn (by simp)
  · exact ⟨b, off, ha, hc n hn⟩

set_option maxRecDepth 100000 in
set_option maxHeartbeats 1000000 in
theorem isSafe_any (r : Sc.Rule) (vt vb : Value) (w : World) (hL : PLitsV w vb r.body) (hG : RuleGood r) :
    Calls Tryz.prog 209 #[pruleVal r vt vb] w fun e w' => e = .returned (.bool (Sc.safe r)) ∧ Below w.heap.size w w' := by
  obtain ⟨pred, ts, fold, body, vars⟩ := r
  obtain ⟨h0, h8, h4, hG⟩ := hG
  obtain ⟨nv, hnv⟩ : ∃ nv : Nat, vars = nv := ⟨vars.toNat, by simp only at h0; omega⟩
  subst hnv
  simp only [Int.toNat_natCast] at *
  obtain ⟨ab, cb, rfl, hL⟩ := hL
  have hmk := run_make_row' (P := Tryz.prog) 57 4 (.bool false) 1 Tryz.underlying57 (by kernel_rfl) rfl .i64 .i64 nv (by omega) (by omega)
  have hmf : ∀ (fn : Fn) (first cap : Array Value) (w : World), (Instr.makeFunc fn first cap).run Tryz.prog w = .ok (.func fn first cap) w := fun _ _ _ _ => rfl
  have hst : SInv w (.cells #[.int .i64 pred, vt, .int .i64 fold, .slice ab body.length cb, .int .i64 nv] 40) (w.heap.size + 1 + 1) (w.heap.size + 1) (List.replicate nv false) (((w.alloc (.cells #[.int .i64 pred, vt, .int .i64 fold, .slice ab body.length cb, .int .i64 nv] 40)).alloc (.cells (madeCells #[Value.bool false] nv) 4)).alloc (.cells #[.slice (some ⟨w.heap.size + 1, 0, none⟩) nv nv] 57)) := by
    have e1 := heap_alloc_new w (.cells #[.int .i64 pred, vt, .int .i64 fold, .slice ab body.length cb, .int .i64 nv] 40)
    have e2 := heap_alloc_new (w.alloc (.cells #[.int .i64 pred, vt, .int .i64 fold, .slice ab body.length cb, .int .i64 nv] 40)) (.cells (madeCells #[Value.bool false] nv) 4)
    have e3 := heap_alloc_new ((w.alloc (.cells #[.int .i64 pred, vt, .int .i64 fold, .slice ab body.length cb, .int .i64 nv] 40)).alloc (.cells (madeCells #[Value.bool false] nv) 4)) (.cells #[.slice (some ⟨w.heap.size + 1, 0, none⟩) nv nv] 57)
    have s1 : (w.alloc (.cells #[.int .i64 pred, vt, .int .i64 fold, .slice ab body.length cb, .int .i64 nv] 40)).heap.size = w.heap.size + 1 := by simp
    have s2 : ((w.alloc (.cells #[.int .i64 pred, vt, .int .i64 fold, .slice ab body.length cb, .int .i64 nv] 40)).alloc (.cells (madeCells #[Value.bool false] nv) 4)).heap.size = w.heap.size + 1 + 1 := by simp
    rw [s1] at e2
    rw [s2] at e3
    have B : ∀ (u : World) (o : Obj), Below u.heap.size u (u.alloc o) := fun u o => (Below.refl _ _).alloc (Nat.le_refl _) o
    have b2 := B (w.alloc (.cells #[.int .i64 pred, vt, .int .i64 fold, .slice ab body.length cb, .int .i64 nv] 40)) (.cells (madeCells #[Value.bool false] nv) 4)
    have b3 := B ((w.alloc (.cells #[.int .i64 pred, vt, .int .i64 fold, .slice ab body.length cb, .int .i64 nv] 40)).alloc (.cells (madeCells #[Value.bool false] nv) 4)) (.cells #[.slice (some ⟨w.heap.size + 1, 0, none⟩) nv nv] 57)
    have b1 := B w (.cells #[.int .i64 pred, vt, .int .i64 fold, .slice ab body.length cb, .int .i64 nv] 40)
    have b12 := b1.trans (b2.mono b1.size)
    refine ⟨b12.trans (b3.mono b12.size), (b3.block _ (by rw [s2]; omega)).trans ((b2.block _ (by rw [s1]; omega)).trans e1), ⟨by simpa using e3, ?_⟩, by omega, by omega⟩
    rw [← made_bools]
    exact (b3.block _ (by rw [s2]; omega)).trans e2
  have HS : Hid (Sc.safe ⟨pred, ts, fold, body, nv⟩ = (Sc.rounds body body.length (List.replicate nv false)).all id) := rfl
  have hlen0 : (List.replicate nv false).length = nv := by simp
  go_enter Tryz.func209, Tryz.ntmps209
  go_wp2_with fail
  generalize ((w.alloc (.cells #[.int .i64 pred, vt, .int .i64 fold, .slice ab body.length cb, .int .i64 nv] 40)).alloc (.cells (madeCells #[Value.bool false] nv) 4)).alloc (.cells #[.slice (some ⟨w.heap.size + 1, 0, none⟩) nv nv] 57) = w0 at *
  generalize w.heap.size + 1 + 1 = X at *
  generalize hR : w.heap.size + 1 = R at *
  clear hR
  generalize List.replicate nv false = bz at *
  generalize hrb : Obj.cells #[.int .i64 pred, vt, .int .i64 fold, .slice ab body.length cb, .int .i64 nv] 40 = rb at *
  have HRB : Hid _ := hrb
  clear hrb
  go_loopw [16] (fun i wr => ∃ (k : Nat) (bs : List Bool), k ≤ body.length ∧ i = .int .i64 k ∧ SInv w rb X R bs wr ∧ bs.length = nv ∧ Sc.rounds body (body.length - k) bs = Sc.rounds body body.length bz) (fun i _ => body.length - (intOf i).toNat)
  case atStart => exact ⟨0, bz, Nat.zero_le _, rfl, hst, hlen0, rfl⟩
  case round =>
    obtain ⟨k, bs0, hk, rfl, hI, hn0, hrd⟩ := hrel
    have HR : Hid _ := hrd
    clear hrd hst hlen0
    have cb3 : wr.cell? ⟨w.heap.size, 3, none⟩ = some (.slice ab body.length cb) := by rw [Lib.cell_of_heap (hI.box.trans (congrArg some HRB.out.symm))]; rfl
    by_cases hlt : k < body.length
    · go_wp2_with fail
      go_loopw [21] (fun i wq => ∃ (j : Nat) (bs : List Bool), j ≤ body.length ∧ i = .int .i64 j ∧ SInv w rb X R bs wq ∧ bs.length = nv ∧ (body.drop j).foldl Sc.bindLit bs = Sc.round body bs0) (fun i _ => body.length - (intOf i).toNat)
      case atStart => exact ⟨0, bs0, Nat.zero_le _, rfl, hI, hn0, rfl⟩
      case round =>
        clear hI cb3 hn0
        obtain ⟨j, bs1, hj, rfl, hI, hn1, hfd⟩ := hrel
        have HFD : Hid _ := hfd
        clear hfd
        by_cases hjl : j < body.length
        · obtain ⟨b, off, rfl, p0, p1, p2, v, p3, hT⟩ := plits_at hL j hjl
          have HT : Hid (PTermsV w v (Sc.litD body j).terms) := hT
          obtain ⟨at_, ct, rfl, _, _⟩ := hT
          have q0 := cell_below hI.bel p0
          have q1 := cell_below hI.bel p1
          have q2 := cell_below hI.bel p2
          have q3 := cell_below hI.bel p3
          have hg := hG j hjl
          rw [← hn1] at hg
          have HF2 : Hid ((body.drop (j + 1)).foldl Sc.bindLit (Sc.bindLit bs1 (Sc.litD body j)) = Sc.round body bs0) := (foldl_drop Sc.bindLit ⟨0, 0, 0, []⟩ body j hjl bs1).symm.trans HFD.out
          have hb1 : Below wr.heap.size wr (wr.alloc (.cells #[.int .i64 (Sc.litD body j).kind, .int .i64 (Sc.litD body j).op, .int .i64 (Sc.litD body j).pred, .slice at_ (Sc.litD body j).terms.length ct] 49)) := (Below.refl _ _).alloc (Nat.le_refl _) _
          have hI1 := hI.below hb1
          clear p0 p1 p2 p3 hb1 hI HFD
          generalize hx : Sc.litD body j = x at *
          clear hx
          go_wp2_with fail
          refine Calls.mono (binds_any X R bs1 x (.slice at_ x.terms.length ct) _ hI1.bd (ptermsV_below HT.out hI1.bel) hg) ?_
          rintro e w2 ⟨u, rfl, hu, hb2⟩
          have hI2 := hI1.below hb2
          have hU := hu w HT.out
          have hv : ∀ i, i < (Sc.binds bs1 x).length → (Sc.termD (Sc.binds bs1 x) i).var < nv := fun i hi => by
            have := hg.2.1 _ (binds_sub (termD_mem hi))
            rw [hn1] at this
            exact this
          have hql : (Sc.binds bs1 x).length ≤ 9223372036854775807 := Nat.le_trans (binds_len bs1 x) hg.2.2
          have HV2 : Hid ((body.drop (j + 1)).foldl Sc.bindLit (Sc.bindAll bs1 (Sc.binds bs1 x)) = Sc.round body bs0) := HF2.out
          clear hu hI1 hb2 q0 q1 q2 q3 HT HF2
          generalize Sc.binds bs1 x = q at *
          obtain ⟨ao, cp, rfl, _, hU⟩ := hU
          go_wp2_with fail
          go_loopw [29] (fun i wz => ∃ (m : Nat) (bs : List Bool), m ≤ q.length ∧ i = .int .i64 m ∧ SInv w rb X R bs wz ∧ bs.length = nv ∧ Sc.bindAll bs (q.drop m) = Sc.bindAll bs1 q) (fun i _ => q.length - (intOf i).toNat)
          case atStart => exact ⟨0, bs1, Nat.zero_le _, rfl, hI2, hn1, rfl⟩
          case round =>
            clear hI2
            obtain ⟨m, bs2, hm, rfl, hI, hn2, hbd⟩ := hrel
            have HBD : Hid _ := hbd
            clear hbd
            by_cases hml : m < q.length
            · obtain ⟨b3, off3, rfl, hc⟩ := pterms_at hU m hml
              obtain ⟨r0, r1⟩ := hc m hml
              have s0 := cell_below hI.bel r0
              have s1 := cell_below hI.bel r1
              have hvm := hv m hml
              have HB2 : Hid (Sc.bindAll (Sc.bind1 bs2 (Sc.termD q m)) (q.drop (m + 1)) = Sc.bindAll bs1 q) := (foldl_drop Sc.bind1 ⟨0, 0⟩ q m hml bs2).symm.trans HBD.out
              clear HBD r0 r1 hc hU hv
              generalize hT0 : Sc.termD q m = t0 at *
              clear hT0
              obtain ⟨var, nn⟩ := t0
              have hb1 : Below wr.heap.size wr (wr.alloc (.cells #[.int .i64 var, .int .i64 nn] 147)) := (Below.refl _ _).alloc (Nat.le_refl _) _
              have hI3 := hI.below hb1
              have hRlt := heap_lt hI.bd.row
              have hXlt := heap_lt hI.bd.box
              by_cases h5 : 0 ≤ var
              · have g5 : decide (0 ≤ var) = true := decide_eq_true h5
                obtain ⟨kv, rfl⟩ : ∃ kv : Nat, var = kv := ⟨var.toNat, by omega⟩
                have hkl : kv < nv := by simp only at hvm; omega
                have hc0 := hI3.bd.c0
                rw [hn2] at hc0
                have hcR := hI3.bd.at kv (by omega)
                have hfR := Lib.frozen_of_heap hI3.bd.row kv
                have hI4 := (hI.set kv).below ((Below.refl _ _).alloc (Nat.le_refl _) (.cells #[.int .i64 kv, .int .i64 nn] 147))
                have HV : Hid (Sc.bindAll (bs2.set kv true) (q.drop (m + 1)) = Sc.bindAll bs1 q) := by
                  show _ = _
                  rw [← HB2.out]
                  simp [Sc.bind1]
                have hn4 : (bs2.set kv true).length = nv := by rw [List.length_set]; exact hn2
                clear HB2
                go_wp2_with fail
                go_roundw
                case rel => exact ⟨m + 1, _, by omega, by go_num, hI4, hn4, HV.out⟩
                case measure => simp [intOf]; omega
              · have g5 : decide (0 ≤ var) = false := decide_eq_false h5
                have HV : Hid (Sc.bindAll bs2 (q.drop (m + 1)) = Sc.bindAll bs1 q) := by
                  show _ = _
                  rw [← HB2.out]
                  simp [Sc.bind1, h5]
                clear HB2
                go_wp2_with fail
                go_roundw
                case rel => exact ⟨m + 1, _, by omega, by go_num, hI3, hn2, HV.out⟩
                case measure => simp [intOf]; omega
            · have hend : Sc.bindAll bs2 (q.drop m) = bs2 := by rw [List.drop_of_length_le (by omega)]; rfl
              have HV : Hid ((body.drop (j + 1)).foldl Sc.bindLit bs2 = Sc.round body bs0) := by
                show _ = _
                rw [← HV2.out, ← HBD.out, hend]
              clear hU hv hend
              go_wp2_with fail
              go_roundw
              case rel => exact ⟨j + 1, _, by omega, by go_num, hI, hn2, HV.out⟩
              case measure => simp [intOf]; omega
        · have hend : (body.drop j).foldl Sc.bindLit bs1 = bs1 := by rw [List.drop_of_length_le (by omega)]; rfl
          have HV : Hid (Sc.rounds body (body.length - (k + 1)) bs1 = Sc.rounds body body.length bz) := by
            show _ = _
            rw [← HR.out, rounds_step body _ k hlt, ← HFD.out, hend]
          clear hend
          go_wp2_with fail
          go_roundw
          case rel => exact ⟨k + 1, _, by omega, by go_num, hI, hn1, HV.out⟩
          case measure => simp [intOf]; omega
    · have hk2 : k = body.length := by omega
      have HV : Hid (bs0 = Sc.rounds body body.length bz) := by
        show _ = _
        have := HR.out
        rw [hk2, Nat.sub_self] at this
        exact this
      have hc0 := hI.bd.c0
      rw [hn0] at hc0
      clear hk2
      go_wp2_with fail
      refine Calls.mono (contains_any R bs0 nv nv _ hn0 (by omega) (fun i hi => hI.bd.at i (by omega))) ?_
      rintro e w2 ⟨rfl, q, rfl⟩
      have hbel := hI.bel
      go_wp2_with fail
      go_ret
      exact ⟨by rw [HS.out, ← HV.out]; simp, below_drewN hbel _⟩

end Go.Proofs.YthenjegmigeieaaGreat

/- Package strata: hangs, and the iterator that it hands back. -/
namespace Go.Proofs.YthenjegmigeieaaGreat
open Go.RowKit Go.Shelf

attribute [local go_sem] Oper.semAt_some

/-- What comes of a rule: a predicate that there is, and 0 or 1. -/
abbrev HP (n : Nat) := { p : Int × Int // 0 ≤ p.1 ∧ p.1 < (n : Int) ∧ (p.2 = 0 ∨ p.2 = 1) }
namespace St
theorem strict01 (r : Sc.Rule) (x : Sc.Lit) : strict r x = 0 ∨ strict r x = 1 := by
  unfold strict
  split
  · exact .inr rfl
  · exact .inl rfl
/-- The predicates on which a rule's head hangs, and how much more. -/
def pair1 (n : Nat) (r : Sc.Rule) (x : Sc.Lit) : Option (HP n) := if h : hang x = true ∧ 0 ≤ x.pred ∧ x.pred < (n : Int) then some ⟨(x.pred, strict r x), h.2.1, h.2.2, strict01 r x⟩ else none
def pairs (n : Nat) (r : Sc.Rule) (l : List Sc.Lit) : List (HP n) := l.filterMap (pair1 n r)
theorem pairs_snoc (n : Nat) (r : Sc.Rule) (l : List Sc.Lit) (x : Sc.Lit) : pairs n r (l ++ [x]) = pairs n r l ++ (pair1 n r x).toList := by
  unfold pairs
  rw [List.filterMap_append, List.filterMap_cons, List.filterMap_nil]
  cases pair1 n r x <;> rfl
theorem pairs_length (n : Nat) (r : Sc.Rule) (l : List Sc.Lit) : (pairs n r l).length ≤ l.length := List.length_filterMap_le _ _
/-- All that a rule hangs on is there. -/
def Bound (n : Nat) (l : List Sc.Lit) : Prop := ∀ x, x ∈ l → hang x = true → 0 ≤ x.pred ∧ x.pred < (n : Int)
theorem pair1_some {n : Nat} {r : Sc.Rule} {x : Sc.Lit} (h : hang x = true) (h0 : 0 ≤ x.pred) (h1 : x.pred < (n : Int)) : pair1 n r x = some ⟨(x.pred, strict r x), h0, h1, strict01 r x⟩ := by
  unfold pair1
  rw [dif_pos ⟨h, h0, h1⟩]
theorem pair1_none {n : Nat} {r : Sc.Rule} {x : Sc.Lit} (h : ¬ hang x = true) : pair1 n r x = none := by
  unfold pair1
  rw [dif_neg (fun k => h k.1)]
theorem pairs_edges {n : Nat} {r : Sc.Rule} : ∀ {l : List Sc.Lit}, Bound n l → (pairs n r l).map (fun p => ((r.pred.toNat, p.1.1.toNat, p.1.2) : Fx.Edge)) = (l.filter hang).map fun x => (r.pred.toNat, x.pred.toNat, strict r x)
  | [], _ => rfl
  | x :: l, h => by
    have ih := pairs_edges (r := r) (l := l) (fun y hy => h y (List.mem_cons_of_mem _ hy))
    unfold pairs at ih ⊢
    by_cases hx : hang x = true
    · have hb := h x List.mem_cons_self hx
      rw [List.filterMap_cons, pair1_some hx hb.1 hb.2, List.filter_cons, if_pos hx, List.map_cons, List.map_cons, ih]
    · rw [List.filterMap_cons, pair1_none hx, List.filter_cons, if_neg hx, ih]
end St

/-- What a round keeps: what lay below n0, and the box of the rule. -/
def HK (n0 RB : Nat) (W W' : World) : Prop := Below n0 W W' ∧ ∀ o : Obj, o.isCells = true → W.heap[RB]? = some o → W'.heap[RB]? = some o
theorem HK.refl (n0 RB : Nat) (W : World) : HK n0 RB W W := ⟨Below.refl _ _, fun _ _ h => h⟩
theorem HK.trans {n0 RB : Nat} {A B C : World} (h : HK n0 RB A B) (k : HK n0 RB B C) : HK n0 RB A C := ⟨h.1.trans k.1, fun o ho hA => k.2 o ho (h.2 o ho hA)⟩
theorem HK.put {n0 RB : Nat} {w : World} (hn : n0 ≤ w.heap.size) (W : World) (l : Nat) (o o' : Obj) (hl : w.heap.size ≤ l) (h : W.heap[l]? = some o) (h1 : o.isCells = false) (h2 : o.isWalk = false) : HK n0 RB W (W.putObj l o') := by
  refine ⟨belowK_b hn W l o o' hl h h1 h2, fun q hq hR => ?_⟩
  by_cases hlr : RB = l
  · subst hlr
    rw [h] at hR
    cases hR
    rw [h1] at hq
    cases hq
  · rw [World.putObj_heap_other hlr]
    exact hR
theorem HK.alloc {n0 RB : Nat} {W : World} (hn : n0 ≤ W.heap.size) (o : Obj) : HK n0 RB W (W.alloc o) :=
  ⟨(Below.refl _ _).alloc hn o, fun _ _ hR => ((Below.refl W.heap.size W).alloc (Nat.le_refl _) o).block RB (Array.getElem?_eq_some_iff.mp hR).1 |>.trans hR⟩

abbrev hangEnc {n : Nat} (p : HP n) : Array Value := #[.int .i64 p.1.1, .int .i64 p.1.2]

set_option maxRecDepth 100000 in
set_option maxHeartbeats 2000000 in
theorem hangs1_in (F : Fence) (n : Nat) (h78 : F.fn 204) (hro : F.round = none) (hn : 1 ≤ n) (l RB : Nat) (wp : World) (np : Nat) (r : Sc.Rule) (vt : Value) (ab : Option Addr) (cb : Nat) (hL : PLitsAt wp ab r.body) (hlen : r.body.length ≤ 9223372036854775807) (hG : St.Bound np r.body) (J Jx : List (HP np) → World → Prop) (W : World)
    (hJa : ∀ s A B, J s A → A.grownBy B none → J s B) (hWp : Below wp.heap.size wp W)
    (hY : ∀ pre x W1, J pre W1 → pre.length < r.body.length → YieldAt F (n - 1) Tryz.prog l (hangEnc x) W1 fun e W' =>
      (e = .returned (.bool true) ∧ J (pre ++ [x]) W' ∧ HK wp.heap.size RB W1 W') ∨ (e = .returned (.bool false) ∧ Jx (pre ++ [x]) W'))
    (hR : W.heap[RB]? = some (.cells #[.int .i64 r.pred, vt, .int .i64 r.fold, .slice ab r.body.length cb, .int .i64 r.vars] 40)) (h0 : J [] W) :
    CallsIn F n Tryz.prog 204 #[.func (.yield l) #[] #[], .pointer (some ⟨RB, 0, none⟩)] W fun e W' => (∃ v, e = .returned v) ∧
      ((∃ ys, ys = St.pairs np r r.body ∧ J ys W') ∨ (∃ pre, (∃ k, pre = St.pairs np r (r.body.take k)) ∧ Jx pre W')) := by
  refine callsIn_of_wp Tryz.func204 rfl h78 ?_ hro
  simp only [Tryz.ntmps204, List.size_toArray, List.length_cons, List.length_nil, Nat.reduceAdd, Nat.reduceSub, Array.replicate_succ, Array.replicate_zero, List.push_toArray, List.append_toArray, List.nil_append, List.cons_append]
  have c3 : W.cell? ⟨RB, 3, none⟩ = some (.slice ab r.body.length cb) := by rw [Lib.cell_of_heap hR]; rfl
  have HL : Hid (PLitsAt wp ab r.body) := hL
  have HY : Hid _ := hY
  have HGG : Hid _ := hG
  have HJA : Hid _ := hJa
  have HR : Hid _ := hR
  clear hL hY hJa hR hG
  gi_wp2
  gi_loopw [9] (fun i wr => ∃ k : Nat, k ≤ r.body.length ∧ i = .int .i64 k ∧ J (St.pairs np r (r.body.take k)) wr ∧ HK wp.heap.size RB W wr) (fun i _ => r.body.length - (intOf i).toNat)
  case atStart => exact ⟨0, Nat.zero_le _, rfl, h0, HK.refl _ _ _⟩
  case round =>
    clear c3 h0
    obtain ⟨k, hk, rfl, hJs, hK⟩ := hrel
    have hBp : Below wp.heap.size wp wr := hWp.trans hK.1
    have HBP : Hid _ := hBp
    have hRr := hK.2 _ rfl HR.out
    have HKK : Hid _ := hK
    have HJS : Hid _ := hJs
    have c2 : wr.cell? ⟨RB, 2, none⟩ = some (.int .i64 r.fold) := by rw [Lib.cell_of_heap hRr]; rfl
    clear hK hJs
    by_cases hlt : k < r.body.length
    · obtain ⟨b, off, rfl, p0, p1, p2, v, p3, hT⟩ := plits_at HL.out k hlt
      obtain ⟨at_, ct, rfl, _, _⟩ := hT
      have q0 := cell_below hBp p0
      have q1 := cell_below hBp p1
      have q2 := cell_below hBp p2
      have q3 := cell_below hBp p3
      have hnw : wp.heap.size ≤ wr.heap.size := hBp.size
      have HTK : Hid (r.body.take (k + 1) = r.body.take k ++ [Sc.litD r.body k]) := by
        show _ = _
        rw [List.take_add_one]
        congr 1
        unfold Sc.litD
        rw [List.getD_eq_getElem?_getD, List.getElem?_eq_getElem hlt]
        rfl
      have HPL : Hid ((St.pairs np r (r.body.take k)).length < r.body.length) := by
        show _ < _
        have := St.pairs_length np r (r.body.take k)
        rw [List.length_take] at this
        omega
      have HBX : Hid (St.hang (Sc.litD r.body k) = true → 0 ≤ (Sc.litD r.body k).pred ∧ (Sc.litD r.body k).pred < (np : Int)) := HGG.out _ (by unfold Sc.litD; rw [List.getD_eq_getElem?_getD, List.getElem?_eq_getElem hlt]; exact List.getElem_mem hlt)
      clear p0 p1 p2 p3 hBp
      generalize Sc.litD r.body k = x at *
      have e2 : (wr.alloc (.cells #[.int .i64 x.kind, .int .i64 x.op, .int .i64 x.pred, .slice at_ x.terms.length ct] 49)).cell? ⟨RB, 2, none⟩ = some (.int .i64 r.fold) := cell_below ((Below.refl _ _).alloc (Nat.le_refl _) _) c2
      have HG : Hid (J (St.pairs np r (r.body.take k)) (wr.alloc (.cells #[.int .i64 x.kind, .int .i64 x.op, .int .i64 x.pred, .slice at_ x.terms.length ct] 49))) := HJA.out _ _ _ HJS.out (World.grownBy_alloc _ _ none)
      have HA : Hid (HK wp.heap.size RB wr (wr.alloc (.cells #[.int .i64 x.kind, .int .i64 x.op, .int .i64 x.pred, .slice at_ x.terms.length ct] 49))) := HK.alloc hnw _
      obtain ⟨kd, op, pd, ts⟩ := x
      dsimp only at *
      by_cases h1 : kd = 1
      · subst h1
        have hh : St.hang ⟨1, op, pd, ts⟩ = true := by simp [St.hang]
        by_cases hfo : r.fold = 0
        · have hfb : (r.fold == 0) = true := by simp [hfo]
          have hpd := HBX.out hh
          have HS : Hid (St.pairs np r (r.body.take (k + 1)) = St.pairs np r (r.body.take k) ++ [⟨(pd, 0), hpd.1, hpd.2, .inl rfl⟩]) := by
            show _ = _
            rw [HTK.out, St.pairs_snoc, St.pair1_some hh hpd.1 hpd.2]
            simp [St.strict, hfo]
          clear hh hfo
          obtain ⟨fn, tmps, assign, body, hy, hR⟩ := HY.out _ ⟨(pd, 0), hpd.1, hpd.2, .inl rfl⟩ _ HG.out HPL.out
          dsimp only [hangEnc] at hy
          gi_wp2
          refine hR.mono ?_
          rintro e W3 (⟨rfl, hJ3, hk3⟩ | ⟨rfl, hJx3⟩)
          · gi_wp2
            go_roundw
            case rel => exact ⟨k + 1, hlt, by simp, by rw [HS.out]; exact hJ3, HK.trans HKK.out (HK.trans HA.out hk3)⟩
            case measure => simp [intOf]; omega
          · gi_wp2
            refine bodyPost_ret (results_none rfl _ _ _) rfl ?_
            exact ⟨⟨_, rfl⟩, .inr ⟨_, ⟨k + 1, HS.out.symm⟩, hJx3⟩⟩
        · have hfb : (r.fold == 0) = false := by simp [hfo]
          have hpd := HBX.out hh
          have HS : Hid (St.pairs np r (r.body.take (k + 1)) = St.pairs np r (r.body.take k) ++ [⟨(pd, 1), hpd.1, hpd.2, .inr rfl⟩]) := by
            show _ = _
            rw [HTK.out, St.pairs_snoc, St.pair1_some hh hpd.1 hpd.2]
            simp [St.strict, hfo]
          clear hh hfo
          obtain ⟨fn, tmps, assign, body, hy, hR⟩ := HY.out _ ⟨(pd, 1), hpd.1, hpd.2, .inr rfl⟩ _ HG.out HPL.out
          dsimp only [hangEnc] at hy
          gi_wp2
          refine hR.mono ?_
          rintro e W3 (⟨rfl, hJ3, hk3⟩ | ⟨rfl, hJx3⟩)
          · gi_wp2
            go_roundw
            case rel => exact ⟨k + 1, hlt, by simp, by rw [HS.out]; exact hJ3, HK.trans HKK.out (HK.trans HA.out hk3)⟩
            case measure => simp [intOf]; omega
          · gi_wp2
            refine bodyPost_ret (results_none rfl _ _ _) rfl ?_
            exact ⟨⟨_, rfl⟩, .inr ⟨_, ⟨k + 1, HS.out.symm⟩, hJx3⟩⟩
      · have h1b : (kd == 1) = false := by simp [h1]
        by_cases h2 : kd = 2
        · subst h2
          have hh : St.hang ⟨2, op, pd, ts⟩ = true := by simp [St.hang]
          clear h1 h1b
          have hpd := HBX.out hh
          have HS : Hid (St.pairs np r (r.body.take (k + 1)) = St.pairs np r (r.body.take k) ++ [⟨(pd, 1), hpd.1, hpd.2, .inr rfl⟩]) := by
            show _ = _
            rw [HTK.out, St.pairs_snoc, St.pair1_some hh hpd.1 hpd.2]
            simp [St.strict]
          clear hh
          obtain ⟨fn, tmps, assign, body, hy, hR⟩ := HY.out _ ⟨(pd, 1), hpd.1, hpd.2, .inr rfl⟩ _ HG.out HPL.out
          dsimp only [hangEnc] at hy
          gi_wp2
          refine hR.mono ?_
          rintro e W3 (⟨rfl, hJ3, hk3⟩ | ⟨rfl, hJx3⟩)
          · gi_wp2
            go_roundw
            case rel => exact ⟨k + 1, hlt, by simp, by rw [HS.out]; exact hJ3, HK.trans HKK.out (HK.trans HA.out hk3)⟩
            case measure => simp [intOf]; omega
          · gi_wp2
            refine bodyPost_ret (results_none rfl _ _ _) rfl ?_
            exact ⟨⟨_, rfl⟩, .inr ⟨_, ⟨k + 1, HS.out.symm⟩, hJx3⟩⟩
        · have h2b : (kd == 2) = false := by simp [h2]
          have HS : Hid (St.pairs np r (r.body.take (k + 1)) = St.pairs np r (r.body.take k)) := by
            show _ = _
            rw [HTK.out, St.pairs_snoc, St.pair1_none (by simp [St.hang, h1, h2])]
            simp
          have hn1 : (kd != 1) = true := by simp [h1]
          have hn2 : (kd != 2) = true := by simp [h2]
          clear h1 h2 h1b h2b
          gi_wp2
          go_roundw
          case rel => exact ⟨k + 1, hlt, by simp, by rw [HS.out]; exact HG.out, HK.trans HKK.out HA.out⟩
          case measure => simp [intOf]; omega
    · obtain rfl : k = r.body.length := by omega
      clear c2 hRr
      gi_wp2
      go_end0
      have h9 := HJS.out
      rw [List.take_length] at h9
      exact ⟨⟨_, rfl⟩, .inl ⟨_, rfl, h9⟩⟩

set_option maxHeartbeats 1000000 in
theorem hangs_in (F : Fence) (n : Nat) (h61 : F.fn 168) (hro : F.round = none) (r : Sc.Rule) (at_ ab : Option Addr) (ct cb : Nat) (w : World) :
    CallsIn F n Tryz.prog 168 #[pruleVal r (.slice at_ r.terms.length ct) (.slice ab r.body.length cb)] w fun e w' => e = .returned (.func (.func 204) #[] #[.pointer (some ⟨w.heap.size, 0, none⟩)]) ∧
      w' = w.alloc (.cells #[.int .i64 r.pred, .slice at_ r.terms.length ct, .int .i64 r.fold, .slice ab r.body.length cb, .int .i64 r.vars] 40) := by
  have hmf : ∀ (fn : Fn) (first cap : Array Value) (w : World), (Instr.makeFunc fn first cap).run Tryz.prog w = .ok (.func fn first cap) w := fun _ _ _ _ => rfl
  refine callsIn_of_wp Tryz.func168 rfl h61 ?_ hro
  simp only [Tryz.ntmps168, List.size_toArray, List.length_cons, List.length_nil, Nat.reduceAdd, Nat.reduceSub, Array.replicate_succ, Array.replicate_zero, List.push_toArray, List.append_toArray, List.nil_append, List.cons_append]
  gi_wp2
  go_ret
  exact ⟨rfl, rfl⟩

/-- What hangs hands back gives the pairs of the rule, one by one. -/
theorem hangs_stops (F : Fence) (n : Nat) (h78 : F.fn 204) (hro : F.round = none) (hn : 1 ≤ n) (RB : Nat) (wp : World) (np : Nat) (r : Sc.Rule) (vt : Value) (ab : Option Addr) (cb : Nat) (hL : PLitsAt wp ab r.body) (hlen : r.body.length ≤ 9223372036854775807) (hG : St.Bound np r.body) (w : World)
    (hWp : Below wp.heap.size wp w) (hR : w.heap[RB]? = some (.cells #[.int .i64 r.pred, vt, .int .i64 r.fold, .slice ab r.body.length cb, .int .i64 r.vars] 40)) :
    SeqStopsK F n Tryz.prog 204 #[.pointer (some ⟨RB, 0, none⟩)] (fun x : HP np => hangEnc x) (HK wp.heap.size RB) (fun ys => ys = St.pairs np r r.body) (fun pre => ∃ k, pre = St.pairs np r (r.body.take k)) r.body.length w := fun l J Jx W hW hJ _ hY h0 =>
  hangs1_in F n h78 hro hn l RB wp np r vt ab cb hL hlen hG J Jx W (fun s A B hs hg => hJ s A B none hs hg (fun _ e => by cases e)) (hWp.trans (hW.mono hWp.size)) hY ((hW.block RB (Array.getElem?_eq_some_iff.mp hR).1).trans hR) h0

end Go.Proofs.YthenjegmigeieaaGreat

/- Rows of numbers that are written; marks of loops over iterators; how far numbers are raised. -/
namespace Go.Proofs.YthenjegmigeieaaGreat
open Go.RowKit Go.Shelf

def intRow (l : List Int) : Array Value := (l.map (Value.int .i64)).toArray
theorem intRow_cell {w : World} {b : Nat} {l : List Int} (h : w.heap[b]? = some (.cells (intRow l) 3)) {i : Nat} (hi : i < l.length) : w.cell? ⟨b, i, none⟩ = some (.int .i64 (l.getD i 0)) := by
  rw [Lib.cell_of_heap h]
  unfold intRow
  simp [hi]
theorem intRow_set {w : World} {b : Nat} {l : List Int} (h : w.heap[b]? = some (.cells (intRow l) 3)) (i : Nat) (v : Int) : (w.setCell ⟨b, i, none⟩ (.int .i64 v)).heap[b]? = some (.cells (intRow (l.set i v)) 3) := by
  rw [Lib.heap_setCell_same h]
  unfold intRow
  simp [List.map_set]
theorem heap_set_other {w : World} {b c i : Nat} {v : Value} (h : ¬ c = b) : (w.setCell ⟨b, i, none⟩ v).heap[c]? = w.heap[c]? := Below.heap_setCell _ _ _ _ h

/-! ### Marks -/
def MarksL (B : Nat) (w : World) : List Deferred → Prop
  | [] => True
  | d :: ds => (∃ D, B ≤ D ∧ d = { target := .collected D, args := #[] } ∧ w.heap[D]? = some (.deferred (some [])) ∧ ∀ d', d' ∈ ds → d' ≠ d) ∧ MarksL B w ds
theorem MarksL.keep {B : Nat} {w w' : World} : ∀ {ds : List Deferred}, MarksL B w ds → (∀ D, B ≤ D → { target := .collected D, args := #[] } ∈ ds → w.heap[D]? = some (.deferred (some [])) → w'.heap[D]? = some (.deferred (some []))) → MarksL B w' ds
  | [], _, _ => trivial
  | _ :: _, ⟨⟨D, hB, hd, hD, hn⟩, h⟩, hk => ⟨⟨D, hB, hd, hk D hB (hd ▸ List.mem_cons_self) hD, hn⟩, h.keep fun D' hB' hm hD' => hk D' hB' (List.mem_cons_of_mem _ hm) hD'⟩
theorem MarksL.mem {B : Nat} {w : World} : ∀ {ds : List Deferred}, MarksL B w ds → ∀ D, { target := .collected D, args := #[] } ∈ ds → w.heap[D]? = some (.deferred (some []))
  | d :: ds, ⟨⟨D0, hB, hd, hD, hn⟩, h⟩, D, hm => by
    rcases List.mem_cons.mp hm with hm | hm
    · rw [hd] at hm
      injection hm with h1 _
      injection h1 with h1
      rw [h1]; exact hD
    · exact h.mem D hm
theorem marks_leave {F : Fence} {n : Nat} {P : Program} {fn : Func} {tmps : Array Value} {R : Ending → World → Prop} {v : Value} {B : Nat} (hres : ∀ w, (results fn tmps).run P w = .ok v w) :
    ∀ (ds : List Deferred) (w : World), MarksL B w ds → (∀ w', Below B w w' → R (.returned v) w') → LeavesInM F n P fn tmps R ds .returning w
  | [], w, _, hR => ⟨v, hres w, hR w (Below.refl _ _)⟩
  | d :: ds, w, ⟨⟨D, hB, hd, hD, hn⟩, h⟩, hR => by
    subst hd
    refine ⟨by simp, .inl ⟨D, _, rfl, run_takeDeferred hD, ?_⟩⟩
    have hlt := (Array.getElem?_eq_some_iff.mp hD).1
    have hb : Below B w (w.putObj D (.deferred none)) := (Below.refl B w).grown (grownBy_putObj' w D (.deferred none)) (by omega) (fun k e => by cases e; exact hB)
    refine marks_leave hres ds _ (h.keep fun D' hB' hm hD' => ?_) (fun w' hb' => hR w' (hb.trans hb'))
    rw [World.putObj_heap_other (fun e => hn _ hm (by rw [e]))]
    exact hD'

/-! ### How far -/
theorem Fx.step_bound {l : List Int} {e : Fx.Edge} {K : Int} (h : ∀ i : Nat, l.getD i 0 ≤ K) (he : e.2.2 ≤ 1) (i : Nat) : (Fx.step l e).getD i 0 ≤ K + 1 := by
  unfold Fx.step
  split
  · rw [Fx.getD_set]
    split
    · have := h e.2.1; omega
    · have := h i; omega
  · have := h i; omega
theorem Fx.round_bound : ∀ (E : List Fx.Edge) {l : List Int} {K : Int}, (∀ i : Nat, l.getD i 0 ≤ K) → (∀ e, e ∈ E → e.2.2 ≤ 1) → ∀ i : Nat, (Fx.round E l).getD i 0 ≤ K + E.length
  | [], l, K, h, _, i => by have := h i; simpa [Fx.round] using this
  | e :: E, l, K, h, he, i => by
    have h1 := Fx.round_bound E (l := Fx.step l e) (K := K + 1) (Fx.step_bound h (he e List.mem_cons_self)) (fun e' h' => he e' (List.mem_cons_of_mem _ h')) i
    show (Fx.round E (Fx.step l e)).getD i 0 ≤ _
    rw [List.length_cons]
    omega
theorem Fx.round_snoc (E : List Fx.Edge) (e : Fx.Edge) (l : List Int) : Fx.round (E ++ [e]) l = Fx.step (Fx.round E l) e := by unfold Fx.round; rw [List.foldl_append]; rfl
/-- Whether anything was raised, step by step. -/
theorem Fx.rose_snoc (E : List Fx.Edge) (e : Fx.Edge) (l : List Int) (hi : e.1 < l.length) :
    decide (Fx.round (E ++ [e]) l ≠ l) = (decide (Fx.round E l ≠ l) || decide ((Fx.round E l).getD e.1 0 < (Fx.round E l).getD e.2.1 0 + e.2.2)) := by
  rw [Fx.round_snoc]
  by_cases hr : (Fx.round E l).getD e.1 0 < (Fx.round E l).getD e.2.1 0 + e.2.2
  · have h1 := Fx.round_le E l
    have h2 := Fx.step_le (Fx.round E l) e
    have hne : Fx.step (Fx.round E l) e ≠ l := fun hc => by
      rw [hc] at h2
      have h3 := Fx.Le.anti h1 h2
      have h4 : (Fx.step (Fx.round E l) e).getD e.1 0 = (Fx.round E l).getD e.2.1 0 + e.2.2 := by
        unfold Fx.step
        rw [if_pos hr, Fx.getD_set, if_pos ⟨rfl, by rw [Fx.round_length]; exact hi⟩]
      rw [hc] at h4
      have h5 : l.getD e.1 0 = (Fx.round E l).getD e.1 0 := congrArg (fun x : List Int => x.getD e.1 0) h3
      omega
    rw [decide_eq_true hne, decide_eq_true hr, Bool.or_true]
  · have h1 : Fx.step (Fx.round E l) e = Fx.round E l := by unfold Fx.step; rw [if_neg hr]
    rw [h1, decide_eq_false hr, Bool.or_false]

end Go.Proofs.YthenjegmigeieaaGreat

/- Package rule: ways so far in memory; Number, knows, number. -/
namespace Go.Proofs.YthenjegmigeieaaGreat
open Go.RowKit

theorem blw_drewN (w : World) (n : Nat) : Below w.heap.size w (w.drewN n) := ⟨rfl, rfl, rfl, Nat.le_refl _, fun _ _ => rfl⟩
/-- A way so far, as a value. -/
def wayArr (y : Ru.Way) : Array Value := (y.nums.map (Value.int .i64) ++ y.known.map Value.bool).toArray
abbrev wayVal (y : Ru.Way) : Value := .agg (wayArr y)
/-- A way in a box. -/
def WayAt (w : World) (b : Nat) (y : Ru.Way) : Prop := w.heap[b]? = some (.cells (wayArr y) 138)
theorem WayAt.num {w : World} {b : Nat} {y : Ru.Way} (h : WayAt w b y) (hy : Ru.Wf 8 y) {i : Nat} (hi : i < 8) : w.cell? ⟨b, i, none⟩ = some (.int .i64 (y.nums.getD i 0)) := by
  rw [Lib.cell_of_heap h]
  unfold wayArr
  have h1 : i < (y.nums.map (Value.int .i64)).length := by rw [List.length_map, hy.n]; exact hi
  rw [List.getElem?_toArray, List.getElem?_append_left h1, List.getElem?_map, List.getD_eq_getElem?_getD, List.getElem?_eq_getElem (by rw [hy.n]; exact hi)]
  rfl
theorem WayAt.kn {w : World} {b : Nat} {y : Ru.Way} (h : WayAt w b y) (hy : Ru.Wf 8 y) {i : Nat} (hi : i < 8) : w.cell? ⟨b, 8 + i, none⟩ = some (.bool (y.known.getD i false)) := by
  rw [Lib.cell_of_heap h]
  unfold wayArr
  have h1 : (y.nums.map (Value.int .i64)).length = 8 := by rw [List.length_map, hy.n]
  rw [List.getElem?_toArray, List.getElem?_append_right (by omega), h1, Nat.add_sub_cancel_left, List.getElem?_map, List.getD_eq_getElem?_getD, List.getElem?_eq_getElem (by rw [hy.k]; exact hi)]
  rfl

set_option maxRecDepth 100000 in
set_option maxHeartbeats 400000 in
theorem Number_any (t : Sc.Term) (x : List Int) (v : Value) (w : World) (hV : IntsV w v x) (ht : t.var < 0 ∨ t.var.toNat < x.length) :
    Calls Tryz.prog 105 #[ptermVal t, v] w fun e w' => e = .returned (.int .i64 (Ru.num x t)) ∧ Below w.heap.size w w' := by
  obtain ⟨ao, c, rfl, hA⟩ := hV
  have hb : Below w.heap.size w (w.alloc (.cells #[.int .i64 t.var, .int .i64 t.n] 147)) := (Below.refl _ _).alloc (Nat.le_refl _) _
  by_cases h : t.var < 0
  · have g : decide (t.var < 0) = true := decide_eq_true h
    have HV : Hid (Ru.num x t = t.n) := by show _ = _; unfold Ru.num; rw [if_pos h]
    clear ht h hA
    go_enter Tryz.func105, Tryz.ntmps105
    go_wp2
    go_ret
    exact ⟨by rw [HV.out]; rfl, hb⟩
  · have g : decide (t.var < 0) = false := decide_eq_false h
    have hl : t.var.toNat < x.length := by rcases ht with h1 | h1; exact absurd h1 h; exact h1
    obtain ⟨k, hk⟩ : ∃ k : Nat, t.var = k := ⟨t.var.toNat, by omega⟩
    have HV : Hid (Ru.num x t = Sc.intD x k) := by show _ = _; unfold Ru.num; rw [if_neg h, hk]; rfl
    have hkl : k < x.length := by omega
    obtain ⟨b, off, rfl, q0⟩ := ints_at hA k hkl
    have q1 := cell_below hb q0
    obtain ⟨var, nn⟩ := t
    simp only at hk h g ht hl
    subst hk
    clear ht h hl hA q0
    generalize Sc.intD x k = vv at *
    go_enter Tryz.func105, Tryz.ntmps105
    go_wp2
    go_ret
    exact ⟨by rw [HV.out]; rfl, hb⟩

set_option maxRecDepth 100000 in
set_option maxHeartbeats 400000 in
theorem knows_any (y : Ru.Way) (t : Sc.Term) (w : World) (hy : Ru.Wf 8 y) (ht : Ru.TermIn 8 t) :
    Calls Tryz.prog 210 #[wayVal y, ptermVal t] w fun e w' => e = .returned (.bool (Sc.known y.known t)) ∧ Below w.heap.size w w' := by
  have hb : Below w.heap.size w ((w.alloc (.cells (wayArr y) 138)).alloc (.cells #[.int .i64 t.var, .int .i64 t.n] 147)) := ((Below.refl _ _).alloc (Nat.le_refl _) _).alloc (by simp) _
  have hW : WayAt ((w.alloc (.cells (wayArr y) 138)).alloc (.cells #[.int .i64 t.var, .int .i64 t.n] 147)) w.heap.size y := by
    have := ((Below.refl (w.alloc (.cells (wayArr y) 138)).heap.size (w.alloc (.cells (wayArr y) 138))).alloc (Nat.le_refl _) (.cells #[.int .i64 t.var, .int .i64 t.n] 147)).block w.heap.size (by simp)
    exact this.trans (heap_alloc_new w _)
  unfold Sc.known
  by_cases h : t.var < 0
  · have g : decide (t.var < 0) = true := decide_eq_true h
    clear ht h hW
    go_enter Tryz.func210, Tryz.ntmps210
    go_wp2
    go_ret
    exact ⟨by rw [g]; rfl, hb⟩
  · have g : decide (t.var < 0) = false := decide_eq_false h
    have hl : t.var.toNat < 8 := by rcases ht with h1 | h1; exact absurd h1 h; exact h1
    obtain ⟨k, hk⟩ : ∃ k : Nat, t.var = k := ⟨t.var.toNat, by omega⟩
    have hkl : k < 8 := by omega
    have q := hW.kn hy hkl
    obtain ⟨var, nn⟩ := t
    simp only at hk h g ht hl
    subst hk
    clear ht h hl hW
    go_enter Tryz.func210, Tryz.ntmps210
    go_wp2
    go_ret
    exact ⟨rfl, hb⟩
theorem WayAt.ints {w : World} {b : Nat} {y : Ru.Way} (h : WayAt w b y) (hy : Ru.Wf 8 y) : IntsV w (.slice (some ⟨b, 0, none⟩) 8 8) y.nums := by
  refine ⟨some ⟨b, 0, none⟩, 8, by rw [hy.n], .inr ⟨b, 0, rfl, fun i hi => ?_⟩⟩
  rw [Nat.zero_add]
  exact h.num hy (by rw [← hy.n]; exact hi)
theorem WayAt.below {w w' : World} {b : Nat} {y : Ru.Way} (h : WayAt w b y) (hb : Below w.heap.size w w') : WayAt w' b y := (hb.block _ (heap_lt h)).trans h
theorem ru_two (w : World) (o q : Obj) : ((w.alloc o).alloc q).heap[w.heap.size]? = some o ∧ ((w.alloc o).alloc q).heap[w.heap.size + 1]? = some q ∧ Below w.heap.size w ((w.alloc o).alloc q) := by
  refine ⟨?_, ?_, ((Below.refl _ _).alloc (Nat.le_refl _) _).alloc (by simp) _⟩
  · have := ((Below.refl (w.alloc o).heap.size (w.alloc o)).alloc (Nat.le_refl _) q).block w.heap.size (by simp)
    exact this.trans (heap_alloc_new w _)
  · have := heap_alloc_new (w.alloc o) q
    simpa using this

set_option maxRecDepth 100000 in
set_option maxHeartbeats 400000 in
theorem number_any (y : Ru.Way) (t : Sc.Term) (w : World) (hy : Ru.Wf 8 y) (ht : Ru.TermIn 8 t) :
    Calls Tryz.prog 187 #[wayVal y, ptermVal t] w fun e w' => e = .returned (.int .i64 (Ru.num y.nums t)) ∧ Below w.heap.size w w' := by
  obtain ⟨h0, h1, hb⟩ := ru_two w (.cells (wayArr y) 138) (.cells #[.int .i64 t.var, .int .i64 t.n] 147)
  have HW : Hid (WayAt ((w.alloc (.cells (wayArr y) 138)).alloc (.cells #[.int .i64 t.var, .int .i64 t.n] 147)) w.heap.size y) := h0
  have HB : Hid _ := hb
  have c0 : ((w.alloc (.cells (wayArr y) 138)).alloc (.cells #[.int .i64 t.var, .int .i64 t.n] 147)).cell? ⟨w.heap.size + 1, 0, none⟩ = some (.int .i64 t.var) := by rw [Lib.cell_of_heap h1]; rfl
  have c1 : ((w.alloc (.cells (wayArr y) 138)).alloc (.cells #[.int .i64 t.var, .int .i64 t.n] 147)).cell? ⟨w.heap.size + 1, 1, none⟩ = some (.int .i64 t.n) := by rw [Lib.cell_of_heap h1]; rfl
  have HT : Hid (t.var < 0 ∨ t.var.toNat < y.nums.length) := by
    show _ ∨ _
    rw [hy.n]; exact ht
  clear h0 h1 hb ht
  go_enter Tryz.func187, Tryz.ntmps187
  go_upto_region 1 with fail
  generalize (w.alloc (.cells (wayArr y) 138)).alloc (.cells #[.int .i64 t.var, .int .i64 t.n] 147) = w1 at *
  go_region_with (go_at_call 105; refine Calls.mono (Number_any t y.nums _ _ (WayAt.ints (WayAt.below HW.out (blw_drewN w1 _)) hy) HT.out) ?_; rintro _ w2 ⟨rfl, hb2⟩)
  go_wp2_with fail
  go_ret
  exact ⟨rfl, HB.out.drew.trans (hb2.mono HB.out.size)⟩
end Go.Proofs.YthenjegmigeieaaGreat

/- Ways in memory: a load and a store of one at once. -/
namespace Go.Proofs.YthenjegmigeieaaGreat
open Go.RowKit

theorem wayArr_size {y : Ru.Way} (hy : Ru.Wf 8 y) : (wayArr y).size = 16 := by
  unfold wayArr
  rw [List.size_toArray, List.length_append, List.length_map, List.length_map, hy.n, hy.k]
theorem wayArr_one (y : Ru.Way) : (wayArr y).all (·.oneCell') = true := by
  unfold wayArr
  refine all_oneCell_toArray fun v hv => ?_
  rcases List.mem_append.mp hv with h | h
  · obtain ⟨n, _, rfl⟩ := List.mem_map.mp h; rfl
  · obtain ⟨n, _, rfl⟩ := List.mem_map.mp h; rfl
theorem way_info : (Tryz.prog.info? 138).map (·.size) = some 16 := by kernel_rfl
theorem way_range {w : World} {b : Nat} {y : Ru.Way} (h : WayAt w b y) : w.rangeAt b 0 (wayArr y).toList := fun j v hv => by
  rw [Nat.zero_add, Lib.cell_of_heap h]
  simpa using hv
theorem loadVar_way {w : World} {b : Nat} {y : Ru.Way} (h : WayAt w b y) (hy : Ru.Wf 8 y) : (loadVar 138 ⟨b, 0, none⟩).run Tryz.prog w = .ok (wayVal y) w := by
  have := run_loadVar_mid (P := Tryz.prog) w b 0 138 (wayArr y).toList _ (way_range h) Tryz.underlying138 rfl (by rw [Array.length_toList, wayArr_size hy]; exact way_info)
  simpa using this
theorem load_way {a : Act} {o : Oper} {x : Operand} {w : World} {b : Nat} {y : Ru.Way} (ho : o.op = .load 138 x) (hx : a.eval x = .pointer (some ⟨b, 0, none⟩)) (h : WayAt w b y) (hy : Ru.Wf 8 y) : (execOp a.eval o).run Tryz.prog w = .ok (.value (wayVal y)) w := by
  unfold execOp
  simp only [ho, hx, Instr.loadAt, Instr.sureAddr, Sem.run_bind, Sem.run_pure, Result.andThen_ok, loadVar_way h hy]
/-- At a plain region's list: a load of a way. -/
theorem wpList_loadWay {ops : Array Oper} {rest : List Oper} {o : Oper} {a : Act} {w : World} {Q : Exit → Act → World → Prop} (hw : Region.wanted o (yielded ops a.tmps) = true) (x : Operand) (ho : o.op = .load 138 x)
    (b : Nat) (hx : a.eval x = .pointer (some ⟨b, 0, none⟩)) (y : Ru.Way) (hW : WayAt w b y) (hy : Ru.Wf 8 y) (h : wpList Tryz.prog ops Q rest (a.put o.dst (wayVal y)) w) : wpList Tryz.prog ops Q (o :: rest) a w := by
  refine wpList_step fun K hK => ?_
  rw [if_pos hw]
  unfold Oper.wp
  rw [load_way ho hx hW hy, Oper.upon_value]
  exact hK _ _ h
theorem wpList_storeWay {ops : Array Oper} {rest : List Oper} {o : Oper} {a : Act} {w : World} {Q : Exit → Act → World → Prop} (hgd : o.guard = none) (x u : Operand) (ho : o.op = .store 138 x u)
    (b : Nat) (hx : a.eval x = .pointer (some ⟨b, 0, none⟩)) (y z : Ru.Way) (hu : a.eval u = wayVal z) (hW : WayAt w b y) (hy : Ru.Wf 8 y) (hz : Ru.Wf 8 z) (h : wpList Tryz.prog ops Q rest (a.put o.dst undef) (w.setRow b (wayArr z))) : wpList Tryz.prog ops Q (o :: rest) a w := by
  refine wpList_plain hgd fun K hK => ?_
  have hr := run_storeVar_row (P := Tryz.prog) w b 138 138 (wayArr y) (wayArr z) hW (by rw [wayArr_size hz]; exact way_info) (by rw [wayArr_size hy, wayArr_size hz]) (wayArr_one z)
  unfold Oper.wp execOp
  simp only [ho, hx, hu, Instr.storeAt, Instr.sureAddr, Sem.run_bind, Sem.run_pure, Result.andThen_ok, hr]
  exact hK _ _ h
theorem results_way {fn : Func} {t u : Tmp} (h : fn.results = #[.cell t 138, .tmp u]) {tmps : Array Value} {w : World} {b : Nat} {y : Ru.Way} (ht : tmps.getD t undef = .pointer (some ⟨b, 0, none⟩)) (hW : WayAt w b y) (hy : Ru.Wf 8 y) :
    (results fn tmps).run Tryz.prog w = .ok (.tuple #[wayVal y, tmps.getD u undef]) w := by
  have h1 := loadVar_way hW hy
  have ht' : tmps[t]?.getD undef = .pointer (some ⟨b, 0, none⟩) := by simpa using ht
  simp [results, h, ht', asAddr, h1]
theorem way_set {w : World} {b : Nat} {y z : Ru.Way} (h : WayAt w b y) : WayAt (w.setRow b (wayArr z)) b z := setRow_heap w b _ _ 138 _ h
theorem way_set_other {w : World} {b k : Nat} {z : Ru.Way} (h : ¬ k = b) : (w.setRow b (wayArr z)).heap[k]? = w.heap[k]? := setRow_other w b k _ h
theorem way_set_below {n : Nat} {w wr : World} {b : Nat} {z : Ru.Way} (h : Below n w wr) (hb : n ≤ b) : Below n w (wr.setRow b (wayArr z)) :=
  h.trans ⟨rfl, rfl, rfl, by simp, fun k hk => setRow_other wr b k _ (by omega)⟩
end Go.Proofs.YthenjegmigeieaaGreat

/- Package relation: Match. -/
namespace Go.Proofs.YthenjegmigeieaaGreat
open Go.RowKit

def Rl.boolD (l : List Bool) (i : Nat) : Bool := l.getD i false
def BoolsAt (w : World) (ao : Option Addr) (l : List Bool) : Prop :=
  l = [] ∨ ∃ b off, ao = some ⟨b, off, none⟩ ∧ ∀ i, i < l.length → w.cell? ⟨b, off + i, none⟩ = some (.bool (Rl.boolD l i))
def BoolsV (w : World) (v : Value) (l : List Bool) : Prop := ∃ ao cap, v = .slice ao l.length cap ∧ (l.length ≤ cap ∧ (ao = none → cap = 0)) ∧ BoolsAt w ao l
theorem boolsAt_below {w w' : World} {ao : Option Addr} {l : List Bool} (h : BoolsAt w ao l) (hb : Below w.heap.size w w') : BoolsAt w' ao l := by
  rcases h with h | ⟨b, off, rfl, h⟩
  · exact .inl h
  · exact .inr ⟨b, off, rfl, fun i hi => cell_below hb (h i hi)⟩
theorem intsAt_below9 {w w' : World} {ao : Option Addr} {l : List Int} (h : IntsAt w ao l) (hb : Below w.heap.size w w') : IntsAt w' ao l := by
  obtain ⟨_, _, he, h⟩ := intsV_below (⟨ao, 0, rfl, h⟩ : IntsV w (.slice ao l.length 0) l) hb
  injection he with he
  rw [he]
  exact h
theorem intsV_at {w : World} {ao : Option Addr} {n cap : Nat} {l : List Int} (h : IntsV w (.slice ao n cap) l) : IntsAt w ao l := by
  obtain ⟨_, _, he, h⟩ := h
  injection he with he
  rw [he]
  exact h
theorem bools_at {w : World} {ao : Option Addr} {l : List Bool} (h : BoolsAt w ao l) (i : Nat) (hi : i < l.length) : ∃ b off, ao = some ⟨b, off, none⟩ ∧ w.cell? ⟨b, off + i, none⟩ = some (.bool (Rl.boolD l i)) := by
  rcases h with rfl | ⟨b, off, rfl, h⟩
  · exact absurd hi (Nat.not_lt_zero _)
  · exact ⟨b, off, rfl, h i hi⟩
theorem boolsAt_take {w : World} {ao : Option Addr} {l : List Bool} (h : BoolsAt w ao l) (n : Nat) : BoolsAt w ao (l.take n) := by
  rcases h with rfl | ⟨b, off, rfl, h⟩
  · exact .inl (by simp)
  · refine .inr ⟨b, off, rfl, fun i hi => ?_⟩
    rw [List.length_take] at hi
    rw [h i (by omega)]
    simp [Rl.boolD, List.getD_eq_getElem?_getD, show i < n by omega]
theorem agree_drop (x y : List Int) (z : List Bool) (k : Nat) (hx : k < x.length) (hy : k < y.length) (hz : k < z.length) : Rl.agree (x.drop k) (y.drop k) (z.drop k) = ((!Rl.boolD z k || Sc.intD x k == Sc.intD y k) && Rl.agree (x.drop (k + 1)) (y.drop (k + 1)) (z.drop (k + 1))) := by
  have h1 : x.drop k = Sc.intD x k :: x.drop (k + 1) := by rw [List.drop_eq_getElem_cons hx]; simp [Sc.intD, List.getD_eq_getElem?_getD, hx]
  have h2 : y.drop k = Sc.intD y k :: y.drop (k + 1) := by rw [List.drop_eq_getElem_cons hy]; simp [Sc.intD, List.getD_eq_getElem?_getD, hy]
  have h3 : z.drop k = Rl.boolD z k :: z.drop (k + 1) := by rw [List.drop_eq_getElem_cons hz]; simp [Rl.boolD, List.getD_eq_getElem?_getD, hz]
  rw [h1, h2, h3]
  rfl
theorem agree_nil (x y : List Int) : Rl.agree x y [] = true := by cases x <;> cases y <;> rfl
theorem agree_take (x y : List Int) (z : List Bool) (n : Nat) (h : y.length ≤ n) : Rl.agree x y (z.take n) = Rl.agree x y z := by
  induction y generalizing x z n with
  | nil => cases x <;> simp [Rl.agree]
  | cons b y ih =>
    cases x with
    | nil => simp [Rl.agree]
    | cons a x =>
      cases z with
      | nil => simp
      | cons c z =>
        cases n with
        | zero => simp at h
        | succ n =>
          simp only [List.take_succ_cons, Rl.agree]
          rw [ih x z n (by simpa using h)]

set_option maxRecDepth 100000 in
set_option maxHeartbeats 1000000 in
theorem agree_any (x y : List Int) (z : List Bool) (ao bo zo : Option Addr) (cap cbp czp : Nat) (w : World) (hA : IntsAt w ao x) (hB : IntsAt w bo y) (hZ : BoolsAt w zo z) (hx : z.length ≤ x.length) (hy : z.length ≤ y.length) (hlx : x.length ≤ 9223372036854775807) :
    Calls Tryz.prog 118 #[.slice ao x.length cap, .slice bo y.length cbp, .slice zo z.length czp] w fun e w' => e = .returned (.bool (Rl.agree x y z)) ∧ Below w.heap.size w w' := by
  have HA : Hid (IntsAt w ao x) := hA
  have HB : Hid (IntsAt w bo y) := hB
  have HZ : Hid (BoolsAt w zo z) := hZ
  clear hA hB hZ
  go_enter Tryz.func118, Tryz.ntmps118
  go_wp2_with fail
  go_loopw [11] (fun i wr => ∃ k : Nat, k ≤ z.length ∧ i = .int .i64 k ∧ Rl.agree (x.drop k) (y.drop k) (z.drop k) = Rl.agree x y z ∧ Below w.heap.size w wr) (fun i _ => z.length - (intOf i).toNat)
  case atStart => exact ⟨0, Nat.zero_le _, rfl, rfl, Below.refl _ _⟩
  case round =>
    obtain ⟨wo, hwo⟩ : ∃ wo, wo = wr := ⟨_, rfl⟩
    subst hwo
    obtain ⟨k, hk, rfl, hq, hb⟩ := hrel
    have HQ : Hid _ := hq
    clear hq
    by_cases hlt : k < z.length
    · obtain ⟨b1, off1, rfl, p1⟩ := ints_at HA.out k (by omega)
      obtain ⟨b2, off2, rfl, p2⟩ := ints_at HB.out k (by omega)
      obtain ⟨b3, off3, rfl, p3⟩ := bools_at HZ.out k hlt
      have a1 := cell_below hb p1
      have a2 := cell_below hb p2
      have a3 := cell_below hb p3
      have HD : Hid (Rl.agree x y z = ((!Rl.boolD z k || Sc.intD x k == Sc.intD y k) && Rl.agree (x.drop (k + 1)) (y.drop (k + 1)) (z.drop (k + 1)))) := by show _ = _; rw [← HQ.out]; exact agree_drop x y z k (by omega) (by omega) hlt
      clear p1 p2 p3
      have hx1 : k < x.length := by omega
      have hy1 : k < y.length := by omega
      have hbd : Below w.heap.size w wo.drew := ⟨hb.os, hb.tape, hb.output, hb.size, hb.block⟩
      generalize Sc.intD x k = a at *
      generalize Sc.intD y k = b' at *
      generalize Rl.boolD z k = c at *
      cases c
      · rw [Bool.not_false, Bool.true_or, Bool.true_and] at HD
        go_upto_region 4 with fail
        go_region
        go_wp2_with fail
        go_roundw
        case rel => exact ⟨k + 1, hlt, by go_num, HD.out.symm, hbd⟩
        case measure => simp [intOf]; omega
      · rw [Bool.not_true, Bool.false_or] at HD
        go_upto_region 4 with fail
        go_region
        by_cases hab : a = b'
        · have HE : Hid (Rl.agree x y z = Rl.agree (x.drop (k + 1)) (y.drop (k + 1)) (z.drop (k + 1))) := by show _ = _; rw [HD.out, hab]; simp
          go_wp2_with fail
          go_roundw
          case rel => exact ⟨k + 1, hlt, by go_num, HE.out.symm, hbd⟩
          case measure => simp [intOf]; omega
        · have HE : Hid (Rl.agree x y z = false) := by show _ = _; rw [HD.out]; simp [hab]
          go_wp2_with fail
          go_ret
          exact ⟨by rw [HE.out]; rfl, hbd⟩
    · have HE : Hid (Rl.agree x y z = true) := by show _ = _; rw [← HQ.out, show z.drop k = [] from List.drop_of_length_le (by omega), agree_nil]
      have hk : k = z.length := by omega
      subst hk
      go_wp2_with fail
      go_ret
      exact ⟨by rw [HE.out]; rfl, hb⟩

set_option maxRecDepth 100000 in
set_option maxHeartbeats 1000000 in
theorem match1_any (w : World) (B : Nat) (p : Int) (y : List Int) (z : List Bool) (bo zo : Option Addr) (cbp czp : Nat) (h0 : w.cell? ⟨B, 0, none⟩ = some (.int .i64 p)) (h1 : w.cell? ⟨B + 1, 0, none⟩ = some (.slice bo y.length cbp)) (h2 : w.cell? ⟨B + 2, 0, none⟩ = some (.slice zo z.length czp)) (hB : IntsAt w bo y) (hZ : BoolsAt w zo z) (hy : z.length ≤ y.length) :
    Keeps1 117 #[.pointer (some ⟨B, 0, none⟩), .pointer (some ⟨B + 1, 0, none⟩), .pointer (some ⟨B + 2, 0, none⟩)] w (Rl.fits p y z) := by
  intro v g ao cap hv hIg hFg
  show Calls Tryz.prog 117 #[fcVal g.pred (.slice ao g.args.length cap), .pointer (some ⟨B, 0, none⟩), .pointer (some ⟨B + 1, 0, none⟩), .pointer (some ⟨B + 2, 0, none⟩)] v _
  obtain ⟨q, x⟩ := g
  have hba : Below v.heap.size v (v.alloc (.cells #[.int .i64 q, .slice ao x.length cap] 55)) := (Below.refl _ _).alloc (Nat.le_refl _) _
  have c0 := cell_below hba (cell_below hv h0)
  have c1 := cell_below hba (cell_below hv h1)
  have c2 := cell_below hba (cell_below hv h2)
  have hGa := rl_new v (.cells #[.int .i64 q, .slice ao x.length cap] 55)
  have d0 : (v.alloc (.cells #[.int .i64 q, .slice ao x.length cap] 55)).cell? ⟨v.heap.size, 0, none⟩ = some (.int .i64 q) := by rw [Lib.cell_of_heap hGa]; rfl
  have d1 : (v.alloc (.cells #[.int .i64 q, .slice ao x.length cap] 55)).cell? ⟨v.heap.size, 1, none⟩ = some (.slice ao x.length cap) := by rw [Lib.cell_of_heap hGa]; rfl
  have hFg : x.length ≤ 9223372036854775807 := hFg
  have HI : Hid (IntsAt (v.alloc (.cells #[.int .i64 q, .slice ao x.length cap] 55)) ao x ∧ IntsAt (v.alloc (.cells #[.int .i64 q, .slice ao x.length cap] 55)) bo y ∧ BoolsAt (v.alloc (.cells #[.int .i64 q, .slice ao x.length cap] 55)) zo z) := ⟨intsAt_below9 (intsV_at hIg) hba, intsAt_below9 (intsAt_below9 hB hv) hba, boolsAt_below (boolsAt_below hZ hv) hba⟩
  clear h0 h1 h2 hIg hB hZ hv hGa
  by_cases hqp : q = p
  · subst hqp
    by_cases hxy : x.length = y.length
    · have HC : Hid _ := agree_any x y z ao bo zo cap cbp czp _ HI.out.1 HI.out.2.1 HI.out.2.2 (by omega) hy hFg
      have HR : Hid (Rl.fits q y z ⟨q, x⟩ = Rl.agree x y z) := by show _ = _; simp [Rl.fits, hxy]
      have hxc : ((x.length : Int) == (y.length : Int)) = true := by simp [hxy]
      clear HI hxy
      go_enter Tryz.func117, Tryz.ntmps117
      go_wp2_with fail
      refine Calls.mono HC.out ?_
      rintro e w1 ⟨rfl, hb1⟩
      have hb := hba.trans (hb1.mono hba.size)
      clear hb1 hba c0 c1 c2 d0 d1 HC
      go_wp2_with fail
      go_ret
      exact ⟨by rw [HR.out]; rfl, hb⟩
    · have HR : Hid (Rl.fits q y z ⟨q, x⟩ = false) := by show _ = _; simp [Rl.fits, hxy]
      have hxc : ((x.length : Int) == (y.length : Int)) = false := by simp; omega
      clear HI
      go_enter Tryz.func117, Tryz.ntmps117
      go_wp2_with fail
      go_ret
      exact ⟨by rw [HR.out]; rfl, hba⟩
  · have HR : Hid (Rl.fits p y z ⟨q, x⟩ = false) := by show _ = _; simp [Rl.fits, hqp]
    clear HI
    go_enter Tryz.func117, Tryz.ntmps117
    go_wp2_with fail
    go_ret
    exact ⟨by rw [HR.out]; rfl, hba⟩
theorem rl_enters56 : ∀ args w, (callFunc 117 args).run Tryz.prog w = .ok (.enter 117 args) w := enters_of Tryz.func117 (by kernel_rfl) rfl

theorem three_new (w : World) (a b c : Obj) : (((w.alloc a).alloc b).alloc c).heap[w.heap.size]? = some a ∧ (((w.alloc a).alloc b).alloc c).heap[w.heap.size + 1]? = some b ∧ (((w.alloc a).alloc b).alloc c).heap[w.heap.size + 2]? = some c := by
  show (((w.heap.push a).push b).push c)[w.heap.size]? = some a ∧ (((w.heap.push a).push b).push c)[w.heap.size + 1]? = some b ∧ (((w.heap.push a).push b).push c)[w.heap.size + 2]? = some c
  refine ⟨?_, ?_, ?_⟩
  · rw [Array.getElem?_push, if_neg (by simp; omega), Array.getElem?_push, if_neg (by simp), Array.getElem?_push, if_pos rfl]
  · rw [Array.getElem?_push, if_neg (by simp), Array.getElem?_push, if_pos (by simp)]
  · rw [Array.getElem?_push, if_pos (by simp)]

end Go.Proofs.YthenjegmigeieaaGreat

/- The library's Clone: of texts, of terms, of literals. -/
namespace Go.Proofs.YthenjegmigeieaaGreat
open Go.RowKit

theorem cl_info71 : (Tryz.prog.info? 49).map (fun i => (i.zero, i.size, i.bytes)) = some (some (.agg #[.int .i64 0, .int .i64 0, .int .i64 0, .slice none 0 0]), 4, 48) := by kernel_rfl
end Go.Proofs.YthenjegmigeieaaGreat

/- Package scope: numbers of names, in the order in which they were first asked for. -/
namespace Go.Proofs.YthenjegmigeieaaGreat
open Go.RowKit
open Go.Maps

/-- A map's datum that gives each of these names its place. -/
structure NumD (ns : List (List UInt8)) (D : DataW Unit) : Prop where
  size : Maps.size D = ns.length
  has : ∀ s : List UInt8, Maps.has D (.string s) = ns.contains s
  at_ : ∀ s : List UInt8, s ∈ ns → D.atKey (.string s) (.lit (.int .i64 0)) = .lit (.int .i64 (ns.idxOf s))
def NumAt (w : World) (B : Nat) (ns : List (List UInt8)) : Prop := ∃ D : DataW Unit, w.ownsMap Tryz.prog 9 (plainElem Tryz.prog 3) B ns.length D ∧ NumD ns D
theorem idx_mem {x : List UInt8} : ∀ {l m : List (List UInt8)}, x ∈ l → (l ++ m).idxOf x = l.idxOf x := by
  intro l
  induction l with
  | nil => exact fun h => absurd h (by simp)
  | cons a r ih =>
    intro m h
    rw [List.cons_append, List.idxOf_cons, List.idxOf_cons]
    by_cases ha : a = x
    · simp [ha]
    · have hx : x ∈ r := by
        rcases List.mem_cons.mp h with h | h
        · exact absurd h.symm ha
        · exact h
      rw [ih hx]
theorem idx_new {x : List UInt8} : ∀ {l : List (List UInt8)}, ¬ x ∈ l → (l ++ [x]).idxOf x = l.length := by
  intro l
  induction l with
  | nil => intro _; simp
  | cons a r ih =>
    intro h
    have ha : ¬ a = x := fun e => h (by simp [e])
    rw [List.cons_append, List.idxOf_cons, ih (fun e => h (List.mem_cons_of_mem _ e)), beq_false_of_ne ha]
    rfl
theorem idx_none {x : List UInt8} : ∀ {l : List (List UInt8)}, ¬ x ∈ l → l.idxOf x = l.length := by
  intro l
  induction l with
  | nil => intro _; simp
  | cons a r ih =>
    intro h
    have ha : ¬ a = x := fun e => h (by simp [e])
    rw [List.idxOf_cons, ih (fun e => h (List.mem_cons_of_mem _ e)), beq_false_of_ne ha]
    rfl
theorem numLaw : Keyed Tryz.prog 9 := string_keyed Tryz.underlying9
theorem numZero (w : World) : (zeroValue 3).run Tryz.prog w = .ok (.int .i64 0) w := by kernel_rfl
theorem NumD.nil : NumD [] (.map []) := ⟨rfl, fun _ => rfl, fun _ h => absurd h (by simp)⟩
theorem NumD.push {ns : List (List UInt8)} {D : DataW Unit} (h : NumD ns D) (hT : Tidy D) (s : List UInt8) (hs : ns.contains s = false) : NumD (ns ++ [s]) (D.put (.string s) (.lit (.int .i64 ns.length))) := by
  have hk : WideAt.IsKeyLit (.string s) := by simp [WideAt.IsKeyLit]
  have hnm : ¬ s ∈ ns := by simpa using hs
  refine ⟨?_, fun x => ?_, fun x hx => ?_⟩
  · rw [size_put hT, h.has, hs, h.size]
    simp
  · by_cases hx : x = s
    · subst hx
      rw [has_put_same hT.isMap hk]
      simp
    · rw [has_put_other (by simpa using hx), h.has]
      simp [hx]
  · by_cases hxs : x = s
    · subst hxs
      rw [atKey_put_same hT.isMap hk, idx_new hnm]
    · have hxm : x ∈ ns := by
        rcases List.mem_append.mp hx with h | h
        · exact h
        · exact absurd (by simpa using h) hxs
      rw [atKey_put_other (by simpa using hxs), h.at_ x hxm, idx_mem hxm]

theorem NumAt.below {w w' : World} {B : Nat} {ns : List (List UInt8)} (h : NumAt w B ns) (hb : Below w.heap.size w w') : NumAt w' B ns := by
  obtain ⟨D, ⟨es, clock, h1, h2, h3, h4⟩, hN⟩ := h
  exact ⟨D, ⟨es, clock, (hb.block _ (heap_lt h1)).trans h1, h2, h3, h4⟩, hN⟩
theorem numAt_made (w : World) : NumAt (w.alloc (.map #[] 0)) w.heap.size [] := ⟨_, World.ownsMap_made _ _ _ _, NumD.nil⟩

set_option maxRecDepth 100000 in
set_option maxHeartbeats 1000000 in
theorem of_any (B : Nat) (ns : List (List UInt8)) (s : List UInt8) (w : World) (h : NumAt w B ns) (hs : s.length ≤ 5000) (hl : ns.length ≤ 1000000) :
    Calls Tryz.prog 174 #[.map (some B), .string ⟨s.toArray⟩] w fun e w' => e = .returned (.int .i64 (ns.idxOf s)) ∧ NumAt w' B (if ns.contains s then ns else ns ++ [s]) ∧ w.grownBy w' (some B) := by
  obtain ⟨D, hown, hN⟩ := h
  have hkey : keyOf Tryz.prog 9 (.string ⟨s.toArray⟩) = some (.string s) := by
    have : keyOf Tryz.prog 9 (.string ⟨s.toArray⟩) = some (.string (⟨s.toArray⟩ : ByteArray).data.toList) := Go.WideMaps.keyOf_string_mk Tryz.underlying9 (by unfold maxLen; simp [ByteArray.size]; omega)
    simpa using this
  have hT := hown.tidy numLaw
  have hh := hN.has s
  cases hc : ns.contains s
  · rw [hc] at hh
    have hsz := hN.size
    have HP : Hid (NumD (ns ++ [s]) (D.put (.string s) (.lit (.int .i64 ns.length)))) := hN.push hT s hc
    have hidx : ns.idxOf s = ns.length := idx_none (by simpa using hc)
    clear hN hT
    have hwl : (Lit.int IntKind.i64 (ns.length : Int)).wf = true := WalkArith.wf_i64 (by omega)
    go_enter Tryz.func174, Tryz.ntmps174
    go_wp2_with (first
      | (at_lookup; refine wpList_lookup_own_ok_int _ rfl _ _ 208 rfl 9 3 .i64 numLaw Tryz.underlying208 Tryz.underlying3 (numZero _) B ns.length D rfl hown _ _ rfl hkey ?_; intro c hat hwc)
      | (at_len; refine wpList_len_own _ rfl _ 208 rfl 9 3 Tryz.underlying208 _ B ns.length D rfl hown ?_)
      | (at_mapUpdate; refine wpList_mapUpdate_own _ rfl _ _ _ 208 rfl 9 3 numLaw Tryz.underlying208 _ B ns.length _ rfl hown (by unfold maxLen; omega) _ _ _ rfl rfl hkey _ [] (plainElem_int Tryz.underlying3 hwl) ?_; intro w1 hown1 hgrow1))
    go_ret
    exact ⟨rfl, ⟨_, by rw [List.length_append]; exact hown1, HP.out⟩, hgrow1⟩
  · rw [hc] at hh
    have hat := hN.at_ s (by simpa using hc)
    have HN : Hid (NumD ns D) := hN
    clear hN hT
    go_enter Tryz.func174, Tryz.ntmps174
    go_wp2_with (at_lookup; refine wpList_lookup_own_ok_int _ rfl _ _ 208 rfl 9 3 .i64 numLaw Tryz.underlying208 Tryz.underlying3 (numZero _) B ns.length D rfl hown _ _ rfl hkey ?_; intro c hac hwc)
    go_ret
    have hcc : c = (ns.idxOf s : Int) := by
      rw [hat] at hac
      simpa using hac.symm
    subst hcc
    exact ⟨rfl, ⟨D, hown, HN.out⟩, grownBy_of_below (Below.refl _ _) _⟩

end Go.Proofs.YthenjegmigeieaaGreat

/- Package scope: names; the rules of a program. -/
namespace Go.Proofs.YthenjegmigeieaaGreat
open Go.RowKit

theorem name_check (s : List UInt8) : (Tr.check [⟨0, s, [], 0, []⟩] == 0) = Tr.isName s := by
  cases h : Tr.isName s <;> simp [Tr.check, Tr.many, Tr.ruleMany, Tr.litsMany, Tr.ruleOk, Tr.termsOk, Tr.foldOk, Tr.litsOk, h]

set_option maxRecDepth 100000 in
set_option maxHeartbeats 400000 in
theorem scName_any (s : List UInt8) (w : World) : Calls Tryz.prog 173 #[.string ⟨s.toArray⟩] w fun e w' => e = .returned (.bool (Tr.isName s)) ∧ Below w.heap.size w w' := by
  rw [← name_check]
  go_enter Tryz.func173, Tryz.ntmps173
  go_wp2_with fail
  have hV : RulesV (w.alloc (.cells #[.int .i64 0, .string ⟨s.toArray⟩, .slice none 0 0, .int .i64 0, .slice none 0 0] 240)) (.slice (some ⟨w.heap.size, 0, none⟩) 1 1) [⟨0, s, [], 0, []⟩] := by
    have hh := heap_alloc_new w (.cells #[.int .i64 0, .string ⟨s.toArray⟩, .slice none 0 0, .int .i64 0, .slice none 0 0] 240)
    refine ⟨some ⟨w.heap.size, 0, none⟩, 1, rfl, .inr ⟨w.heap.size, 0, rfl, fun i hi => ?_⟩⟩
    obtain rfl : i = 0 := by simpa using hi
    refine ⟨?_, ?_, ⟨_, ?_, ⟨none, 0, rfl, .inl rfl⟩⟩, ?_, _, ?_, ⟨none, 0, rfl, .inl rfl⟩⟩ <;> (rw [Lib.cell_of_heap hh]; rfl)
  refine Calls.mono (Check_any _ _ _ hV) ?_
  rintro e w1 ⟨rfl, hb1⟩
  have hb0 : Below w.heap.size w (w.alloc (.cells #[.int .i64 0, .string ⟨s.toArray⟩, .slice none 0 0, .int .i64 0, .slice none 0 0] 240)) := (Below.refl _ _).alloc (Nat.le_refl _) _
  go_wp2_with fail
  go_ret
  exact ⟨rfl, hb0.trans (hb1.mono hb0.size)⟩

/-- Two boxes that stand. -/
structure RB (w : World) (o1 o2 : Obj) (wr : World) : Prop where
  bel : Below w.heap.size w wr
  b1 : wr.heap[w.heap.size]? = some o1
  b2 : wr.heap[w.heap.size + 1]? = some o2
theorem RB.below {w wr w2 : World} {o1 o2 : Obj} (h : RB w o1 o2 wr) (hb : Below wr.heap.size wr w2) : RB w o1 o2 w2 :=
  ⟨h.bel.trans (hb.mono h.bel.size), (hb.block _ (heap_lt h.b1)).trans h.b1, (hb.block _ (heap_lt h.b2)).trans h.b2⟩
theorem RB.start (w : World) (o1 o2 : Obj) : RB w o1 o2 ((w.alloc o1).alloc o2) := ⟨below_two w _ _, (two_blocks (Below.refl _ _)).1, (two_blocks (Below.refl _ _)).2⟩
theorem RB.drew {w wr : World} {o1 o2 : Obj} (h : RB w o1 o2 wr) : RB w o1 o2 wr.drew := ⟨h.bel.drew, h.b1, h.b2⟩
theorem first_zero {α : Type} {f : α → Int} : ∀ {l : List α}, Sc.first f l = 0 → ∀ x, x ∈ l → f x = 0 := by
  intro l
  induction l with
  | nil => exact fun _ x hx => absurd hx (by simp)
  | cons a r ih =>
    intro h x hx
    rw [Sc.first] at h
    split at h
    · rename_i h0
      rcases List.mem_cons.mp hx with rfl | hx
      · exact h0
      · exact ih h x hx
    · rename_i h0
      exact absurd h h0
theorem litD_mem {l : List Sc.Lit} {i : Nat} (h : i < l.length) : Sc.litD l i ∈ l := by
  unfold Sc.litD
  rw [List.getD_eq_getElem?_getD, List.getElem?_eq_getElem h]
  exact List.getElem_mem h
theorem thn_both {a b : Int} (h : Sc.thn a b = 0) : a = 0 ∧ b = 0 := by
  unfold Sc.thn at h
  split at h
  · exact ⟨by assumption, h⟩
  · rename_i h0
    exact absurd h h0
theorem lit_good {ar : List Int} {vars : Int} {x : Sc.Lit} (h : Sc.litAll ar vars x = 0) (h0 : 0 ≤ vars) (hF : LitFit x) : LitGood vars.toNat x := by
  obtain ⟨h1, h2⟩ := thn_both h
  refine ⟨fun h4 => ?_, fun t ht => ?_, hF⟩
  · rw [Sc.litErr, if_neg (by rw [h4]; decide), if_neg (by rw [h4]; decide), if_pos h4] at h1
    split at h1
    · split at h1
      · exact absurd h1 (by decide)
      · rename_i hn
        exact Classical.byContradiction fun hne => hn (.inr hne)
    · exact absurd h1 (by decide)
  · have := first_zero h2 t ht
    unfold Sc.termErr Tr.between at this
    split at this
    · rename_i hb
      simp at hb
      omega
    · exact absurd this (by decide)

set_option maxRecDepth 100000 in
set_option maxHeartbeats 4000000 in
theorem checkRule_any (ar : List Int) (va vn vr : Value) (r : Sc.Rule) (vt vb : Value) (w : World) (hA : IntsV w va ar) (hT : PTermsV w vt r.terms) (hL : PLitsV w vb r.body) (hF : RuleFit r) :
    Calls Tryz.prog 175 #[progVal va vn vr, pruleVal r vt vb] w fun e w' => e = finE (Sc.ruleErr ar r) ∧ Below w.heap.size w w' := by
  obtain ⟨ao, cap, rfl, hA⟩ := hA
  obtain ⟨pred, ts, fold, body, vars⟩ := r
  have HT : Hid (PTermsV w vt ts) := hT
  have HL : Hid (PLitsV w vb body) := hL
  have HA : Hid (IntsV w (.slice ao ar.length cap) ar) := ⟨ao, cap, rfl, hA⟩
  have HFT : Hid (ts.length ≤ 9223372036854775807) := hF.1
  have HFB : Hid (∀ i, i < body.length → LitFit (Sc.litD body i)) := hF.2.2
  obtain ⟨at_, ct, rfl, _, _⟩ := hT
  obtain ⟨ab, cb, rfl, hLA⟩ := hL
  have hLA : PLitsAt w ab body := hLA
  simp only at HT HL
  clear hF
  have hR := RB.start w (.cells #[.slice ao ar.length cap, vn, vr] 26) (.cells #[.int .i64 pred, .slice at_ ts.length ct, .int .i64 fold, .slice ab body.length cb, .int .i64 vars] 40)
  have HE0 : Hid (Sc.ruleErr ar ⟨pred, ts, fold, body, vars⟩ = if Sc.isPred ar pred then
    Sc.thn (if (ts.length : Int) ≠ Sc.intD ar pred.toNat then 1 else 0) (
    Sc.thn (if Tr.between vars 0 8 then 0 else 3) (
    Sc.thn (Sc.termsErr vars ts) (
    Sc.thn (if Tr.between fold 0 4 then 0 else 7) (
    Sc.thn (if fold ≠ 0 ∧ (ts.length = 0 ∨ body.length = 0) then 1 else 0) (
    Sc.thn (if 4 < body.length then 2 else 0) (
    Sc.thn (Sc.first (Sc.litAll ar vars) body) (if Sc.safe ⟨pred, ts, fold, body, vars⟩ then 0 else 4)))))))
  else 5) := rfl
  cases g1 : Sc.isPred ar pred
  · have HV : Hid (Sc.ruleErr ar ⟨pred, ts, fold, body, vars⟩ = 5) := by show _ = _; rw [HE0.out, g1]; rfl
    clear HE0 hLA HT HL HA HFT HFB
    go_enter Tryz.func175, Tryz.ntmps175
    go_wp2_with fail
    refine (isPred_any ar ao cap vn vr pred _).mono ?_
    rintro e w2 ⟨he, hb2⟩
    rw [g1] at he
    subst he
    have hR := hR.below hb2
    go_wp2_with fail
    refine (refuse_yes 5 _).mono ?_
    rintro e w1 ⟨rfl, hb1⟩
    go_wp2_with fail
    exact ⟨rfl, by rw [HV.out]; rfl, hR.bel.trans (hb1.mono hR.bel.size)⟩
  · obtain ⟨k, rfl, hk⟩ := nat_of g1
    obtain ⟨b, off, rfl, hc⟩ := ints_at hA k hk
    have HC : Hid (∀ y, Below w.heap.size w y → y.cell? ⟨b, off + k, none⟩ = some (.int .i64 (Sc.intD ar k))) := fun y hy => cell_below hy hc
    clear hc hA
    rw [g1, if_pos rfl, Int.toNat_natCast] at HE0
    go_enter Tryz.func175, Tryz.ntmps175
    go_wp2_with fail
    refine (isPred_any ar _ cap vn vr k _).mono ?_
    rintro e w2 ⟨he, hb2⟩
    rw [g1] at he
    subst he
    have hR := hR.below hb2
    have hq := HC.out _ hR.bel
    clear hb2 HC
    go_wp2_with fail
    refine (refuse_no 5 _).mono ?_
    rintro e w1 ⟨rfl, rfl⟩
    have c1 : w1.cell? ⟨w.heap.size, 0, none⟩ = some (.slice (some ⟨b, off, none⟩) ar.length cap) := by rw [Lib.cell_of_heap hR.b1]; rfl
    have d0 : w1.cell? ⟨w.heap.size + 1, 0, none⟩ = some (.int .i64 k) := by rw [Lib.cell_of_heap hR.b2]; rfl
    have d1 : w1.cell? ⟨w.heap.size + 1, 1, none⟩ = some (.slice at_ ts.length ct) := by rw [Lib.cell_of_heap hR.b2]; rfl
    have d2 : w1.cell? ⟨w.heap.size + 1, 2, none⟩ = some (.int .i64 fold) := by rw [Lib.cell_of_heap hR.b2]; rfl
    have d3 : w1.cell? ⟨w.heap.size + 1, 3, none⟩ = some (.slice ab body.length cb) := by rw [Lib.cell_of_heap hR.b2]; rfl
    have d4 : w1.cell? ⟨w.heap.size + 1, 4, none⟩ = some (.int .i64 vars) := by rw [Lib.cell_of_heap hR.b2]; rfl
    go_upto_region 2 with fail
    cases g2 : ((ts.length : Int) != Sc.intD ar k)
    · have h2 : (ts.length : Int) = Sc.intD ar k := by simpa using g2
      rw [if_neg (by simp [h2]), Sc.thn_zero] at HE0
      go_region_held3 (fun y => y.cell? ⟨w.heap.size, 0, none⟩ = some (.slice (some ⟨b, off, none⟩) ar.length cap) ∧ y.cell? ⟨w.heap.size + 1, 0, none⟩ = some (.int .i64 k) ∧ y.cell? ⟨w.heap.size + 1, 1, none⟩ = some (.slice at_ ts.length ct) ∧ y.cell? ⟨b, off + k, none⟩ = some (.int .i64 (Sc.intD ar k))) (go_keep) ((go_at_call 129; refine Calls.mono (refuse_no 1 _) ?_; rintro e y ⟨rfl, rfl⟩))
      have hR := hR.drew
      clear c1 d0 d1 d2 d3 d4 h2 hq
      generalize w1.drew = wd at *
      have c1 : wd.cell? ⟨w.heap.size, 0, none⟩ = some (.slice (some ⟨b, off, none⟩) ar.length cap) := by rw [Lib.cell_of_heap hR.b1]; rfl
      have d0 : wd.cell? ⟨w.heap.size + 1, 0, none⟩ = some (.int .i64 k) := by rw [Lib.cell_of_heap hR.b2]; rfl
      have d1 : wd.cell? ⟨w.heap.size + 1, 1, none⟩ = some (.slice at_ ts.length ct) := by rw [Lib.cell_of_heap hR.b2]; rfl
      have d2 : wd.cell? ⟨w.heap.size + 1, 2, none⟩ = some (.int .i64 fold) := by rw [Lib.cell_of_heap hR.b2]; rfl
      have d3 : wd.cell? ⟨w.heap.size + 1, 3, none⟩ = some (.slice ab body.length cb) := by rw [Lib.cell_of_heap hR.b2]; rfl
      have d4 : wd.cell? ⟨w.heap.size + 1, 4, none⟩ = some (.int .i64 vars) := by rw [Lib.cell_of_heap hR.b2]; rfl
      by_cases h3 : vars < 0
      · have HV : Hid (Sc.ruleErr ar ⟨k, ts, fold, body, vars⟩ = 3) := by show _ = _; rw [HE0.out, if_neg (by simp [Tr.between]; omega)]; rfl
        have g3 : decide (vars < 0) = true := decide_eq_true h3
        clear HE0
        go_wp2_with fail
        refine (refuse_yes 3 _).mono ?_
        rintro e w1 ⟨rfl, hb1⟩
        go_wp2_with fail
        exact ⟨rfl, by rw [HV.out]; rfl, hR.bel.trans (hb1.mono hR.bel.size)⟩
      have g3 : decide (vars < 0) = false := decide_eq_false h3
      by_cases h3b : 8 < vars
      · have HV : Hid (Sc.ruleErr ar ⟨k, ts, fold, body, vars⟩ = 3) := by show _ = _; rw [HE0.out, if_neg (by simp [Tr.between]; omega)]; rfl
        have g3b : decide (8 < vars) = true := decide_eq_true h3b
        clear HE0
        go_wp2_with fail
        refine (refuse_yes 3 _).mono ?_
        rintro e w1 ⟨rfl, hb1⟩
        go_wp2_with fail
        exact ⟨rfl, by rw [HV.out]; rfl, hR.bel.trans (hb1.mono hR.bel.size)⟩
      have g3b : decide (8 < vars) = false := decide_eq_false h3b
      rw [if_pos (show Tr.between vars 0 8 = true by simp [Tr.between]; omega), Sc.thn_zero] at HE0
      go_wp2_with fail
      refine (refuse_no 3 _).mono ?_
      rintro e w1 ⟨rfl, rfl⟩
      go_wp2_with fail
      refine Calls.mono (checkTerms_any ts vars _ _ HFT.out (ptermsV_below HT.out hR.bel)) ?_
      rintro e w3 ⟨he, hb3⟩
      by_cases h4 : Sc.termsErr vars ts = 0
      rotate_left
      · have HV : Hid (Sc.ruleErr ar ⟨k, ts, fold, body, vars⟩ = Sc.termsErr vars ts) := by show _ = _; rw [HE0.out, Sc.thn_ne _ h4]
        rw [finE_ne h4] at he
        subst he
        clear HE0
        go_wp2_with fail
        exact ⟨rfl, by rw [HV.out, finE_ne h4], hR.bel.trans (hb3.mono hR.bel.size)⟩
      rw [h4, finE_zero] at he
      subst he
      rw [h4, Sc.thn_zero] at HE0
      have hR := hR.below hb3
      clear c1 d0 d1 d2 d3 d4 hb3 h4 HFT
      have c1 : w3.cell? ⟨w.heap.size, 0, none⟩ = some (.slice (some ⟨b, off, none⟩) ar.length cap) := by rw [Lib.cell_of_heap hR.b1]; rfl
      have d0 : w3.cell? ⟨w.heap.size + 1, 0, none⟩ = some (.int .i64 k) := by rw [Lib.cell_of_heap hR.b2]; rfl
      have d1 : w3.cell? ⟨w.heap.size + 1, 1, none⟩ = some (.slice at_ ts.length ct) := by rw [Lib.cell_of_heap hR.b2]; rfl
      have d2 : w3.cell? ⟨w.heap.size + 1, 2, none⟩ = some (.int .i64 fold) := by rw [Lib.cell_of_heap hR.b2]; rfl
      have d3 : w3.cell? ⟨w.heap.size + 1, 3, none⟩ = some (.slice ab body.length cb) := by rw [Lib.cell_of_heap hR.b2]; rfl
      have d4 : w3.cell? ⟨w.heap.size + 1, 4, none⟩ = some (.int .i64 vars) := by rw [Lib.cell_of_heap hR.b2]; rfl
      by_cases h5 : fold < 0
      · have HV : Hid (Sc.ruleErr ar ⟨k, ts, fold, body, vars⟩ = 7) := by show _ = _; rw [HE0.out, if_neg (by simp [Tr.between]; omega)]; rfl
        have g5 : decide (fold < 0) = true := decide_eq_true h5
        clear HE0
        go_wp2_with fail
        refine (refuse_yes 7 _).mono ?_
        rintro e w1 ⟨rfl, hb1⟩
        go_wp2_with fail
        exact ⟨rfl, by rw [HV.out]; rfl, hR.bel.trans (hb1.mono hR.bel.size)⟩
      have g5 : decide (fold < 0) = false := decide_eq_false h5
      by_cases h5b : 4 < fold
      · have HV : Hid (Sc.ruleErr ar ⟨k, ts, fold, body, vars⟩ = 7) := by show _ = _; rw [HE0.out, if_neg (by simp [Tr.between]; omega)]; rfl
        have g5b : decide (4 < fold) = true := decide_eq_true h5b
        clear HE0
        go_wp2_with fail
        refine (refuse_yes 7 _).mono ?_
        rintro e w1 ⟨rfl, hb1⟩
        go_wp2_with fail
        exact ⟨rfl, by rw [HV.out]; rfl, hR.bel.trans (hb1.mono hR.bel.size)⟩
      have g5b : decide (4 < fold) = false := decide_eq_false h5b
      rw [if_pos (show Tr.between fold 0 4 = true by simp [Tr.between]; omega), Sc.thn_zero] at HE0
      go_wp2_with fail
      refine (refuse_no 7 _).mono ?_
      rintro e w1 ⟨rfl, rfl⟩
      go_upto_region 6 with fail
      by_cases h6 : fold ≠ 0 ∧ (ts.length = 0 ∨ body.length = 0)
      · have HV : Hid (Sc.ruleErr ar ⟨k, ts, fold, body, vars⟩ = 1) := by show _ = _; rw [HE0.out, if_pos h6]; rfl
        clear HE0
        have g6 : (fold != 0) = true := by simpa using h6.1
        by_cases h7 : ts.length = 0
        · have g7 : ((ts.length : Int) == 0) = true := by simp [h7]
          clear h6 h7
          go_wp2_with fail
          refine (refuse_yes 1 _).mono ?_
          rintro e w1 ⟨rfl, hb1⟩
          go_wp2_with fail
          exact ⟨rfl, by rw [HV.out]; rfl, hR.bel.trans (hb1.mono hR.bel.size)⟩
        · have g7 : ((ts.length : Int) == 0) = false := by simp; exact fun e => h7 (by rw [e]; rfl)
          have h8 : body.length = 0 := h6.2.resolve_left h7
          have g8 : ((body.length : Int) == 0) = true := by simp [h8]
          clear h6 h7 h8
          go_wp2_with fail
          refine (refuse_yes 1 _).mono ?_
          rintro e w1 ⟨rfl, hb1⟩
          go_wp2_with fail
          exact ⟨rfl, by rw [HV.out]; rfl, hR.bel.trans (hb1.mono hR.bel.size)⟩
      rw [if_neg h6, Sc.thn_zero] at HE0
      go_cut [] (fun wx => wx = w1)
      case first =>
        cases g6 : (fold != 0)
        · clear h6
          go_wp2_with fail
          refine (refuse_no 1 _).mono ?_
          rintro e w5 ⟨rfl, rfl⟩
          go_wp2_with fail
          go_meet
          rfl
        · have h9 : ¬ (ts.length = 0 ∨ body.length = 0) := fun h => h6 ⟨by simpa using g6, h⟩
          have g7 : ((ts.length : Int) == 0) = false := by simp; exact fun e => h9 (.inl (by rw [e]; rfl))
          have g8 : ((body.length : Int) == 0) = false := by simp; exact fun e => h9 (.inr (by rw [e]; rfl))
          clear h6 h9
          go_wp2_with fail
          refine (refuse_no 1 _).mono ?_
          rintro e w5 ⟨rfl, rfl⟩
          go_wp2_with fail
          go_meet
          rfl
      case rest =>
        subst hcut
        clear h6
        by_cases h8 : 4 < body.length
        · have HV : Hid (Sc.ruleErr ar ⟨k, ts, fold, body, vars⟩ = 2) := by show _ = _; rw [HE0.out, if_pos h8]; rfl
          have g8 : decide (4 < body.length) = true := decide_eq_true h8
          have g8' : decide ((4 : Int) < (body.length : Int)) = true := decide_eq_true (by omega)
          clear HE0
          go_wp2_with fail
          refine (refuse_yes 2 _).mono ?_
          rintro e w1 ⟨rfl, hb1⟩
          go_wp2_with fail
          exact ⟨rfl, by rw [HV.out]; rfl, hR.bel.trans (hb1.mono hR.bel.size)⟩
        have g8 : decide (4 < body.length) = false := decide_eq_false h8
        have g8' : decide ((4 : Int) < (body.length : Int)) = false := decide_eq_false (by omega)
        rw [if_neg h8, Sc.thn_zero] at HE0
        go_wp2_with fail
        refine (refuse_no 2 _).mono ?_
        rintro e w1 ⟨rfl, rfl⟩
        go_wp2_with fail
        clear c1 d0 d1 d2 d3 d4
        go_loopw [70] (fun i wr => ∃ j : Nat, j ≤ body.length ∧ i = .int .i64 j ∧ RB w (.cells #[.slice (some ⟨b, off, none⟩) ar.length cap, vn, vr] 26) (.cells #[.int .i64 k, .slice at_ ts.length ct, .int .i64 fold, .slice ab body.length cb, .int .i64 vars] 40) wr ∧ Sc.first (Sc.litAll ar vars) body = Sc.first (Sc.litAll ar vars) (body.drop j)) (fun i _ => body.length - (intOf i).toNat)
        case atStart => exact ⟨0, Nat.zero_le _, rfl, hR, rfl⟩
        case round =>
          clear hR
          obtain ⟨j, hj, rfl, hR, hfj⟩ := hrel
          have HFJ : Hid _ := hfj
          clear hfj
          have c1 : wr.cell? ⟨w.heap.size, 0, none⟩ = some (.slice (some ⟨b, off, none⟩) ar.length cap) := by rw [Lib.cell_of_heap hR.b1]; rfl
          have d0 : wr.cell? ⟨w.heap.size + 1, 0, none⟩ = some (.int .i64 k) := by rw [Lib.cell_of_heap hR.b2]; rfl
          have d1 : wr.cell? ⟨w.heap.size + 1, 1, none⟩ = some (.slice at_ ts.length ct) := by rw [Lib.cell_of_heap hR.b2]; rfl
          have d2 : wr.cell? ⟨w.heap.size + 1, 2, none⟩ = some (.int .i64 fold) := by rw [Lib.cell_of_heap hR.b2]; rfl
          have d3 : wr.cell? ⟨w.heap.size + 1, 3, none⟩ = some (.slice ab body.length cb) := by rw [Lib.cell_of_heap hR.b2]; rfl
          have d4 : wr.cell? ⟨w.heap.size + 1, 4, none⟩ = some (.int .i64 vars) := by rw [Lib.cell_of_heap hR.b2]; rfl
          have c2 : wr.cell? ⟨w.heap.size, 1, none⟩ = some vn := by rw [Lib.cell_of_heap hR.b1]; rfl
          have c3 : wr.cell? ⟨w.heap.size, 2, none⟩ = some vr := by rw [Lib.cell_of_heap hR.b1]; rfl
          by_cases hjl : j < body.length
          · obtain ⟨b3, off3, rfl, p0, p1, p2, v, p3, hTv⟩ := plits_at hLA j hjl
            have HTV : Hid (PTermsV w v (Sc.litD body j).terms) := hTv
            obtain ⟨av, cv, rfl, _, _⟩ := hTv
            have q0 := cell_below hR.bel p0
            have q1 := cell_below hR.bel p1
            have q2 := cell_below hR.bel p2
            have q3 := cell_below hR.bel p3
            have HFD : Hid (Sc.first (Sc.litAll ar vars) body = Sc.thn (Sc.litAll ar vars (Sc.litD body j)) (Sc.first (Sc.litAll ar vars) (body.drop (j + 1)))) := HFJ.out.trans (Sc.first_drop _ _ _ j hjl)
            have HFI : Hid (LitFit (Sc.litD body j)) := HFB.out j hjl
            have hb1 : Below wr.heap.size wr (wr.alloc (.cells #[.int .i64 (Sc.litD body j).kind, .int .i64 (Sc.litD body j).op, .int .i64 (Sc.litD body j).pred, .slice av (Sc.litD body j).terms.length cv] 49)) := (Below.refl _ _).alloc (Nat.le_refl _) _
            have hlb := heap_alloc_new wr (.cells #[.int .i64 (Sc.litD body j).kind, .int .i64 (Sc.litD body j).op, .int .i64 (Sc.litD body j).pred, .slice av (Sc.litD body j).terms.length cv] 49)
            have hR1 := hR.below hb1
            clear p0 p1 p2 p3 hb1 HFJ hLA HL
            generalize hx : Sc.litD body j = x at *
            clear hx c1 c2 c3
            have c1 : (wr.alloc (.cells #[.int .i64 x.kind, .int .i64 x.op, .int .i64 x.pred, .slice av x.terms.length cv] 49)).cell? ⟨w.heap.size, 0, none⟩ = some (.slice (some ⟨b, off, none⟩) ar.length cap) := by rw [Lib.cell_of_heap hR1.b1]; rfl
            have c2 : (wr.alloc (.cells #[.int .i64 x.kind, .int .i64 x.op, .int .i64 x.pred, .slice av x.terms.length cv] 49)).cell? ⟨w.heap.size, 1, none⟩ = some vn := by rw [Lib.cell_of_heap hR1.b1]; rfl
            have c3 : (wr.alloc (.cells #[.int .i64 x.kind, .int .i64 x.op, .int .i64 x.pred, .slice av x.terms.length cv] 49)).cell? ⟨w.heap.size, 2, none⟩ = some vr := by rw [Lib.cell_of_heap hR1.b1]; rfl
            go_wp2_with fail
            refine Calls.mono (checkLit_any ar _ vn vr x _ _ (intsV_below HA.out hR1.bel) ⟨_, _, rfl⟩) ?_
            rintro e w2 ⟨he, hb2⟩
            by_cases h9 : Sc.litErr ar x = 0
            rotate_left
            · have HV : Hid (Sc.ruleErr ar ⟨k, ts, fold, body, vars⟩ = Sc.litErr ar x) := by show _ = _; rw [HE0.out, HFD.out, Sc.litAll, Sc.thn_ne _ h9, Sc.thn_ne _ h9, Sc.thn_ne _ h9]
              rw [finE_ne h9] at he
              subst he
              clear HE0 HFD
              go_wp2_with fail
              exact ⟨rfl, by rw [HV.out, finE_ne h9], hR1.bel.trans (hb2.mono hR1.bel.size)⟩
            rw [h9, finE_zero] at he
            subst he
            have hR2 := hR1.below hb2
            have hlb2 := (hb2.block _ (heap_lt hlb)).trans hlb
            have l3 : w2.cell? ⟨wr.heap.size, 3, none⟩ = some (.slice av x.terms.length cv) := by rw [Lib.cell_of_heap hlb2]; rfl
            have d4' : w2.cell? ⟨w.heap.size + 1, 4, none⟩ = some (.int .i64 vars) := by rw [Lib.cell_of_heap hR2.b2]; rfl
            clear hlb hlb2 hb2 hR1 q0 q1 q2 q3 c1 d0 d1 d2 d3 d4 c2 c3
            go_wp2_with fail
            refine Calls.mono (checkTerms_any x.terms vars _ _ HFI.out (ptermsV_below HTV.out hR2.bel)) ?_
            rintro e w3 ⟨he, hb3⟩
            by_cases h10 : Sc.termsErr vars x.terms = 0
            rotate_left
            · have HV : Hid (Sc.ruleErr ar ⟨k, ts, fold, body, vars⟩ = Sc.termsErr vars x.terms) := by show _ = _; rw [HE0.out, HFD.out, Sc.litAll, h9, Sc.thn_zero, Sc.thn_ne _ h10, Sc.thn_ne _ h10]
              rw [finE_ne h10] at he
              subst he
              clear HE0 HFD
              go_wp2_with fail
              exact ⟨rfl, by rw [HV.out, finE_ne h10], hR2.bel.trans (hb3.mono hR2.bel.size)⟩
            rw [h10, finE_zero] at he
            subst he
            have hR3 := hR2.below hb3
            have HV : Hid (Sc.first (Sc.litAll ar vars) body = Sc.first (Sc.litAll ar vars) (body.drop (j + 1))) := by show _ = _; rw [HFD.out, Sc.litAll, h9, Sc.thn_zero, h10, Sc.thn_zero]
            clear HFD HTV HFI hb3 h9 h10 l3 d4' hR2
            go_wp2_with fail
            go_roundw
            case rel => exact ⟨j + 1, by omega, by go_num, hR3, HV.out⟩
            case measure => simp [intOf]; omega
          · have hz : Sc.first (Sc.litAll ar vars) body = 0 := by rw [HFJ.out, List.drop_of_length_le (by omega)]; rfl
            have hgood : RuleGood ⟨k, ts, fold, body, vars⟩ := ⟨by show 0 ≤ vars; omega, by show vars ≤ 8; omega, by show body.length ≤ 4; omega, fun i hi => lit_good (first_zero hz _ (litD_mem hi)) (by show 0 ≤ vars; omega) (HFB.out i hi)⟩
            rw [hz, Sc.thn_zero] at HE0
            clear HFJ hz hLA
            go_wp2_with fail
            refine Calls.mono (isSafe_any ⟨k, ts, fold, body, vars⟩ _ _ _ (plitsV_below HL.out hR.bel) hgood) ?_
            rintro e w2 ⟨he, hb2⟩
            have hR := hR.below hb2
            cases h11 : Sc.safe ⟨k, ts, fold, body, vars⟩
            · rw [h11] at he HE0
              subst he
              have HV : Hid (Sc.ruleErr ar ⟨k, ts, fold, body, vars⟩ = 4) := by show _ = _; rw [HE0.out]; rfl
              clear HE0 hgood h11
              go_wp2_with fail
              refine (refuse_yes 4 _).mono ?_
              rintro e w1 ⟨rfl, hb1⟩
              go_wp2_with fail
              exact ⟨rfl, by rw [HV.out]; rfl, hR.bel.trans (hb1.mono hR.bel.size)⟩
            · rw [h11] at he HE0
              subst he
              have HV : Hid (Sc.ruleErr ar ⟨k, ts, fold, body, vars⟩ = 0) := by show _ = _; rw [HE0.out]; rfl
              clear HE0 hgood h11
              go_wp2_with fail
              refine (refuse_no 4 _).mono ?_
              rintro e w1 ⟨rfl, rfl⟩
              go_wp2_with fail
              exact ⟨rfl, .tuple #[], by simp [results, Tryz.results175], by rw [HV.out]; rfl, hR.bel⟩
    · have h2 : ¬ (ts.length : Int) = Sc.intD ar k := by simpa using g2
      have HV : Hid (Sc.ruleErr ar ⟨k, ts, fold, body, vars⟩ = 1) := by show _ = _; rw [HE0.out, if_pos h2]; rfl
      have hb02 := hR.bel
      clear HE0 h2
      refine wp_region_held_drew (S := (fun y => y.cell? ⟨w.heap.size, 0, none⟩ = some (.slice (some ⟨b, off, none⟩) ar.length cap) ∧ y.cell? ⟨w.heap.size + 1, 0, none⟩ = some (.int .i64 k) ∧ y.cell? ⟨w.heap.size + 1, 1, none⟩ = some (.slice at_ ts.length ct) ∧ y.cell? ⟨b, off + k, none⟩ = some (.int .i64 (Sc.intD ar k)))) (by kernel_rfl) (by go_keep) (fun hHeld => ?_)
      refine wpAnyH_take (i := 0) (v := ?v0x0) rfl (by kernel_rfl) (by kernel_rfl) (by kernel_rfl) (fun _ _ _ h => h) (Or.inl ⟨by rfl, ?hy0x0⟩) (by assumption) ?_
      case hy0x0 =>
        intro w hSw
        (try dsimp only at hSw)
        go_simp
        try with_reducible rfl
      try simp only [Act.put, List.setIfInBounds_toArray]
      refine wpAnyH_take (i := 1) (v := ?v1x1) rfl (by kernel_rfl) (by kernel_rfl) (by kernel_rfl) (fun _ _ _ h => h) (Or.inl ⟨by rfl, ?hy1x1⟩) (by assumption) ?_
      case hy1x1 =>
        intro w hSw
        (try dsimp only at hSw)
        go_simp
        try with_reducible rfl
      try simp only [Act.put]
      refine wpAnyH_take (i := 2) (v := ?v2x2) rfl (by kernel_rfl) (by kernel_rfl) (by kernel_rfl) (fun _ _ _ h => h) (Or.inl ⟨by rfl, ?hy2x2⟩) (by assumption) ?_
      case hy2x2 =>
        intro w hSw
        (try dsimp only at hSw)
        go_simp
        try with_reducible rfl
      try simp only [Act.put]
      refine wpAnyH_take (i := 3) (v := ?v3x3) rfl (by kernel_rfl) (by kernel_rfl) (by kernel_rfl) (fun _ _ _ h => h) (Or.inl ⟨by rfl, ?hy3x3⟩) (by assumption) ?_
      case hy3x3 =>
        intro w hSw
        (try dsimp only at hSw)
        go_simp
        try with_reducible rfl
      try simp only [Act.put]
      refine wpAnyH_take (i := 4) (v := ?v4x4) rfl (by kernel_rfl) (by kernel_rfl) (by kernel_rfl) (fun _ _ _ h => h) (Or.inl ⟨by rfl, ?hy4x4⟩) (by assumption) ?_
      case hy4x4 =>
        intro w hSw
        (try dsimp only at hSw)
        go_simp
        try with_reducible rfl
      try simp only [Act.put]
      refine wpAnyH_take (i := 5) (v := ?v5x5) rfl (by kernel_rfl) (by kernel_rfl) (by kernel_rfl) (fun _ _ _ h => h) (Or.inl ⟨by rfl, ?hy5x5⟩) (by assumption) ?_
      case hy5x5 =>
        intro w hSw
        (try dsimp only at hSw)
        go_simp
        try with_reducible rfl
      try simp only [Act.put]
      refine wpAnyH_take (i := 6) (v := ?v6x6) rfl (by kernel_rfl) (by kernel_rfl) (by kernel_rfl) (fun _ _ _ h => h) (Or.inl ⟨by rfl, ?hy6x6⟩) (by assumption) ?_
      case hy6x6 =>
        intro w hSw
        (try dsimp only at hSw)
        go_simp
        try with_reducible rfl
      try simp only [Act.put]
      refine wpAnyH_take (i := 7) (v := ?v7x7) rfl (by kernel_rfl) (by kernel_rfl) (by kernel_rfl) (fun _ _ _ h => h) (Or.inl ⟨by rfl, ?hy7x7⟩) (by assumption) ?_
      case hy7x7 =>
        intro w hSw
        (try dsimp only at hSw)
        go_simp
        try with_reducible rfl
      try simp only [Act.put]
      refine wpAnyH_take (i := 8) (v := ?v8x8) rfl (by kernel_rfl) (by kernel_rfl) (by kernel_rfl) (fun _ _ _ h => h) (Or.inl ⟨by rfl, ?hy8x8⟩) (by assumption) ?_
      case hy8x8 =>
        intro w hSw
        (try dsimp only at hSw)
        go_simp
        try with_reducible rfl
      try simp only [Act.put]
      refine wpAnyH_take (i := 9) (v := ?v9x9) rfl (by kernel_rfl) (by kernel_rfl) (by kernel_rfl) (fun _ _ _ h => h) (Or.inl ⟨by rfl, ?hy9x9⟩) (by assumption) ?_
      case hy9x9 =>
        intro w hSw
        (try dsimp only at hSw)
        go_simp
        try with_reducible rfl
      try simp only [Act.put]
      refine wpAnyH_ready (rs := [10]) (by kernel_rfl) (by simp) ?_
      refine AllReadyH.cons rfl (fun K hK => ?_) AllReadyH.nil
      go_simp
      go_at_call 129
      refine Calls.mono (refuse_yes 1 _) ?_
      rintro e y2 ⟨rfl, hb4⟩
      exact ⟨rfl, by rw [HV.out]; rfl, hb02.drew.trans (hb4.mono hb02.size)⟩

end Go.Proofs.YthenjegmigeieaaGreat

