/- Own texts, one behind the other (part 4). -/
import Derived.Test.YtgpaleifhcdjnaaBundleC
import Derived.Test.YtgpaleifhcdjnaaRows
import Derived.Laws.AppendOwnNone
import Derived.Lib.AppendZeros
import Derived.Orders
/- The library's BinarySearchFunc, of facts; package relation: Minus. -/
namespace Go.Proofs.Ytgpaleifhcdjnaa
open Go.RowKit

theorem factsAt_below8 {w w' : World} {ao : Option Addr} {l : List Rl.Fc} (h : FactsAt w ao l) (hb : Below w.heap.size w w') : FactsAt w' ao l := by
  rcases h with h | ⟨b, off, rfl, h⟩
  · exact .inl h
  · exact .inr ⟨b, off, rfl, fun i hi => factIn_below (h i hi) hb⟩
theorem up_at {l : List Rl.Fc} (h : Rl.Up l) {a b : Nat} (hab : a < b) (hb : b < l.length) : Rl.ord (Rl.factD l a) (Rl.factD l b) < 0 := by
  have h1 := List.pairwise_iff_getElem.mp h a b (by omega) hb hab
  have ea : Rl.factD l a = l[a]'(by omega) := by simp [Rl.factD, show a < l.length by omega]
  have eb : Rl.factD l b = l[b]'hb := by simp [Rl.factD, hb]
  rw [ea, eb]
  exact h1
theorem has_at {l : List Rl.Fc} {f : Rl.Fc} {i : Nat} (h : Rl.Up l) (hlo : ∀ a, a < i → Rl.ord (Rl.factD l a) f < 0) (hhi : ∀ a, i ≤ a → a < l.length → 0 ≤ Rl.ord (Rl.factD l a) f) : Rl.has l f = (decide (i < l.length) && Rl.ord (Rl.factD l i) f == 0) := by
  rw [Bool.eq_iff_iff, Rl.has_iff, Bool.and_eq_true, decide_eq_true_eq, beq_iff_eq, Rl.ord_zero]
  constructor
  · intro hm
    obtain ⟨a, ha, he⟩ := List.getElem_of_mem hm
    have ea : Rl.factD l a = f := by simp [Rl.factD, ha, he]
    rcases Nat.lt_trichotomy a i with h1 | h1 | h1
    · have h2 := hlo a h1
      rw [ea, Rl.ord_self] at h2
      omega
    · subst h1
      exact ⟨ha, ea⟩
    · have h2 := up_at h h1 ha
      rw [ea] at h2
      have h3 := hhi i (Nat.le_refl _) (by omega)
      omega
  · rintro ⟨hi, he⟩
    rw [← he]
    exact factD_mem l i hi
set_option maxRecDepth 100000 in
set_option maxHeartbeats 2000000 in
theorem bsearch_any (l : List Rl.Fc) (f : Rl.Fc) (ao fa : Option Addr) (cap fc : Nat) (w : World) (hup : Rl.Up l) (hA : FactsAt w ao l) (hI : IntsV w (.slice fa f.args.length fc) f.args) (hl : l.length ≤ 4194304) (hf : ∀ f, f ∈ l → FFit f) (hF : FFit f) :
    Calls Try.prog 55 #[.slice ao l.length cap, fcVal f.pred (.slice fa f.args.length fc), .func (.func 20) #[] #[]] w fun e w' => ∃ i : Int, e = .returned (.tuple #[.int .i64 i, .bool (Rl.has l f)]) ∧ Below w.heap.size w w' := by
  have HA : Hid (FactsAt w ao l) := hA
  have HI : Hid (IntsV w (.slice fa f.args.length fc) f.args ∧ FFit f ∧ ∀ f, f ∈ l → FFit f) := ⟨hI, hF, hf⟩
  have HUP : Hid (Rl.Up l) := hup
  clear hA hI hf hF hup
  go_enter Try.func55, Try.ntmps55
  have hba : Below w.heap.size w (w.alloc (.cells #[.int .i64 f.pred, .slice fa f.args.length fc] 49)) := (Below.refl _ _).alloc (Nat.le_refl _) _
  have hFB := rl_new w (.cells #[.int .i64 f.pred, .slice fa f.args.length fc] 49)
  go_wp2_with fail
  generalize hwa : w.alloc (.cells #[.int .i64 f.pred, .slice fa f.args.length fc] 49) = wa at *
  have e0 : wa.cell? ⟨w.heap.size, 0, none⟩ = some (.int .i64 f.pred) := by rw [Lib.cell_of_heap hFB]; rfl
  have e1 : wa.cell? ⟨w.heap.size, 1, none⟩ = some (.slice fa f.args.length fc) := by rw [Lib.cell_of_heap hFB]; rfl
  have HE : Hid (wa.cell? ⟨w.heap.size, 0, none⟩ = some (.int .i64 f.pred) ∧ wa.cell? ⟨w.heap.size, 1, none⟩ = some (.slice fa f.args.length fc)) := ⟨e0, e1⟩
  clear hwa hFB e0 e1
  go_loopw [9, 10] (fun iv jv wr => ∃ i j : Nat, i ≤ j ∧ j ≤ l.length ∧ iv = .int .i64 i ∧ jv = .int .i64 j ∧ (∀ a, a < i → Rl.ord (Rl.factD l a) f < 0) ∧ (∀ a, j ≤ a → a < l.length → 0 ≤ Rl.ord (Rl.factD l a) f) ∧ Below wa.heap.size wa wr) (fun iv jv _ => (intOf jv).toNat - (intOf iv).toNat)
  case atStart => exact ⟨0, l.length, Nat.zero_le _, Nat.le_refl _, rfl, rfl, fun a h => absurd h (Nat.not_lt_zero _), fun a h1 h2 => absurd h2 (by omega), Below.refl _ _⟩
  case round =>
    obtain ⟨wo, hwo⟩ : ∃ wo, wo = wr := ⟨_, rfl⟩
    subst hwo
    obtain ⟨i, j, hij, hj, rfl, rfl, hlo, hhi, hb⟩ := hrel
    have HLO : Hid _ := hlo
    have HHI : Hid _ := hhi
    clear hlo hhi
    by_cases hlt : i < j
    · go_upto_region 5 with fail
      obtain ⟨h, hhe⟩ : ∃ h : Nat, h = (i + j) / 2 := ⟨_, rfl⟩
      have hh : ((i : Int) + (j : Int)) / 2 = (h : Int) := by omega
      have hih : i ≤ h := by omega
      have hhj : h < j := by omega
      have hhl : h < l.length := by omega
      obtain ⟨b, off, rfl, p0, fv, p1, hIv⟩ := facts_at HA.out h hhl
      have HG : Hid (FFit (Rl.factD l h)) := HI.out.2.2 _ (factD_mem l h hhl)
      have hbo := hba.trans (hb.mono hba.size)
      obtain ⟨ga, gc, rfl, _⟩ := id hIv
      have c0 := cell_below hbo p0
      have c1 := cell_below hbo p1
      have d0 := cell_below hb HE.out.1
      have d1 := cell_below hb HE.out.2
      have HN : Hid (∀ yy, yy.cell? ⟨b, off + h * 2, none⟩ = some (.int .i64 (Rl.factD l h).pred) ∧ yy.cell? ⟨b, off + h * 2 + 1, none⟩ = some (.slice ga (Rl.factD l h).args.length gc) ∧ yy.cell? ⟨w.heap.size, 0, none⟩ = some (.int .i64 f.pred) ∧ yy.cell? ⟨w.heap.size, 1, none⟩ = some (.slice fa f.args.length fc) ∧ Below wo.heap.size wo yy → Calls Try.prog 20 #[fcVal (Rl.factD l h).pred (.slice ga (Rl.factD l h).args.length gc), fcVal f.pred (.slice fa f.args.length fc)] yy fun e w' => e = .returned (.int .i64 (Rl.ord (Rl.factD l h) f)) ∧ Below wo.heap.size wo w' ∧ w'.cell? ⟨b, off + h * 2, none⟩ = some (.int .i64 (Rl.factD l h).pred) ∧ w'.cell? ⟨b, off + h * 2 + 1, none⟩ = some (.slice ga (Rl.factD l h).args.length gc) ∧ w'.cell? ⟨w.heap.size, 0, none⟩ = some (.int .i64 f.pred) ∧ w'.cell? ⟨w.heap.size, 1, none⟩ = some (.slice fa f.args.length fc)) := by
        intro yy hyy
        obtain ⟨y0, y1, y2, y3, y4⟩ := hyy
        have hby := hbo.trans (y4.mono hbo.size)
        refine Calls.mono (Order_any _ f _ _ yy (intsV_below hIv hby) (intsV_below HI.out.1 hby) HG.out HI.out.2.1) ?_
        rintro e w' ⟨rfl, hg⟩
        have hb9 := hg.below
        exact ⟨rfl, y4.trans (hb9.mono y4.size), cell_below hb9 y0, cell_below hb9 y1, cell_below hb9 y2, cell_below hb9 y3⟩
      have HGA : ∀ b o, Below wo.heap.size wo b → Below wo.heap.size wo (b.alloc o) := fun _ o h => h.alloc h.size o
      have HGD : ∀ b, Below wo.heap.size wo b → Below wo.heap.size wo b.drew := fun _ h => ⟨h.os, h.tape, h.output, h.size, h.block⟩
      have HGR : Below wo.heap.size wo wo := Below.refl _ _
      obtain ⟨g, hg⟩ : ∃ g, g = Rl.factD l h := ⟨_, rfl⟩
      have HGE : Hid (g = Rl.factD l h) := hg
      rw [← hg] at HN c0 c1
      clear hg p0 p1 hIv
      rw [hh]
      clear hh hhe
      go_region_held3 (fun yy => yy.cell? ⟨b, off + h * 2, none⟩ = some (.int .i64 g.pred) ∧ yy.cell? ⟨b, off + h * 2 + 1, none⟩ = some (.slice ga g.args.length gc) ∧ yy.cell? ⟨w.heap.size, 0, none⟩ = some (.int .i64 f.pred) ∧ yy.cell? ⟨w.heap.size, 1, none⟩ = some (.slice fa f.args.length fc) ∧ Below wo.heap.size wo yy) (go_keep) (
        (go_at_call 20; refine Calls.mono (HN.out _ ?_) ?_; (simp [*]); rintro e w2 ⟨rfl, hb2, hz2, hz3, hz4, hz5⟩))
      have hbz := hb.trans (hb2.mono hb.size)
      clear HGA HGD HGR HN hz2 hz3 hz4 hz5 c0 c1 d0 d1 hb hbo hb2
      by_cases ho : Rl.ord g f < 0
      · have HL2 : Hid (∀ a, a < h + 1 → Rl.ord (Rl.factD l a) f < 0) := by
          intro a ha
          rw [HGE.out] at ho
          rcases Nat.lt_or_ge a h with h1 | h1
          · exact Rl.ord_trans (up_at HUP.out h1 hhl) ho
          · rw [show a = h by omega]
            exact ho
        go_wp2_with fail
        go_roundw
        case rel => exact ⟨h + 1, j, by omega, hj, by go_num, rfl, HL2.out, HHI.out, hbz⟩
        case measure => simp [intOf]; omega
      · have HH2 : Hid (∀ a, h ≤ a → a < l.length → 0 ≤ Rl.ord (Rl.factD l a) f) := by
          intro a ha1 ha2
          rw [HGE.out] at ho
          rcases Nat.lt_or_ge h a with h1 | h1
          · rcases (show Rl.ord (Rl.factD l a) f < 0 ∨ 0 ≤ Rl.ord (Rl.factD l a) f by omega) with h2 | h2
            · exact absurd (Rl.ord_trans (up_at HUP.out h1 ha2) h2) ho
            · exact h2
          · rw [show a = h by omega]
            omega
        go_wp2_with fail
        go_roundw
        case rel => exact ⟨i, h, hih, by omega, rfl, rfl, HLO.out, HH2.out, hbz⟩
        case measure => simp [intOf]; omega
    · have hji : j = i := by omega
      subst hji
      have HR : Hid _ := has_at HUP.out HLO.out HHI.out
      go_upto_region 8 with fail
      by_cases hjl : j < l.length
      · rw [decide_eq_true hjl, Bool.true_and] at HR
        obtain ⟨b, off, rfl, p0, fv, p1, hIv⟩ := facts_at HA.out j hjl
        have HG : Hid (FFit (Rl.factD l j)) := HI.out.2.2 _ (factD_mem l j hjl)
        have hbo := hba.trans (hb.mono hba.size)
        obtain ⟨ga, gc, rfl, _⟩ := id hIv
        have c0 := cell_below hbo p0
        have c1 := cell_below hbo p1
        have d0 := cell_below hb HE.out.1
        have d1 := cell_below hb HE.out.2
        have HN : Hid (∀ yy, yy.cell? ⟨b, off + j * 2, none⟩ = some (.int .i64 (Rl.factD l j).pred) ∧ yy.cell? ⟨b, off + j * 2 + 1, none⟩ = some (.slice ga (Rl.factD l j).args.length gc) ∧ yy.cell? ⟨w.heap.size, 0, none⟩ = some (.int .i64 f.pred) ∧ yy.cell? ⟨w.heap.size, 1, none⟩ = some (.slice fa f.args.length fc) ∧ Below wo.heap.size wo yy → Calls Try.prog 20 #[fcVal (Rl.factD l j).pred (.slice ga (Rl.factD l j).args.length gc), fcVal f.pred (.slice fa f.args.length fc)] yy fun e w' => e = .returned (.int .i64 (Rl.ord (Rl.factD l j) f)) ∧ Below wo.heap.size wo w' ∧ w'.cell? ⟨b, off + j * 2, none⟩ = some (.int .i64 (Rl.factD l j).pred) ∧ w'.cell? ⟨b, off + j * 2 + 1, none⟩ = some (.slice ga (Rl.factD l j).args.length gc) ∧ w'.cell? ⟨w.heap.size, 0, none⟩ = some (.int .i64 f.pred) ∧ w'.cell? ⟨w.heap.size, 1, none⟩ = some (.slice fa f.args.length fc)) := by
          intro yy hyy
          obtain ⟨y0, y1, y2, y3, y4⟩ := hyy
          have hby := hbo.trans (y4.mono hbo.size)
          refine Calls.mono (Order_any _ f _ _ yy (intsV_below hIv hby) (intsV_below HI.out.1 hby) HG.out HI.out.2.1) ?_
          rintro e w' ⟨rfl, hg⟩
          have hb9 := hg.below
          exact ⟨rfl, y4.trans (hb9.mono y4.size), cell_below hb9 y0, cell_below hb9 y1, cell_below hb9 y2, cell_below hb9 y3⟩
        have HGA : ∀ b o, Below wo.heap.size wo b → Below wo.heap.size wo (b.alloc o) := fun _ o h => h.alloc h.size o
        have HGD : ∀ b, Below wo.heap.size wo b → Below wo.heap.size wo b.drew := fun _ h => ⟨h.os, h.tape, h.output, h.size, h.block⟩
        have HGR : Below wo.heap.size wo wo := Below.refl _ _
        obtain ⟨g, hg⟩ : ∃ g, g = Rl.factD l j := ⟨_, rfl⟩
        have HGE : Hid (g = Rl.factD l j) := hg
        rw [← hg] at HN c0 c1
        clear hg p0 p1 hIv
        rw [← HGE.out] at HR
        go_region_held3 (fun yy => yy.cell? ⟨b, off + j * 2, none⟩ = some (.int .i64 g.pred) ∧ yy.cell? ⟨b, off + j * 2 + 1, none⟩ = some (.slice ga g.args.length gc) ∧ yy.cell? ⟨w.heap.size, 0, none⟩ = some (.int .i64 f.pred) ∧ yy.cell? ⟨w.heap.size, 1, none⟩ = some (.slice fa f.args.length fc) ∧ Below wo.heap.size wo yy) (go_keep) (
          (go_at_call 20; refine Calls.mono (HN.out _ ?_) ?_; (simp [*]); rintro e w2 ⟨rfl, hb2, hz2, hz3, hz4, hz5⟩))
        have hbz := hba.trans ((hb.trans (hb2.mono hb.size)).mono hba.size)
        clear HGA HGD HGR HN hz2 hz3 hz4 hz5 c0 c1 d0 d1 hb hbo hb2
        go_wp2_with fail
        go_ret2
        exact ⟨j, by rw [HR.out]; rfl, hbz⟩
      · have hjd : decide (j < l.length) = false := decide_eq_false hjl
        rw [hjd, Bool.false_and] at HR
        have hbz : Below w.heap.size w wo.drew := by
          have h9 := hba.trans (hb.mono hba.size)
          exact ⟨h9.os, h9.tape, h9.output, h9.size, h9.block⟩
        go_region
        go_wp2_with fail
        go_ret2
        exact ⟨j, by rw [HR.out]; rfl, hbz⟩

set_option maxRecDepth 100000 in
set_option maxHeartbeats 1000000 in
theorem minus1_any (w : World) (B : Nat) (m : List Rl.Fc) (bo : Option Addr) (cbp : Nat) (h0 : w.cell? ⟨B, 0, none⟩ = some (.slice bo (Rl.set m).length cbp)) (hB : FactsAt w bo (Rl.set m)) (hl : (Rl.set m).length ≤ 4194304) (hf : ∀ f, f ∈ Rl.set m → FFit f) :
    Keeps1 54 #[.pointer (some ⟨B, 0, none⟩)] w (fun x => !Rl.has m x) := by
  intro v g ao cap hv hIg hFg
  show Calls Try.prog 54 #[fcVal g.pred (.slice ao g.args.length cap), .pointer (some ⟨B, 0, none⟩)] v _
  have hba : Below v.heap.size v (v.alloc (.cells #[.int .i64 g.pred, .slice ao g.args.length cap] 49)) := (Below.refl _ _).alloc (Nat.le_refl _) _
  have c0 := cell_below hba (cell_below hv h0)
  have c1 := cell_below hv h0
  have hGa := rl_new v (.cells #[.int .i64 g.pred, .slice ao g.args.length cap] 49)
  have d0 : (v.alloc (.cells #[.int .i64 g.pred, .slice ao g.args.length cap] 49)).cell? ⟨v.heap.size, 0, none⟩ = some (.int .i64 g.pred) := by rw [Lib.cell_of_heap hGa]; rfl
  have d1 : (v.alloc (.cells #[.int .i64 g.pred, .slice ao g.args.length cap] 49)).cell? ⟨v.heap.size, 1, none⟩ = some (.slice ao g.args.length cap) := by rw [Lib.cell_of_heap hGa]; rfl
  have HH : Hid (Rl.has (Rl.set m) g = Rl.has m g) := by
    show _ = _
    rw [Bool.eq_iff_iff, Rl.has_iff, Rl.has_iff, Rl.mem_set]
  have HC : Hid (∀ yy, Below v.heap.size v yy → Calls Try.prog 55 #[.slice bo (Rl.set m).length cbp, fcVal g.pred (.slice ao g.args.length cap), .func (.func 20) #[] #[]] yy fun e w' => ∃ i : Int, e = .returned (.tuple #[.int .i64 i, .bool (Rl.has m g)]) ∧ Below v.heap.size v w') := by
    intro yy hy
    refine Calls.mono (bsearch_any (Rl.set m) g bo ao cbp cap yy (Rl.set_isSet m).1 (factsAt_below8 (factsAt_below8 hB hv) hy) (intsV_below hIg hy) hl hf hFg) ?_
    rintro e w' ⟨i, rfl, hb⟩
    exact ⟨i, by rw [HH.out], hy.trans (hb.mono hy.size)⟩
  have hmf : ∀ (fn : Fn) (first cap : Array Value) (w : World), (Instr.makeFunc fn first cap).run Try.prog w = .ok (.func fn first cap) w := fun _ _ _ _ => rfl
  clear hB hf hGa h0 hIg HH
  generalize (Rl.set m).length = n at *
  go_enter Try.func54, Try.ntmps54
  go_wp2_with fail
  refine Calls.mono (HC.out _ hba) ?_
  rintro e w1 ⟨i, rfl, hb1⟩
  clear HC hba c0 c1 d0 d1 hv
  go_wp2_with fail
  go_ret
  exact ⟨rfl, hb1⟩
theorem rl_enters54 : ∀ args w, (callFunc 54 args).run Try.prog w = .ok (.enter 54 args) w := enters_of Try.func54 (by kernel_rfl) rfl
theorem set_length (l : List Rl.Fc) : (Rl.set l).length ≤ l.length := by
  have ins_len : ∀ (f : Rl.Fc) (s : List Rl.Fc), (Rl.ins f s).length ≤ s.length + 1 := by
    intro f s
    induction s with
    | nil => simp [Rl.ins]
    | cons a s ih =>
      unfold Rl.ins
      split
      · simp
      · split
        · simp
        · simp only [List.length_cons]
          omega
  induction l with
  | nil => exact Nat.le_refl _
  | cons a l ih =>
    have h1 := ins_len a (Rl.set l)
    show (Rl.ins a (Rl.set l)).length ≤ l.length + 1
    omega

set_option maxRecDepth 100000 in
set_option maxHeartbeats 1000000 in
theorem Minus_any (l m : List Rl.Fc) (v u : Value) (w : World) (hV : FactsV w v l) (hU : FactsV w u m) (hl : l.length ≤ 1048576) (hm : m.length ≤ 1048576) (hf : ∀ f, f ∈ l → f.args.length ≤ 1048576) (hg : ∀ f, f ∈ m → f.args.length ≤ 1048576) :
    Calls Try.prog 29 #[v, u] w fun e w' => ∃ v', e = .returned v' ∧ FactsV w' v' (Rl.minus l m) ∧ Below w.heap.size w w' := by
  have hmf : ∀ (fn : Fn) (first cap : Array Value) (w : World), (Instr.makeFunc fn first cap).run Try.prog w = .ok (.func fn first cap) w := fun _ _ _ _ => rfl
  have HS : Hid _ := Set_any m u w hU (by omega) hg
  have HF : Hid ((∀ f, f ∈ l → f.args.length ≤ 1048576) ∧ (∀ f, f ∈ Rl.set m → FFit f) ∧ (Rl.set m).length ≤ 4194304) := ⟨hf, fun f h => Nat.le_trans (hg f (Rl.mem_set.mp h)) (by decide), by have := set_length m; omega⟩
  have HV : Hid (FactsV w v l) := hV
  obtain ⟨ao, cap, rfl, _, _⟩ := id hV
  obtain ⟨bo, cbp, rfl, _, _⟩ := id hU
  clear hV hU hf hg
  go_enter Try.func29, Try.ntmps29
  go_wp2_with fail
  refine Calls.mono HS.out ?_
  rintro e w1 ⟨v1, rfl, hP, hb1⟩
  obtain ⟨a1, c1, rfl, _, hA1⟩ := hP.toV
  have HA1 : Hid (FactsAt w1 a1 (Rl.set m)) := hA1
  clear hP hA1 HS
  generalize hn : (Rl.set m).length = n at *
  have HN : Hid ((Rl.set m).length = n) := hn
  clear hn
  go_wp2_with fail
  have hb2 : Below w1.heap.size w1 (w1.alloc (Obj.cells #[Value.slice a1 n c1] 47)) := (Below.refl _ _).alloc (Nat.le_refl _) _
  have hb3 := hb1.trans (hb2.mono hb1.size)
  have e0 : (w1.alloc (Obj.cells #[Value.slice a1 n c1] 47)).cell? ⟨w1.heap.size, 0, none⟩ = some (.slice a1 (Rl.set m).length c1) := by rw [Lib.cell_of_heap (rl_new w1 _), HN.out]; rfl
  refine Calls.mono (keep_any l _ _ 54 _ (fun x => !Rl.has m x) (factsV_below HV.out hb3) (by omega) HF.out.1 rl_enters54 (minus1_any _ w1.heap.size m a1 c1 e0 (factsAt_below8 HA1.out hb2) (by rw [HN.out]; exact HF.out.2.2) HF.out.2.1)) ?_
  rintro e w3 ⟨v3, rfl, hS, hbk⟩
  have HS : Hid (FactsV w3 v3 (Rl.minus l m)) := hS.toV
  obtain ⟨q3, _, hown3, _⟩ := id hS
  obtain ⟨a3, c3, rfl⟩ := own_slice hown3
  have hb4 := hb3.trans (hbk.mono hb3.size)
  clear hown3 hS hbk hb1 hb2 hb3 e0 HV HF HA1 HN
  go_wp2_with fail
  go_ret
  exact ⟨_, rfl, HS.out, hb4⟩

end Go.Proofs.Ytgpaleifhcdjnaa

/- The document's SetOf. -/
namespace Go.Proofs.Ytgpaleifhcdjnaa
open Go.RowKit

/-- Facts in a row of one's own; their numbers lie where they lay. -/
def FactsS (w w' : World) (v : Value) (s : List Rl.Fc) : Prop :=
  ∃ q : List Fv, q.map (·.1) = s ∧ w'.ownsRow w.heap.size 49 2 v q.length (q.map fcCells).flatten ∧ ∀ p, p ∈ q → FvOk w p
theorem own_factsV {w w' : World} {B : Nat} {v : Value} {q : List Fv} (h2 : w'.ownsRow B 49 2 v q.length (q.map fcCells).flatten) (h3 : ∀ p, p ∈ q → FvOk w p) (hb : Below w.heap.size w w') : FactsV w' v (q.map (·.1)) := by
  rcases ownsRow_forms9 h2 with ⟨hv, h0⟩ | ⟨g, cap, hv⟩
  · have hq : q = [] := List.eq_nil_of_length_eq_zero h0
    subst hq
    exact ⟨none, 0, hv, ⟨Nat.le_refl _, fun _ => rfl⟩, .inl rfl⟩
  · subst hv
    have hc : q.length ≤ cap := by
      rcases h2.2 with ⟨hv, _⟩ | ⟨_, _, _, hv, _, _, hc1, _⟩
      · cases hv
      · injection hv with _ _ e3
        omega
    refine ⟨_, cap, by rw [List.length_map], ⟨by rw [List.length_map]; exact hc, fun h => by cases h⟩, .inr ⟨g, 0, rfl, fun i hi => ?_⟩⟩
    rw [List.length_map] at hi
    have hq : q[i]? = some q[i] := List.getElem?_eq_getElem hi
    have hd : Rl.factD (q.map (·.1)) i = q[i].1 := by simp [Rl.factD, hi]
    obtain ⟨c0, c1⟩ := FRow.cell h2 hq
    rw [Nat.zero_add, hd]
    exact ⟨c0, q[i].2, c1, intsV_below (h3 _ (List.getElem_mem hi)).1 hb⟩
theorem FactsS.toV {w w' : World} {v : Value} {s : List Rl.Fc} (h : FactsS w w' v s) (hb : Below w.heap.size w w') : FactsV w' v s := by
  obtain ⟨q, rfl, h2, h3⟩ := h
  exact own_factsV h2 h3 hb
/-- A list with one more at place k, whatever it is there. -/
structure Gap (q R : List Fv) (k : Nat) : Prop where
  len : R.length = q.length + 1
  lo : ∀ j, j < k → R[j]? = q[j]?
  hi : ∀ j, k < j → R[j]? = q[j - 1]?
theorem Gap.start (q : List Fv) (x : Fv) : Gap q (q ++ [x]) q.length :=
  ⟨by simp, fun j hj => List.getElem?_append_left hj, fun j hj => by rw [List.getElem?_eq_none (by simp; omega), List.getElem?_eq_none (by omega)]⟩
theorem Gap.step {q R : List Fv} {k : Nat} {y : Fv} (h : Gap q R (k + 1)) (hy : q[k]? = some y) : Gap q (R.set (k + 1) y) k := by
  have hk : k < q.length := by
    rcases Nat.lt_or_ge k q.length with h2 | h2
    · exact h2
    · rw [List.getElem?_eq_none h2] at hy; cases hy
  refine ⟨by rw [List.length_set]; exact h.len, fun j hj => ?_, fun j hj => ?_⟩
  · rw [List.getElem?_set, if_neg (by omega)]
    exact h.lo j (by omega)
  · rw [List.getElem?_set]
    by_cases hjk : k + 1 = j
    · rw [if_pos hjk, if_pos (by have := h.len; omega), ← hjk]
      exact hy.symm
    · rw [if_neg hjk]
      exact h.hi j (by omega)
theorem Gap.fin {q R : List Fv} {k : Nat} (h : Gap q R k) (hk : k ≤ q.length) (x : Fv) : R.set k x = q.take k ++ x :: q.drop k := by
  apply List.ext_getElem?
  intro j
  rw [List.getElem?_set]
  by_cases hj : k = j
  · rw [if_pos hj, if_pos (by have := h.len; omega), ← hj, List.getElem?_append_right (by rw [List.length_take]; omega), List.length_take, Nat.min_eq_left hk, Nat.sub_self]
    rfl
  · rw [if_neg hj]
    by_cases hlt : j < k
    · rw [h.lo j hlt, List.getElem?_append_left (by rw [List.length_take]; omega), List.getElem?_take, if_pos hlt]
    · rw [h.hi j (by omega), List.getElem?_append_right (by rw [List.length_take]; omega), List.length_take, Nat.min_eq_left hk]
      obtain ⟨d, hd⟩ : ∃ d, j - k = d + 1 := ⟨j - k - 1, by omega⟩
      rw [hd, List.getElem?_cons_succ, List.getElem?_drop]
      congr 1
      omega
theorem isSet_skip {s l : List Rl.Fc} {f : Rl.Fc} (h : Rl.IsSet s l) (hf : f ∈ s) : Rl.IsSet s (l ++ [f]) :=
  ⟨h.1, fun x => by
    rw [List.mem_append, h.2]
    constructor
    · intro hx; exact .inl hx
    · rintro (hx | hx)
      · exact hx
      · rw [List.mem_singleton.mp hx]; exact (h.2 f).mp hf⟩
theorem isSet_put {s l : List Rl.Fc} {f : Rl.Fc} {k : Nat} (h : Rl.IsSet s l) (hf : f ∉ s) (hk : k ≤ s.length) (hd : ∀ x, x ∈ s.drop k → Rl.ord x f > 0) (ht : k = 0 ∨ ∃ x, s[k - 1]? = some x ∧ ¬ Rl.ord x f > 0) : Rl.IsSet (s.take k ++ f :: s.drop k) (l ++ [f]) :=
  ⟨Rl.up_put h.1 hf hk hd ht, fun x => by
    rw [Rl.mem_put, List.mem_append, h.2, List.mem_singleton]
    constructor
    · rintro (hx | hx)
      · exact .inr hx
      · exact .inl hx
    · rintro (hx | hx)
      · exact .inr hx
      · exact .inl hx⟩

set_option maxRecDepth 100000 in
set_option maxHeartbeats 4000000 in
theorem SetOf_any (l : List Rl.Fc) (v : Value) (w : World) (hV : FactsV w v l) (hl : l.length ≤ 2097152) (hf : ∀ f, f ∈ l → FFit f) :
    Calls Try.prog 24 #[v] w fun e w' => ∃ v', e = .returned v' ∧ FactsS w w' v' (Rl.set l) ∧ Below w.heap.size w w' := by
  obtain ⟨i0, hi, hz0, hz1, hz2⟩ := info_parts rl_info49
  obtain ⟨ao, cap, rfl, _, hA⟩ := hV
  have HA : Hid (FactsAt w ao l) := hA
  have HF : Hid (∀ f, f ∈ l → FFit f) := hf
  clear hA hf
  go_enter Try.func24, Try.ntmps24
  go_wp2_with fail
  go_loopw [3, 4] (fun vs i wr => ∃ (k : Nat) (q : List Fv), k ≤ l.length ∧ i = .int .i64 k ∧ wr.ownsRow w.heap.size 49 2 vs q.length (q.map fcCells).flatten ∧ Rl.IsSet (q.map (·.1)) (l.take k) ∧ (∀ p, p ∈ q → FvOk w p) ∧ Below w.heap.size w wr ∧ q.length ≤ k) (fun _ i _ => l.length - (intOf i).toNat)
  case atStart => exact ⟨0, [], Nat.zero_le _, rfl, World.ownsRow_nil _ _ _ _, ⟨List.Pairwise.nil, fun x => Iff.rfl⟩, fun _ hp => absurd hp (by simp), Below.refl _ _, Nat.le_refl _⟩
  case round =>
    obtain ⟨wo, hwo⟩ : ∃ wo, wo = wr := ⟨_, rfl⟩
    subst hwo
    obtain ⟨k, q, hk, rfl, hown, hset, hqo, hb, hqk⟩ := hrel
    have HSET : Hid _ := hset
    have HQO : Hid _ := hqo
    clear hset hqo
    obtain ⟨aos, caps, rfl⟩ := own_slice hown
    by_cases hlt : k < l.length
    · obtain ⟨b, off, rfl, p0, fv, p1, hIv⟩ := facts_at HA.out k hlt
      have hmem := factD_mem l k hlt
      have HTK : Hid (l.take (k + 1) = l.take k ++ [Rl.factD l k]) := by show _ = _; rw [List.take_add_one, factD_get l k hlt]; rfl
      have HIV : Hid (IntsV w fv (Rl.factD l k).args) := hIv
      have HFF : Hid (FFit (Rl.factD l k)) := HF.out _ hmem
      obtain ⟨af, cf, rfl, _⟩ := hIv
      have a0 := cell_below hb p0
      have a1 := cell_below hb p1
      have HP0 : Hid (w.cell? ⟨b, off + k * 2, none⟩ = some (.int .i64 (Rl.factD l k).pred) ∧ w.cell? ⟨b, off + k * 2 + 1, none⟩ = some (.slice af (Rl.factD l k).args.length cf)) := ⟨p0, p1⟩
      clear p0 p1 hmem
      generalize Rl.factD l k = f at *
      have HHF : Hid (Calls Try.prog 26 #[.slice aos q.length caps, fcVal f.pred (.slice af f.args.length cf)] wo fun e w' => e = .returned (.bool (Rl.has (q.map (·.1)) f)) ∧ Below wo.heap.size wo w') := by
        exact HasFact_any (q.map (·.1)) f _ _ wo (own_factsV hown HQO.out hb) (intsV_below HIV.out hb) (by rw [List.length_map]; omega) (fun g hg => by obtain ⟨p, hp, rfl⟩ := List.mem_map.mp hg; exact (HQO.out p hp).2) HFF.out
      go_wp2_with fail
      refine Calls.mono HHF.out ?_
      rintro e w1 ⟨rfl, hb1⟩
      have hown1 := ownsRow_below hown hb1
      have hbw1 := hb.trans (hb1.mono hb.size)
      clear hown hb hb1 HHF a0 a1
      cases hh : Rl.has (q.map (·.1)) f
      · have HNF : Hid (f ∉ q.map (·.1)) := fun h => by rw [Rl.has_iff.mpr h] at hh; cases hh
        clear hh
        have b0 := cell_below hbw1 HP0.out.1
        have b1 := cell_below hbw1 HP0.out.2
        have hbsz := hbw1.size
        go_wp2_with (at_builtin; refine wpList_append_own _ rfl (.tmp 20) (.tmp 25) 47 rfl w.heap.size 49 i0 _ 2 32 Try.underlying47 hi hz0 hz1 hz2 rfl (by decide) _ _ _ rfl (hown1.alloc _) ⟨w1.heap.size, 0, none⟩ 1 1 (fcCells (f, .slice af f.args.length cf)) rfl rfl ?c1 ?c2 ?c3 ?c4 ?c5 ?_)
        case c1 => exact news2 w1 _ _ 49
        case c2 => intro u hu; simp [fcCells] at hu; rcases hu with rfl | rfl <;> rfl
        case c3 => unfold maxLen; omega
        case c4 => omega
        case c5 => simp; omega
        intro vs2 w4 hown4 hgrow4 _
        have hb5 : Below w.heap.size w w4 := (hbw1.alloc hbw1.size _).grown hgrow4 (by simp; omega) (fun k hk => (hown1.lt k hk).1)
        rcases ownsRow_forms9 hown4 with ⟨_, h0⟩ | ⟨g, cap9, hv9⟩
        · exact absurd h0 (by omega)
        subst hv9
        have hrow5 : FRow w4 w.heap.size g cap9 (q ++ [(f, Value.slice af f.args.length cf)]) := by
          unfold FRow
          rw [List.length_append, List.map_append, List.flatten_append]
          simpa using hown4
        have hgl := hrow5.lt
        clear hown4 hgrow4 hown1 hbw1 b0 b1
        go_wp2_with fail
        go_loopw [5] (fun ik wr => ∃ (m : Nat) (R : List Fv), m ≤ q.length ∧ ik = .int .i64 m ∧ FRow wr w.heap.size g cap9 R ∧ Gap q R m ∧ (∀ x, x ∈ (q.map (·.1)).drop m → Rl.ord x f > 0) ∧ Below w.heap.size w wr) (fun ik _ => (intOf ik).toNat)
        case atStart => exact ⟨q.length, _, Nat.le_refl _, rfl, hrow5, Gap.start q _, fun x hx => by rw [List.drop_of_length_le (by simp)] at hx; simp at hx, hb5⟩
        case round =>
          clear hrow5 hb5
          obtain ⟨wp, hwp⟩ : ∃ wp, wp = wr := ⟨_, rfl⟩
          subst hwp
          obtain ⟨m, R, hm, rfl, hrow, hgap, hgt, hbp⟩ := hrel
          have HGP : Hid _ := hgap
          have HGT : Hid _ := hgt
          have hRl := hgap.len
          have HRL : Hid (R.length = q.length + 1) := hRl
          have hmR : m < R.length := by omega
          clear hgap hgt hRl
          have b0 := cell_below hbp HP0.out.1
          have b1 := cell_below hbp HP0.out.2
          rcases Nat.eq_zero_or_pos m with hm0 | hm0
          · have HTOP : Hid (m = 0 ∨ ∃ x, (q.map (·.1))[m - 1]? = some x ∧ ¬ Rl.ord x f > 0) := .inl hm0
            have hmz : decide (0 < m) = false := by simp; omega
            have HM0 : Hid (m = 0) := hm0
            clear hm0
            go_upto_region 8 with fail
            go_region
            have hrow2 : FRow wp.drew w.heap.size g cap9 R := hrow
            have hbz : Below w.heap.size w wp.drew := ⟨hbp.os, hbp.tape, hbp.output, hbp.size, hbp.block⟩
            clear hrow hbp b0 b1
            generalize wp.drew = wz at *
            have HS2 : Hid (Rl.IsSet ((q.take m ++ (f, Value.slice af f.args.length cf) :: q.drop m).map (·.1)) (l.take (k + 1))) := by
              rw [HTK.out, List.map_append, List.map_cons, List.map_take, List.map_drop]
              exact isSet_put HSET.out HNF.out (by rw [List.length_map]; exact hm) HGT.out HTOP.out
            have HQ2 : Hid (∀ p, p ∈ q.take m ++ (f, Value.slice af f.args.length cf) :: q.drop m → FvOk w p) := by
              intro p hp
              rcases List.mem_append.mp hp with hp | hp
              · exact HQO.out p (List.mem_of_mem_take hp)
              · rcases List.mem_cons.mp hp with rfl | hp
                · exact ⟨HIV.out, HFF.out⟩
                · exact HQO.out p (List.mem_of_mem_drop hp)
            have hput := hrow2.put m hmR (f, Value.slice af f.args.length cf)
            rw [HGP.out.fin hm] at hput
            have hlen2 : (q.take m ++ (f, Value.slice af f.args.length cf) :: q.drop m).length = q.length + 1 := by simp; omega
            have hb9 : Below w.heap.size w ((wz.setCell ⟨g, m * 2, none⟩ (.int .i64 f.pred)).setCell ⟨g, m * 2 + 1, none⟩ (.slice af f.args.length cf)) :=
              ⟨hbz.os, hbz.tape, hbz.output, by simpa [World.setCell] using hbz.size, fun k hk => (Below.heap_setCell _ _ _ _ (show ¬ k = g by omega)).trans ((Below.heap_setCell _ _ _ _ (show ¬ k = g by omega)).trans (hbz.block k hk))⟩
            obtain ⟨r, hr, _⟩ := get_lt (q := R) (i := m) hmR
            obtain ⟨r0, r1⟩ := hrow2.cell hr
            have rf0 := hrow2.frozen (m * 2)
            have rf1 := hrow2.frozen (m * 2 + 1)
            have d0 := cell_below hbz HP0.out.1
            have d1 := cell_below hbz HP0.out.2
            unfold FRow at hput
            rw [hlen2] at hput
            have HPUT : Hid _ := hput
            have HLN2 : Hid ((q.take m ++ (f, Value.slice af f.args.length cf) :: q.drop m).length = q.length + 1) := hlen2
            clear HTK HSET HNF HGT HGP hrow2 hr hput hlen2 HTOP
            go_wp2_with fail
            go_roundw
            case rel => exact ⟨k + 1, _, by omega, by go_num, by rw [HLN2.out]; exact HPUT.out, HS2.out, HQ2.out, hb9, by rw [HLN2.out]; omega⟩
            case measure => simp [intOf]; omega
          · obtain ⟨m1, hm1e⟩ : ∃ m1, m1 + 1 = m := ⟨m - 1, by omega⟩
            have hwr2 : IntKind.i64.wrap ((m : Int) - 1) = (m1 : Int) := by
              have h9 : (m : Int) - 1 = (m1 : Int) := by omega
              rw [h9]
              simp [IntKind.wrap, IntKind.bits, IntKind.signed]
              omega
            obtain ⟨y, hy, hym⟩ := get_lt (q := q) (i := m1) (by omega)
            obtain ⟨c0, c1⟩ := hrow.cell ((HGP.out.lo m1 (by omega)).trans hy)
            obtain ⟨ya, yc, hyv⟩ := fv_slice (HQO.out y hym)
            have HY : Hid (q[m1]? = some y ∧ y.2 = .slice ya y.1.args.length yc) := ⟨hy, hyv⟩
            rw [hyv] at c1
            have HN : Hid (∀ z, Below wp.heap.size wp z → Calls Try.prog 21 #[fcVal y.1.pred (.slice ya y.1.args.length yc), fcVal f.pred (.slice af f.args.length cf)] z fun e w' => e = .returned (.int .i64 (Rl.ord y.1 f)) ∧ Below wp.heap.size wp w' ∧ w'.cell? ⟨g, m1 * 2, none⟩ = some (.int .i64 y.1.pred) ∧ w'.cell? ⟨g, m1 * 2 + 1, none⟩ = some (.slice ya y.1.args.length yc) ∧ w'.cell? ⟨b, off + k * 2, none⟩ = some (.int .i64 f.pred) ∧ w'.cell? ⟨b, off + k * 2 + 1, none⟩ = some (.slice af f.args.length cf)) := by
              intro z hz
              have hzw := hbp.trans (hz.mono hbp.size)
              refine (OrderOf_any y.1 f _ _ z (by have h3 := intsV_below (HQO.out y hym).1 hzw; rw [hyv] at h3; exact h3) (intsV_below HIV.out hzw) (HQO.out y hym).2 HFF.out).mono ?_
              rintro e w' ⟨h1, h2⟩
              have h3 := hz.trans (h2.mono hz.size)
              exact ⟨h1, h3, cell_below h3 c0, cell_below h3 c1, cell_below h3 b0, cell_below h3 b1⟩
            clear hy hym hyv
            have hm1' : m1 < q.length + 1 := by omega
            have hm1a : (0 : Int) ≤ (m1 : Int) := by omega
            have hm1b : (m1 : Int) < ((q.length + 1 : Nat) : Int) := by omega
            have hm1c : (m1 : Int) < (q.length : Int) + 1 := by omega
            have hmpos : (0 : Int) < (m : Int) := by omega
            have HM1 : Hid (m1 + 1 = m) := hm1e
            clear hm1e
            have HGA : ∀ b o, Below wp.heap.size wp b → Below wp.heap.size wp (b.alloc o) := fun _ o h => h.alloc h.size o
            have HGD : ∀ b, Below wp.heap.size wp b → Below wp.heap.size wp b.drew := fun _ h => ⟨h.os, h.tape, h.output, h.size, h.block⟩
            have HGR : Below wp.heap.size wp wp := Below.refl _ _
            go_upto_region 8 with fail
            go_region_held3 (fun yy => yy.cell? ⟨g, m1 * 2, none⟩ = some (.int .i64 y.1.pred) ∧ yy.cell? ⟨g, m1 * 2 + 1, none⟩ = some (.slice ya y.1.args.length yc) ∧ yy.cell? ⟨b, off + k * 2, none⟩ = some (.int .i64 f.pred) ∧ yy.cell? ⟨b, off + k * 2 + 1, none⟩ = some (.slice af f.args.length cf) ∧ Below wp.heap.size wp yy) (go_keep) (
              (go_at_call 21; refine Calls.mono (HN.out _ ?_) ?_; (simp [*]); rintro e w2 ⟨rfl, hb2, hz2, hz3, hz4, hz5⟩))
            clear HGA HGD HGR HN hz4 hz5 b0 b1 c0 c1
            have hrow2 := hrow.keep (hb2.block g hrow.lt.2)
            have hbz := hbp.trans (hb2.mono hbp.size)
            clear hrow hbp hb2
            generalize w2 = wz at *
            by_cases ho : 0 < Rl.ord y.1 f
            · have HG2 : Hid (Gap q (R.set m y) m1) := by
                have h3 := HGP.out
                rw [← HM1.out] at h3 ⊢
                exact h3.step HY.out.1
              have HT2 : Hid (∀ x, x ∈ (q.map (·.1)).drop m1 → Rl.ord x f > 0) := by
                intro x hx
                have hlt9 : m1 < (q.map (·.1)).length := by rw [List.length_map]; have := HM1.out; omega
                rw [List.drop_eq_getElem_cons hlt9] at hx
                rcases List.mem_cons.mp hx with hx | hx
                · rw [hx, List.getElem_map]
                  have h4 : q[m1]'(by simpa using hlt9) = y := by
                    have h5 := HY.out.1
                    rw [List.getElem?_eq_getElem (by simpa using hlt9)] at h5
                    exact Option.some.inj h5
                  rw [h4]
                  exact ho
                · exact HGT.out x (by rw [← HM1.out]; exact hx)
              have hput := hrow2.put m hmR y
              rw [HY.out.2] at hput
              have hb9 : Below w.heap.size w ((wz.setCell ⟨g, m * 2, none⟩ (.int .i64 y.1.pred)).setCell ⟨g, m * 2 + 1, none⟩ (.slice ya y.1.args.length yc)) :=
                ⟨hbz.os, hbz.tape, hbz.output, by simpa [World.setCell] using hbz.size, fun k hk => (Below.heap_setCell _ _ _ _ (show ¬ k = g by omega)).trans ((Below.heap_setCell _ _ _ _ (show ¬ k = g by omega)).trans (hbz.block k hk))⟩
              obtain ⟨r, hr, _⟩ := get_lt (q := R) (i := m) hmR
              obtain ⟨r0, r1⟩ := hrow2.cell hr
              have rf0 := hrow2.frozen (m * 2)
              have rf1 := hrow2.frozen (m * 2 + 1)
              have hmq : m < q.length + 1 := by omega
              have HMM : Hid (m1 < m) := by have := HM1.out; show m1 < m; omega
              clear hrow2 hr hbz HGP HGT
              go_wp2_with fail
              go_roundw
              case rel => exact ⟨m1, R.set m y, by have := HM1.out; omega, by first | rfl | go_num | (simp [*]), hput, HG2.out, HT2.out, hb9⟩
              case measure => have := HMM.out; simp [intOf, *]
            · have HTOP : Hid (m = 0 ∨ ∃ x, (q.map (·.1))[m - 1]? = some x ∧ ¬ Rl.ord x f > 0) := .inr ⟨y.1, by rw [show m - 1 = m1 by have := HM1.out; omega, List.getElem?_map, HY.out.1]; rfl, ho⟩
              clear hz2 hz3
              have HS2 : Hid (Rl.IsSet ((q.take m ++ (f, Value.slice af f.args.length cf) :: q.drop m).map (·.1)) (l.take (k + 1))) := by
                rw [HTK.out, List.map_append, List.map_cons, List.map_take, List.map_drop]
                exact isSet_put HSET.out HNF.out (by rw [List.length_map]; exact hm) HGT.out HTOP.out
              have HQ2 : Hid (∀ p, p ∈ q.take m ++ (f, Value.slice af f.args.length cf) :: q.drop m → FvOk w p) := by
                intro p hp
                rcases List.mem_append.mp hp with hp | hp
                · exact HQO.out p (List.mem_of_mem_take hp)
                · rcases List.mem_cons.mp hp with rfl | hp
                  · exact ⟨HIV.out, HFF.out⟩
                  · exact HQO.out p (List.mem_of_mem_drop hp)
              have hput := hrow2.put m hmR (f, Value.slice af f.args.length cf)
              rw [HGP.out.fin hm] at hput
              have hlen2 : (q.take m ++ (f, Value.slice af f.args.length cf) :: q.drop m).length = q.length + 1 := by simp; omega
              have hb9 : Below w.heap.size w ((wz.setCell ⟨g, m * 2, none⟩ (.int .i64 f.pred)).setCell ⟨g, m * 2 + 1, none⟩ (.slice af f.args.length cf)) :=
                ⟨hbz.os, hbz.tape, hbz.output, by simpa [World.setCell] using hbz.size, fun k hk => (Below.heap_setCell _ _ _ _ (show ¬ k = g by omega)).trans ((Below.heap_setCell _ _ _ _ (show ¬ k = g by omega)).trans (hbz.block k hk))⟩
              obtain ⟨r, hr, _⟩ := get_lt (q := R) (i := m) hmR
              obtain ⟨r0, r1⟩ := hrow2.cell hr
              have rf0 := hrow2.frozen (m * 2)
              have rf1 := hrow2.frozen (m * 2 + 1)
              have d0 := cell_below hbz HP0.out.1
              have d1 := cell_below hbz HP0.out.2
              unfold FRow at hput
              rw [hlen2] at hput
              have HPUT : Hid _ := hput
              have HLN2 : Hid ((q.take m ++ (f, Value.slice af f.args.length cf) :: q.drop m).length = q.length + 1) := hlen2
              clear HTK HSET HNF HGT HGP hrow2 hr hput hlen2 HTOP
              go_wp2_with fail
              go_roundw
              case rel => exact ⟨k + 1, _, by omega, by go_num, by rw [HLN2.out]; exact HPUT.out, HS2.out, HQ2.out, hb9, by rw [HLN2.out]; omega⟩
              case measure => simp [intOf]; omega
      · have HS2 : Hid (Rl.IsSet (q.map (·.1)) (l.take (k + 1))) := by rw [HTK.out]; exact isSet_skip HSET.out (Rl.has_iff.mp hh)
        clear HTK HSET
        go_wp2_with fail
        go_roundw
        case rel => exact ⟨k + 1, q, by omega, by go_num, hown1, HS2.out, HQO.out, hbw1, by omega⟩
        case measure => simp [intOf]; omega
    · have HFS : Hid (FactsS w wo (.slice aos q.length caps) (Rl.set l)) := ⟨q, by rw [Rl.isSet_eq HSET.out, List.take_of_length_le (by omega)], hown, HQO.out⟩
      clear hown HSET HQO
      go_wp2_with fail
      go_ret
      exact ⟨_, rfl, HFS.out, hb⟩

end Go.Proofs.Ytgpaleifhcdjnaa

/- Facts that came in, put behind a row of one's own. -/
namespace Go.Proofs.Ytgpaleifhcdjnaa
open Go.RowKit

/-- Facts that can be read, with the values of their numbers' lists. -/
theorem facts_fv {w : World} {ao : Option Addr} {l : List Rl.Fc} (h : FactsAt w ao l) (hf : ∀ f, f ∈ l → FFit f) :
    ∃ q : List Fv, q.map (·.1) = l ∧ (∀ p, p ∈ q → FvOk w p) ∧ (l = [] ∨ ∃ b off, ao = some ⟨b, off, none⟩ ∧ ∀ j u, ((q.map fcCells).flatten)[j]? = some u → w.cell? ⟨b, off + j, none⟩ = some u) := by
  rcases h with rfl | ⟨b, off, rfl, hc⟩
  · exact ⟨[], rfl, fun _ hp => absurd hp (by simp), .inl rfl⟩
  · have each : ∀ i, i < l.length → ∃ v, w.cell? ⟨b, off + i * 2 + 1, none⟩ = some v ∧ IntsV w v (Rl.factD l i).args := fun i hi => (hc i hi).2
    have hch : ∃ V : Nat → Value, ∀ i, i < l.length → w.cell? ⟨b, off + i * 2 + 1, none⟩ = some (V i) ∧ IntsV w (V i) (Rl.factD l i).args := by
      refine ⟨fun i => (w.cell? ⟨b, off + i * 2 + 1, none⟩).getD (.slice none 0 0), fun i hi => ?_⟩
      obtain ⟨v, h1, h2⟩ := each i hi
      simp only [h1, Option.getD_some]
      exact ⟨trivial, h2⟩
    obtain ⟨V, hV⟩ := hch
    refine ⟨(List.range l.length).map fun i => (Rl.factD l i, V i), ?_, ?_, .inr ⟨b, off, rfl, fun j u hj => ?_⟩⟩
    · apply List.ext_getElem?
      intro i
      rw [List.getElem?_map, List.getElem?_map]
      by_cases hi : i < l.length
      · rw [List.getElem?_range hi, factD_get l i hi]
        rfl
      · rw [List.getElem?_eq_none (by simpa using hi), List.getElem?_eq_none (by simpa using hi)]
        rfl
    · intro p hp
      obtain ⟨i, hi, rfl⟩ := List.mem_map.mp hp
      have hi : i < l.length := List.mem_range.mp hi
      exact ⟨(hV i hi).2, hf _ (factD_mem l i hi)⟩
    · have hjl : j < ((List.range l.length).map fun i => (Rl.factD l i, V i)).length * 2 := by
        rcases Nat.lt_or_ge j (((List.range l.length).map fun i => (Rl.factD l i, V i)).length * 2) with h2 | h2
        · exact h2
        · rw [List.getElem?_eq_none (by rw [fc_length]; exact h2)] at hj; cases hj
      obtain ⟨x, hx, hx2⟩ := fc_at _ j hjl
      rw [hx2] at hj
      have hl2 : j / 2 < l.length := by
        have h3 : ((List.range l.length).map fun i => (Rl.factD l i, V i)).length = l.length := by simp
        rw [h3] at hjl
        omega
      rw [List.getElem?_map, List.getElem?_range hl2] at hx
      have hxe : (Rl.factD l (j / 2), V (j / 2)) = x := by simpa using hx
      subst hxe
      rcases Nat.mod_two_eq_zero_or_one j with h0 | h0
      · rw [h0] at hj
        have hu : Value.int .i64 (Rl.factD l (j / 2)).pred = u := by simpa [fcCells] using hj
        rw [← hu, ← (hc (j / 2) hl2).1]
        congr 2
        omega
      · rw [h0] at hj
        have hu : V (j / 2) = u := by simpa [fcCells] using hj
        rw [← hu, ← (hV (j / 2) hl2).1]
        congr 2
        omega

theorem factsAt_below {w w' : World} {ao : Option Addr} {l : List Rl.Fc} (h : FactsAt w ao l) (hb : Below w.heap.size w w') : FactsAt w' ao l := by
  rcases h with h | ⟨b, off, rfl, h⟩
  · exact .inl h
  · exact .inr ⟨b, off, rfl, fun i hi => factIn_below (h i hi) hb⟩
/-- What is there behind it. -/
def Appd (W : World) (q : List Fv) (l : List Rl.Fc) (v' : Value) (w' : World) (q2 : List Fv) : Prop :=
  q2.map (·.1) = l ∧ (∀ p, p ∈ q2 → FvOk W p) ∧ w'.ownsRow W.heap.size 49 2 v' (q ++ q2).length ((q ++ q2).map fcCells).flatten ∧ Below W.heap.size W w'
/-- 'append(row, facts...)': W: the world in which the facts came in. -/
theorem wp_append_facts {W w : World} {ops : Array Oper} {rest : List Oper} {o : Oper} {a : Act} {Q : Exit → Act → World → Prop} (hgd : o.guard = none) (s x : Operand)
    (ho : o.op = .call { callee := .builtin .append, args := #[s, x], argTypes := #[47, 47] }) (hW : Below W.heap.size W w) (v : Value) (n : Nat) (q : List Fv) (hs : a.eval s = v) (hn : n = q.length)
    (hown : w.ownsRow W.heap.size 49 2 v n (q.map fcCells).flatten) (ao : Option Addr) (cap : Nat) (l : List Rl.Fc) (hx : a.eval x = .slice ao l.length cap) (hcap : ao = none → cap = 0) (hA : FactsAt W ao l) (hf : ∀ f, f ∈ l → FFit f)
    (hb : n + l.length ≤ 4194304)
    (h : ∀ v' w' q2, Appd W q l v' w' q2 → wpList Try.prog ops Q rest (a.put o.dst v') w') : wpList Try.prog ops Q (o :: rest) a w := by
  obtain ⟨i0, hi, hz0, hz1, hz2⟩ := info_parts rl_info49
  obtain ⟨q2, h1, h2, h3⟩ := facts_fv hA hf
  have hl2 : q2.length = l.length := by rw [← h1, List.length_map]
  have nilCase : l = [] → ao = none → wpList Try.prog ops Q (o :: rest) a w := by
    intro hl hao
    have hq2 : q2 = [] := List.eq_nil_of_length_eq_zero (by rw [hl2, hl]; rfl)
    subst hn
    refine wpList_append_own_none hgd s x 47 ho W.heap.size 49 i0 2 Try.underlying47 hi v q.length _ hs hown (by rw [hx, hl, hao, hcap hao]; rfl) ?_
    refine h v w q2 ⟨h1, h2, ?_, hW⟩
    rw [hq2, List.append_nil]
    exact hown
  have someCase : ∀ ad, ao = some ad → (∀ j u, ((q2.map fcCells).flatten)[j]? = some u → w.cell? (ad.add j) = some u) → wpList Try.prog ops Q (o :: rest) a w := by
    intro ad hao hcells
    refine wpList_append_own w hgd s x 47 ho W.heap.size 49 i0 _ 2 32 Try.underlying47 hi hz0 hz1 hz2 rfl (by decide) v n _ hs hown ad l.length cap ((q2.map fcCells).flatten) (by rw [hx, hao]) (by rw [fc_length, hl2]) hcells ?_ (by unfold maxLen; omega) (by omega) hW.size ?_
    · intro u hu
      obtain ⟨c, hc, hu⟩ := List.mem_flatten.mp hu
      obtain ⟨p, hp, rfl⟩ := List.mem_map.mp hc
      obtain ⟨a9, c9, hp9⟩ := fv_slice (h2 p hp)
      simp [fcCells, hp9] at hu
      rcases hu with rfl | rfl <;> rfl
    · intro v' w' ho2 hg _
      refine h v' w' q2 ⟨h1, h2, ?_, hW.grown hg hW.size (fun k hk => (hown.lt k hk).1)⟩
      rw [List.length_append, List.map_append, List.flatten_append, hl2, ← hn]
      exact ho2
  cases ao with
  | none =>
    rcases hA with hl | ⟨b, off, hb2, _⟩
    · exact nilCase hl rfl
    · cases hb2
  | some ad =>
    refine someCase ad rfl ?_
    intro j u hj
    rcases h3 with hl | ⟨b, off, hb2, hc⟩
    · have hq2 : q2 = [] := List.eq_nil_of_length_eq_zero (by rw [hl2, hl]; rfl)
      rw [hq2] at hj
      simp at hj
    · rw [Option.some.inj hb2, Addr.add_lit]
      exact cell_below hW (hc j u hj)

set_option maxRecDepth 100000 in
set_option maxHeartbeats 1000000 in
theorem UnionOf_any (l m : List Rl.Fc) (v u : Value) (w : World) (hV : FactsV w v l) (hU : FactsV w u m) (hl : l.length ≤ 1048576) (hm : m.length ≤ 1048576) (hf : ∀ f, f ∈ l → FFit f) (hg : ∀ f, f ∈ m → FFit f) :
    Calls Try.prog 28 #[v, u] w fun e w' => ∃ v', e = .returned v' ∧ FactsV w' v' (Rl.union l m) ∧ Below w.heap.size w w' := by
  obtain ⟨ao, cap, rfl, hc1, hA⟩ := hV
  obtain ⟨bo, cbp, rfl, hc2, hB⟩ := hU
  have HA : Hid (FactsAt w ao l ∧ (ao = none → cap = 0)) := ⟨hA, hc1.2⟩
  have HB : Hid (FactsAt w bo m ∧ (bo = none → cbp = 0)) := ⟨hB, hc2.2⟩
  have HF : Hid ((∀ f, f ∈ l → FFit f) ∧ ∀ f, f ∈ m → FFit f) := ⟨hf, hg⟩
  clear hA hB hc1 hc2 hf hg
  have hba : Below w.heap.size w (w.alloc (.cells #[] 49)) := (Below.refl _ _).alloc (Nat.le_refl _) _
  go_enter Try.func28, Try.ntmps28
  go_wp2_with (at_builtin; refine wp_append_facts rfl (.tmp 5) (.tmp 6) rfl hba _ 0 [] rfl rfl (World.ownsRow_made w #[] 0 (Nat.le_refl _) (Nat.zero_le _) (by simp)) ao cap l rfl HA.out.2 HA.out.1 HF.out.1 ?c1 ?_)
  case c1 => omega
  intro v1 w1 q1 H1
  obtain ⟨e1, o1, hown1, hb1⟩ := id H1
  obtain ⟨a1, c1, rfl⟩ := own_slice hown1
  have HL1 : Hid (q1.length = l.length) := by show _ = _; rw [← e1, List.length_map]
  have hown1 : w1.ownsRow w.heap.size 49 2 (.slice a1 q1.length c1) q1.length (q1.map fcCells).flatten := hown1
  have H1 : Hid (Appd w [] l (.slice a1 q1.length c1) w1 q1) := H1
  clear e1 o1
  go_wp2_with (at_builtin; refine wp_append_facts rfl (.tmp 7) (.tmp 8) rfl hb1 _ q1.length q1 rfl rfl hown1 bo cbp m rfl HB.out.2 HB.out.1 HF.out.2 ?c1 ?_)
  case c1 => have := HL1.out; omega
  intro v2 w2 q2 H2
  obtain ⟨e2, o2, hown2, hb2⟩ := id H2
  have HFV : Hid (FactsV w2 v2 (l ++ m) ∧ (l ++ m).length ≤ 2097152 ∧ ∀ f, f ∈ l ++ m → FFit f) := by
    refine ⟨?_, by rw [List.length_append]; omega, fun f hf => ?_⟩
    · have h3 := own_factsV hown2 (fun p hp => by
        rcases List.mem_append.mp hp with hp | hp
        · exact H1.out.2.1 p hp
        · exact o2 p hp) hb2
      rw [List.map_append, H1.out.1, e2] at h3
      exact h3
    · rcases List.mem_append.mp hf with hf | hf
      · exact HF.out.1 f hf
      · exact HF.out.2 f hf
  obtain ⟨a2, c2, rfl⟩ := own_slice hown2
  have HFV : Hid (FactsV w2 (.slice a2 (q1.length + q2.length) c2) (l ++ m) ∧ (l ++ m).length ≤ 2097152 ∧ ∀ f, f ∈ l ++ m → FFit f) := by
    have h9 := HFV.out
    rw [show (q1 ++ q2).length = q1.length + q2.length from List.length_append] at h9
    exact h9
  clear e2 o2 hown2 hown1 H1 H2 HA HB hba
  go_wp2_with fail
  refine Calls.mono (SetOf_any (l ++ m) _ _ HFV.out.1 HFV.out.2.1 HFV.out.2.2) ?_
  rintro e w3 ⟨v3, rfl, hS, hb3⟩
  obtain ⟨q3, _, hown3, _⟩ := id hS
  obtain ⟨a3, c3, rfl⟩ := own_slice hown3
  have HS : Hid (FactsV w3 (.slice a3 q3.length c3) (Rl.union l m)) := hS.toV hb3
  have hb4 := hb2.trans (hb3.mono hb2.size)
  clear hown3 hS hb3 HFV
  go_wp2_with fail
  go_ret
  exact ⟨_, rfl, HS.out, hb4⟩

end Go.Proofs.Ytgpaleifhcdjnaa

/- The library's Grow and Concat, of facts; package relation: Union. -/
namespace Go.Proofs.Ytgpaleifhcdjnaa
open Go.RowKit

set_option maxRecDepth 100000 in
set_option maxHeartbeats 1000000 in
theorem grow_any (w : World) (n : Nat) (hn : n ≤ 4194304) :
    Calls Try.prog 72 #[.slice none 0 0, .int .i64 n] w fun e w' => ∃ v', e = .returned v' ∧ w'.ownsRow w.heap.size 49 2 v' 0 [] ∧ Below w.heap.size w w' := by
  obtain ⟨i0, hi, hz0, hz1, hz2⟩ := info_parts rl_info49
  by_cases h0 : n = 0
  · subst h0
    go_enter Try.func72, Try.ntmps72
    go_wp2_with fail
    go_ret
    exact ⟨_, rfl, World.ownsRow_nil _ _ _ _, Below.refl _ _⟩
  · have hp : 0 < n := by omega
    have HR : Hid _ := Lib.run_append_nil_zeros w 47 3 47 49 i0 _ .i64 .i64 Try.underlying47 Try.underlying3 hi hz0 n hp (by rw [hz1]; decide) (by omega) (by rw [hz2]; omega)
    go_enter Try.func72, Try.ntmps72
    go_wp2_with (at_builtin; refine Lib.wpList_append_run _ rfl _ _ 47 3 rfl _ _ rfl rfl _ _ HR.out ?_)
    have HO : Hid (∀ cur : Array Value, cur.size = grownCap w n 0 49 * 2 → (w.alloc (.cells cur 49)).drew.ownsRow w.heap.size 49 2 (.slice (some ⟨w.heap.size, 0, none⟩) 0 (grownCap w n 0 49)) 0 [] ∧ Below w.heap.size w (w.alloc (.cells cur 49)).drew) := by
      intro cur hc
      have h1 := World.ownsRow_made (base := w.heap.size) (e := 49) (size := 2) w cur (grownCap w n 0 49) (Nat.le_refl _) (grownCap_le_maxLen _ _ _ _ (by unfold maxLen; omega)) hc
      have h2 : Below w.heap.size w (w.alloc (.cells cur 49)) := (Below.refl _ _).alloc (Nat.le_refl _) _
      exact ⟨h1, h2.os, h2.tape, h2.output, h2.size, h2.block⟩
    have hge := grownCap_ge w n 0 49
    go_ret
    refine ⟨_, rfl, HO.out _ ?_⟩
    simp [Builtin.zeroCells]
    omega

set_option maxRecDepth 100000 in
set_option maxHeartbeats 2000000 in
theorem concat_any (l m : List Rl.Fc) (b : Nat) (ao bo : Option Addr) (cap cbp : Nat) (w : World) (hA : FactsAt w ao l ∧ (ao = none → cap = 0)) (hB : FactsAt w bo m ∧ (bo = none → cbp = 0)) (hb0 : w.cell? ⟨b, 0, none⟩ = some (.slice ao l.length cap)) (hb1 : w.cell? ⟨b, 1, none⟩ = some (.slice bo m.length cbp)) (hl : l.length ≤ 1048576) (hm : m.length ≤ 1048576) (hf : ∀ f, f ∈ l → FFit f) (hg : ∀ f, f ∈ m → FFit f) :
    Calls Try.prog 53 #[.slice (some ⟨b, 0, none⟩) 2 2] w fun e w' => ∃ v', e = .returned v' ∧ FactsV w' v' (l ++ m) ∧ Below w.heap.size w w' := by
  have HA : Hid (FactsAt w ao l ∧ (ao = none → cap = 0)) := hA
  have HB : Hid (FactsAt w bo m ∧ (bo = none → cbp = 0)) := hB
  have HF : Hid ((∀ f, f ∈ l → FFit f) ∧ ∀ f, f ∈ m → FFit f) := ⟨hf, hg⟩
  clear hA hB hf hg
  go_enter Try.func53, Try.ntmps53
  go_wp2_with fail
  go_loopw [3, 11] (fun sz i wr => w = wr ∧ ((i = .int .i64 (0 : Nat) ∧ sz = .int .i64 0) ∨ (i = .int .i64 (1 : Nat) ∧ sz = .int .i64 (l.length : Nat)) ∨ (i = .int .i64 (2 : Nat) ∧ sz = .int .i64 ((l.length + m.length : Nat) : Int)))) (fun _ i _ => 2 - (intOf i).toNat)
  case atStart => exact ⟨rfl, .inl ⟨rfl, rfl⟩⟩
  case round =>
    obtain ⟨rfl, ⟨rfl, rfl⟩ | ⟨rfl, rfl⟩ | ⟨rfl, rfl⟩⟩ := hrel
    · go_wp2_with fail
      go_roundw
      case rel => exact ⟨by trivial, .inr (.inl ⟨by first | rfl | go_num, by first | rfl | go_num | simp⟩)⟩
      case measure => simp [intOf]
    · go_wp2_with fail
      go_roundw
      case rel => exact ⟨by trivial, .inr (.inr ⟨by first | rfl | go_num, by first | rfl | go_num | simp⟩)⟩
      case measure => simp [intOf]
    · go_wp2_with fail
      refine Calls.mono (grow_any _ (l.length + m.length) (by omega)) ?_
      rintro e w1 ⟨v1, rfl, hown1, hbw1⟩
      obtain ⟨a1, c1, rfl⟩ := own_slice hown1
      have d0 := cell_below hbw1 hb0
      have d1 := cell_below hbw1 hb1
      go_wp2_with fail
      clear d0 d1
      go_loopw [6, 27] (fun ns i wr => (i = .int .i64 (0 : Nat) ∧ wr.ownsRow w.heap.size 49 2 ns 0 [] ∧ Below w.heap.size w wr) ∨ (i = .int .i64 (1 : Nat) ∧ ∃ q1, Appd w [] l ns wr q1) ∨ (i = .int .i64 (2 : Nat) ∧ ∃ q1 q2, q1.map (·.1) = l ∧ (∀ p, p ∈ q1 → FvOk w p) ∧ Appd w q1 m ns wr q2)) (fun _ i _ => 2 - (intOf i).toNat)
      case atStart => exact .inl ⟨rfl, hown1, hbw1⟩
      case round =>
        rcases hrel with ⟨rfl, hown, hbw⟩ | ⟨rfl, q1, H1⟩ | ⟨rfl, q1, q2, e1, o1, H2⟩
        · have d0 := cell_below hbw hb0
          have d1 := cell_below hbw hb1
          obtain ⟨a2, c2, rfl⟩ := own_slice hown
          go_wp2_with (at_builtin; refine wp_append_facts rfl (.tmp 31) (.tmp 32) rfl hbw _ 0 [] rfl rfl hown ao cap l rfl HA.out.2 HA.out.1 HF.out.1 ?c1 ?_)
          case c1 => omega
          intro v2 w2 q2 H2
          obtain ⟨a3, c3, rfl⟩ := own_slice H2.2.2.1
          have H2 : Hid (Appd w [] l _ w2 q2) := H2
          go_wp2_with fail
          go_roundw
          case rel => exact .inr (.inl ⟨by first | rfl | go_num, q2, H2.out⟩)
          case measure => simp [intOf]
        · obtain ⟨e1, o1, hown, hbw⟩ := H1
          have hown : wr.ownsRow w.heap.size 49 2 _ q1.length (q1.map fcCells).flatten := hown
          have d0 := cell_below hbw hb0
          have d1 := cell_below hbw hb1
          obtain ⟨a2, c2, rfl⟩ := own_slice hown
          have HL1 : Hid (q1.length = l.length) := by show _ = _; rw [← e1, List.length_map]
          have HE : Hid (q1.map (·.1) = l ∧ (∀ p, p ∈ q1 → FvOk w p)) := ⟨e1, o1⟩
          clear e1 o1
          go_wp2_with (at_builtin; refine wp_append_facts rfl (.tmp 31) (.tmp 32) rfl hbw _ q1.length q1 rfl rfl hown bo cbp m rfl HB.out.2 HB.out.1 HF.out.2 ?c1 ?_)
          case c1 => have := HL1.out; omega
          intro v2 w2 q2 H2
          obtain ⟨a3, c3, rfl⟩ := own_slice H2.2.2.1
          have H2 : Hid (Appd w q1 m _ w2 q2) := H2
          go_wp2_with fail
          go_roundw
          case rel => exact .inr (.inr ⟨by first | rfl | go_num, q1, q2, HE.out.1, HE.out.2, H2.out⟩)
          case measure => simp [intOf]
        · obtain ⟨e2, o2, hown2, hb2⟩ := H2
          have HFV : Hid (FactsV wr u6 (l ++ m)) := by
            have h3 := own_factsV hown2 (fun p hp => by
              rcases List.mem_append.mp hp with hp | hp
              · exact o1 p hp
              · exact o2 p hp) hb2
            rw [List.map_append, e1, e2] at h3
            exact h3
          obtain ⟨a2, c2, rfl⟩ := own_slice hown2
          clear e1 e2 o1 o2 hown2
          go_wp2_with fail
          go_ret
          exact ⟨_, rfl, HFV.out, hb2⟩

theorem cat_cell (w : World) (C : Array Value) (t : TypeId) (j : Nat) : (w.alloc (.cells C t)).cell? ⟨w.heap.size, j, none⟩ = C[j]? := World.cell?_alloc_mark w C t _ j

set_option maxRecDepth 100000 in
set_option maxHeartbeats 1000000 in
theorem Union_any (l m : List Rl.Fc) (v u : Value) (w : World) (hV : FactsV w v l) (hU : FactsV w u m) (hl : l.length ≤ 1048576) (hm : m.length ≤ 1048576) (hf : ∀ f, f ∈ l → f.args.length ≤ 1048576) (hg : ∀ f, f ∈ m → f.args.length ≤ 1048576) :
    Calls Try.prog 27 #[v, u] w fun e w' => ∃ v', e = .returned v' ∧ FactsV w' v' (Rl.union l m) ∧ Below w.heap.size w w' := by
  obtain ⟨ao, cap, rfl, hc1, hA⟩ := hV
  obtain ⟨bo, cbp, rfl, hc2, hB⟩ := hU
  have HA : Hid (FactsAt w ao l ∧ (ao = none → cap = 0)) := ⟨hA, hc1.2⟩
  have HB : Hid (FactsAt w bo m ∧ (bo = none → cbp = 0)) := ⟨hB, hc2.2⟩
  have HF : Hid ((∀ f, f ∈ l → FFit f) ∧ ∀ f, f ∈ m → FFit f) := ⟨fun f h => Nat.le_trans (hf f h) (by decide), fun f h => Nat.le_trans (hg f h) (by decide)⟩
  have HL : Hid ((l ++ m).length ≤ 2097152 ∧ ∀ f, f ∈ l ++ m → f.args.length ≤ 1048576) := by
    refine ⟨by rw [List.length_append]; omega, fun f h => ?_⟩
    rcases List.mem_append.mp h with h | h
    · exact hf f h
    · exact hg f h
  clear hA hB hc1 hc2 hf hg
  go_enter Try.func27, Try.ntmps27
  go_wp2_with fail
  have hba : Below w.heap.size w (w.alloc (Obj.cells #[Value.slice ao l.length cap, Value.slice bo m.length cbp] 47)) := (Below.refl _ _).alloc (Nat.le_refl _) _
  refine Calls.mono (concat_any l m w.heap.size ao bo cap cbp _ ⟨factsAt_below HA.out.1 hba, HA.out.2⟩ ⟨factsAt_below HB.out.1 hba, HB.out.2⟩ (cat_cell w _ 47 0) (cat_cell w _ 47 1) hl hm HF.out.1 HF.out.2) ?_
  rintro e w1 ⟨v1, rfl, hV1, hb1⟩
  have hb1 := hba.trans (hb1.mono (by have := hba.size; omega))
  clear hba HA HB
  obtain ⟨a1, c1, rfl, hc1, hA1⟩ := id hV1
  have HV : Hid (FactsV w1 (.slice a1 (l ++ m).length c1) (l ++ m)) := hV1
  rw [List.length_append] at HV
  clear hV1 hc1 hA1 HF
  go_wp2_with fail
  refine Calls.mono (Set_any (l ++ m) _ _ HV.out HL.out.1 HL.out.2) ?_
  rintro e w3 ⟨v3, rfl, hS, hb3⟩
  have HS : Hid (FactsV w3 v3 (Rl.union l m)) := hS.toV
  obtain ⟨q3, _, hown3, _⟩ := id hS
  obtain ⟨a3, c3, rfl⟩ := own_slice hown3
  have hb4 := hb1.trans (hb3.mono hb1.size)
  clear hown3 hS hb3 HL HV
  go_wp2_with fail
  go_ret
  exact ⟨_, rfl, HS.out, hb4⟩

end Go.Proofs.Ytgpaleifhcdjnaa

/- Package relation: Match. -/
namespace Go.Proofs.Ytgpaleifhcdjnaa
open Go.RowKit

def Rl.boolD (l : List Bool) (i : Nat) : Bool := l.getD i false
def BoolsAt (w : World) (ao : Option Addr) (l : List Bool) : Prop :=
  l = [] ∨ ∃ b off, ao = some ⟨b, off, none⟩ ∧ ∀ i, i < l.length → w.cell? ⟨b, off + i, none⟩ = some (.bool (Rl.boolD l i))
def BoolsV (w : World) (v : Value) (l : List Bool) : Prop := ∃ ao cap, v = .slice ao l.length cap ∧ (l.length ≤ cap ∧ (ao = none → cap = 0)) ∧ BoolsAt w ao l
theorem boolsAt_below {w w' : World} {ao : Option Addr} {l : List Bool} (h : BoolsAt w ao l) (hb : Below w.heap.size w w') : BoolsAt w' ao l := by
  rcases h with h | ⟨b, off, rfl, h⟩
  · exact .inl h
  · exact .inr ⟨b, off, rfl, fun i hi => cell_below hb (h i hi)⟩
theorem intsAt_below9 {w w' : World} {ao : Option Addr} {l : List Int} (h : IntsAt w ao l) (hb : Below w.heap.size w w') : IntsAt w' ao l := by
  obtain ⟨_, _, he, h⟩ := intsV_below (⟨ao, 0, rfl, h⟩ : IntsV w (.slice ao l.length 0) l) hb
  injection he with he
  rw [he]
  exact h
theorem intsV_at {w : World} {ao : Option Addr} {n cap : Nat} {l : List Int} (h : IntsV w (.slice ao n cap) l) : IntsAt w ao l := by
  obtain ⟨_, _, he, h⟩ := h
  injection he with he
  rw [he]
  exact h
theorem bools_at {w : World} {ao : Option Addr} {l : List Bool} (h : BoolsAt w ao l) (i : Nat) (hi : i < l.length) : ∃ b off, ao = some ⟨b, off, none⟩ ∧ w.cell? ⟨b, off + i, none⟩ = some (.bool (Rl.boolD l i)) := by
  rcases h with rfl | ⟨b, off, rfl, h⟩
  · exact absurd hi (Nat.not_lt_zero _)
  · exact ⟨b, off, rfl, h i hi⟩
theorem boolsAt_take {w : World} {ao : Option Addr} {l : List Bool} (h : BoolsAt w ao l) (n : Nat) : BoolsAt w ao (l.take n) := by
  rcases h with rfl | ⟨b, off, rfl, h⟩
  · exact .inl (by simp)
  · refine .inr ⟨b, off, rfl, fun i hi => ?_⟩
    rw [List.length_take] at hi
    rw [h i (by omega)]
    simp [Rl.boolD, List.getD_eq_getElem?_getD, show i < n by omega]
theorem agree_drop (x y : List Int) (z : List Bool) (k : Nat) (hx : k < x.length) (hy : k < y.length) (hz : k < z.length) : Rl.agree (x.drop k) (y.drop k) (z.drop k) = ((!Rl.boolD z k || Sc.intD x k == Sc.intD y k) && Rl.agree (x.drop (k + 1)) (y.drop (k + 1)) (z.drop (k + 1))) := by
  have h1 : x.drop k = Sc.intD x k :: x.drop (k + 1) := by rw [List.drop_eq_getElem_cons hx]; simp [Sc.intD, List.getD_eq_getElem?_getD, hx]
  have h2 : y.drop k = Sc.intD y k :: y.drop (k + 1) := by rw [List.drop_eq_getElem_cons hy]; simp [Sc.intD, List.getD_eq_getElem?_getD, hy]
  have h3 : z.drop k = Rl.boolD z k :: z.drop (k + 1) := by rw [List.drop_eq_getElem_cons hz]; simp [Rl.boolD, List.getD_eq_getElem?_getD, hz]
  rw [h1, h2, h3]
  rfl
theorem agree_nil (x y : List Int) : Rl.agree x y [] = true := by cases x <;> cases y <;> rfl
theorem agree_take (x y : List Int) (z : List Bool) (n : Nat) (h : y.length ≤ n) : Rl.agree x y (z.take n) = Rl.agree x y z := by
  induction y generalizing x z n with
  | nil => cases x <;> simp [Rl.agree]
  | cons b y ih =>
    cases x with
    | nil => simp [Rl.agree]
    | cons a x =>
      cases z with
      | nil => simp
      | cons c z =>
        cases n with
        | zero => simp at h
        | succ n =>
          simp only [List.take_succ_cons, Rl.agree]
          rw [ih x z n (by simpa using h)]

set_option maxRecDepth 100000 in
set_option maxHeartbeats 1000000 in
theorem agree_any (x y : List Int) (z : List Bool) (ao bo zo : Option Addr) (cap cbp czp : Nat) (w : World) (hA : IntsAt w ao x) (hB : IntsAt w bo y) (hZ : BoolsAt w zo z) (hx : z.length ≤ x.length) (hy : z.length ≤ y.length) (hlx : x.length ≤ 9223372036854775807) :
    Calls Try.prog 57 #[.slice ao x.length cap, .slice bo y.length cbp, .slice zo z.length czp] w fun e w' => e = .returned (.bool (Rl.agree x y z)) ∧ Below w.heap.size w w' := by
  have HA : Hid (IntsAt w ao x) := hA
  have HB : Hid (IntsAt w bo y) := hB
  have HZ : Hid (BoolsAt w zo z) := hZ
  clear hA hB hZ
  go_enter Try.func57, Try.ntmps57
  go_wp2_with fail
  go_loopw [11] (fun i wr => ∃ k : Nat, k ≤ z.length ∧ i = .int .i64 k ∧ Rl.agree (x.drop k) (y.drop k) (z.drop k) = Rl.agree x y z ∧ Below w.heap.size w wr) (fun i _ => z.length - (intOf i).toNat)
  case atStart => exact ⟨0, Nat.zero_le _, rfl, rfl, Below.refl _ _⟩
  case round =>
    obtain ⟨wo, hwo⟩ : ∃ wo, wo = wr := ⟨_, rfl⟩
    subst hwo
    obtain ⟨k, hk, rfl, hq, hb⟩ := hrel
    have HQ : Hid _ := hq
    clear hq
    by_cases hlt : k < z.length
    · obtain ⟨b1, off1, rfl, p1⟩ := ints_at HA.out k (by omega)
      obtain ⟨b2, off2, rfl, p2⟩ := ints_at HB.out k (by omega)
      obtain ⟨b3, off3, rfl, p3⟩ := bools_at HZ.out k hlt
      have a1 := cell_below hb p1
      have a2 := cell_below hb p2
      have a3 := cell_below hb p3
      have HD : Hid (Rl.agree x y z = ((!Rl.boolD z k || Sc.intD x k == Sc.intD y k) && Rl.agree (x.drop (k + 1)) (y.drop (k + 1)) (z.drop (k + 1)))) := by show _ = _; rw [← HQ.out]; exact agree_drop x y z k (by omega) (by omega) hlt
      clear p1 p2 p3
      have hx1 : k < x.length := by omega
      have hy1 : k < y.length := by omega
      have hbd : Below w.heap.size w wo.drew := ⟨hb.os, hb.tape, hb.output, hb.size, hb.block⟩
      generalize Sc.intD x k = a at *
      generalize Sc.intD y k = b' at *
      generalize Rl.boolD z k = c at *
      cases c
      · rw [Bool.not_false, Bool.true_or, Bool.true_and] at HD
        go_upto_region 4 with fail
        go_region
        go_wp2_with fail
        go_roundw
        case rel => exact ⟨k + 1, hlt, by go_num, HD.out.symm, hbd⟩
        case measure => simp [intOf]; omega
      · rw [Bool.not_true, Bool.false_or] at HD
        go_upto_region 4 with fail
        go_region
        by_cases hab : a = b'
        · have HE : Hid (Rl.agree x y z = Rl.agree (x.drop (k + 1)) (y.drop (k + 1)) (z.drop (k + 1))) := by show _ = _; rw [HD.out, hab]; simp
          go_wp2_with fail
          go_roundw
          case rel => exact ⟨k + 1, hlt, by go_num, HE.out.symm, hbd⟩
          case measure => simp [intOf]; omega
        · have HE : Hid (Rl.agree x y z = false) := by show _ = _; rw [HD.out]; simp [hab]
          go_wp2_with fail
          go_ret
          exact ⟨by rw [HE.out]; rfl, hbd⟩
    · have HE : Hid (Rl.agree x y z = true) := by show _ = _; rw [← HQ.out, show z.drop k = [] from List.drop_of_length_le (by omega), agree_nil]
      have hk : k = z.length := by omega
      subst hk
      go_wp2_with fail
      go_ret
      exact ⟨by rw [HE.out]; rfl, hb⟩

set_option maxRecDepth 100000 in
set_option maxHeartbeats 1000000 in
theorem match1_any (w : World) (B : Nat) (p : Int) (y : List Int) (z : List Bool) (bo zo : Option Addr) (cbp czp : Nat) (h0 : w.cell? ⟨B, 0, none⟩ = some (.int .i64 p)) (h1 : w.cell? ⟨B + 1, 0, none⟩ = some (.slice bo y.length cbp)) (h2 : w.cell? ⟨B + 2, 0, none⟩ = some (.slice zo z.length czp)) (hB : IntsAt w bo y) (hZ : BoolsAt w zo z) (hy : z.length ≤ y.length) :
    Keeps1 56 #[.pointer (some ⟨B, 0, none⟩), .pointer (some ⟨B + 1, 0, none⟩), .pointer (some ⟨B + 2, 0, none⟩)] w (Rl.fits p y z) := by
  intro v g ao cap hv hIg hFg
  show Calls Try.prog 56 #[fcVal g.pred (.slice ao g.args.length cap), .pointer (some ⟨B, 0, none⟩), .pointer (some ⟨B + 1, 0, none⟩), .pointer (some ⟨B + 2, 0, none⟩)] v _
  obtain ⟨q, x⟩ := g
  have hba : Below v.heap.size v (v.alloc (.cells #[.int .i64 q, .slice ao x.length cap] 49)) := (Below.refl _ _).alloc (Nat.le_refl _) _
  have c0 := cell_below hba (cell_below hv h0)
  have c1 := cell_below hba (cell_below hv h1)
  have c2 := cell_below hba (cell_below hv h2)
  have hGa := rl_new v (.cells #[.int .i64 q, .slice ao x.length cap] 49)
  have d0 : (v.alloc (.cells #[.int .i64 q, .slice ao x.length cap] 49)).cell? ⟨v.heap.size, 0, none⟩ = some (.int .i64 q) := by rw [Lib.cell_of_heap hGa]; rfl
  have d1 : (v.alloc (.cells #[.int .i64 q, .slice ao x.length cap] 49)).cell? ⟨v.heap.size, 1, none⟩ = some (.slice ao x.length cap) := by rw [Lib.cell_of_heap hGa]; rfl
  have hFg : x.length ≤ 9223372036854775807 := hFg
  have HI : Hid (IntsAt (v.alloc (.cells #[.int .i64 q, .slice ao x.length cap] 49)) ao x ∧ IntsAt (v.alloc (.cells #[.int .i64 q, .slice ao x.length cap] 49)) bo y ∧ BoolsAt (v.alloc (.cells #[.int .i64 q, .slice ao x.length cap] 49)) zo z) := ⟨intsAt_below9 (intsV_at hIg) hba, intsAt_below9 (intsAt_below9 hB hv) hba, boolsAt_below (boolsAt_below hZ hv) hba⟩
  clear h0 h1 h2 hIg hB hZ hv hGa
  by_cases hqp : q = p
  · subst hqp
    by_cases hxy : x.length = y.length
    · have HC : Hid _ := agree_any x y z ao bo zo cap cbp czp _ HI.out.1 HI.out.2.1 HI.out.2.2 (by omega) hy hFg
      have HR : Hid (Rl.fits q y z ⟨q, x⟩ = Rl.agree x y z) := by show _ = _; simp [Rl.fits, hxy]
      have hxc : ((x.length : Int) == (y.length : Int)) = true := by simp [hxy]
      clear HI hxy
      go_enter Try.func56, Try.ntmps56
      go_wp2_with fail
      refine Calls.mono HC.out ?_
      rintro e w1 ⟨rfl, hb1⟩
      have hb := hba.trans (hb1.mono hba.size)
      clear hb1 hba c0 c1 c2 d0 d1 HC
      go_wp2_with fail
      go_ret
      exact ⟨by rw [HR.out]; rfl, hb⟩
    · have HR : Hid (Rl.fits q y z ⟨q, x⟩ = false) := by show _ = _; simp [Rl.fits, hxy]
      have hxc : ((x.length : Int) == (y.length : Int)) = false := by simp; omega
      clear HI
      go_enter Try.func56, Try.ntmps56
      go_wp2_with fail
      go_ret
      exact ⟨by rw [HR.out]; rfl, hba⟩
  · have HR : Hid (Rl.fits p y z ⟨q, x⟩ = false) := by show _ = _; simp [Rl.fits, hqp]
    clear HI
    go_enter Try.func56, Try.ntmps56
    go_wp2_with fail
    go_ret
    exact ⟨by rw [HR.out]; rfl, hba⟩
theorem rl_enters56 : ∀ args w, (callFunc 56 args).run Try.prog w = .ok (.enter 56 args) w := enters_of Try.func56 (by kernel_rfl) rfl

theorem three_new (w : World) (a b c : Obj) : (((w.alloc a).alloc b).alloc c).heap[w.heap.size]? = some a ∧ (((w.alloc a).alloc b).alloc c).heap[w.heap.size + 1]? = some b ∧ (((w.alloc a).alloc b).alloc c).heap[w.heap.size + 2]? = some c := by
  show (((w.heap.push a).push b).push c)[w.heap.size]? = some a ∧ (((w.heap.push a).push b).push c)[w.heap.size + 1]? = some b ∧ (((w.heap.push a).push b).push c)[w.heap.size + 2]? = some c
  refine ⟨?_, ?_, ?_⟩
  · rw [Array.getElem?_push, if_neg (by simp; omega), Array.getElem?_push, if_neg (by simp), Array.getElem?_push, if_pos rfl]
  · rw [Array.getElem?_push, if_neg (by simp), Array.getElem?_push, if_pos (by simp)]
  · rw [Array.getElem?_push, if_pos (by simp)]

set_option maxRecDepth 100000 in
set_option maxHeartbeats 1000000 in
theorem Match_any (l : List Rl.Fc) (p : Int) (y : List Int) (z : List Bool) (v u t : Value) (w : World) (hV : FactsV w v l) (hU : IntsV w u y) (hT : BoolsV w t z) (hl : l.length ≤ 1048576) (hf : ∀ f, f ∈ l → f.args.length ≤ 1048576) (hy : y.length ≤ 1048576) (hz : z.length ≤ 1048576) :
    Calls Try.prog 31 #[v, .int .i64 p, u, t] w fun e w' => ∃ v', e = .returned v' ∧ FactsV w' v' (Rl.matchL l p y z) ∧ Below w.heap.size w w' := by
  have hmf : ∀ (fn : Fn) (first cap : Array Value) (w : World), (Instr.makeFunc fn first cap).run Try.prog w = .ok (.func fn first cap) w := fun _ _ _ _ => rfl
  obtain ⟨ao, cap, rfl, hc1, hA⟩ := id hV
  obtain ⟨bo, cbp, rfl, hB⟩ := hU
  obtain ⟨zo, czp, rfl, hc3, hZ⟩ := hT
  have HV : Hid (FactsV w (.slice ao l.length cap) l) := hV
  have HB : Hid (IntsAt w bo y) := hB
  have HZ : Hid (BoolsAt w zo z) := hZ
  obtain ⟨hc3, hc4⟩ := hc3
  clear hV hB hZ hc1 hA
  go_enter Try.func31, Try.ntmps31
  go_wp2_with fail
  have hn : (min (z.length : Int) (y.length : Int)).toNat = (z.take y.length).length := by rw [List.length_take]; omega
  rw [hn]
  have hb1 : Below w.heap.size w (w.alloc (Obj.cells #[Value.int IntKind.i64 p] 3)) := (Below.refl _ _).alloc (Nat.le_refl _) _
  have hb2 := hb1.alloc hb1.size (Obj.cells #[Value.slice bo y.length cbp] 22)
  have hb3 := hb2.alloc hb2.size (Obj.cells #[Value.slice zo (z.take y.length).length czp] 30)
  have e0 : (((w.alloc (Obj.cells #[Value.int IntKind.i64 p] 3)).alloc (Obj.cells #[Value.slice bo y.length cbp] 22)).alloc (Obj.cells #[Value.slice zo (z.take y.length).length czp] 30)).cell? ⟨w.heap.size, 0, none⟩ = some (.int .i64 p) := by rw [Lib.cell_of_heap (three_new w _ _ _).1]; rfl
  have e1 : (((w.alloc (Obj.cells #[Value.int IntKind.i64 p] 3)).alloc (Obj.cells #[Value.slice bo y.length cbp] 22)).alloc (Obj.cells #[Value.slice zo (z.take y.length).length czp] 30)).cell? ⟨w.heap.size + 1, 0, none⟩ = some (.slice bo y.length cbp) := by rw [Lib.cell_of_heap (three_new w _ _ _).2.1]; rfl
  have e2 : (((w.alloc (Obj.cells #[Value.int IntKind.i64 p] 3)).alloc (Obj.cells #[Value.slice bo y.length cbp] 22)).alloc (Obj.cells #[Value.slice zo (z.take y.length).length czp] 30)).cell? ⟨w.heap.size + 2, 0, none⟩ = some (.slice zo (z.take y.length).length czp) := by rw [Lib.cell_of_heap (three_new w _ _ _).2.2]; rfl
  refine Calls.mono (keep_any l _ _ 56 _ (Rl.fits p y (z.take y.length)) (factsV_below HV.out hb3) (by omega) hf rl_enters56 (match1_any _ w.heap.size p y (z.take y.length) bo zo cbp czp e0 e1 e2 (intsAt_below9 HB.out hb3) (boolsAt_take (boolsAt_below HZ.out hb3) _) (by rw [List.length_take]; omega))) ?_
  rintro e w3 ⟨v3, rfl, hS, hbk⟩
  have HS : Hid (FactsV w3 v3 (Rl.matchL l p y z)) := by
    have h := hS.toV
    rw [show Rl.fits p y (z.take y.length) = Rl.fits p y z from funext fun f => by unfold Rl.fits; rw [agree_take _ _ _ _ (Nat.le_refl _)]] at h
    exact h
  obtain ⟨q3, _, hown3, _⟩ := id hS
  obtain ⟨a3, c3, rfl⟩ := own_slice hown3
  have hb4 := hb3.trans (hbk.mono hb3.size)
  clear hown3 hS hbk hb1 hb2 hb3 e0 e1 e2 hn HV HB HZ hc3 hc4
  go_wp2_with fail
  go_ret
  exact ⟨_, rfl, HS.out, hb4⟩

end Go.Proofs.Ytgpaleifhcdjnaa

/- The law's relationBegun. -/
namespace Go.Proofs.Ytgpaleifhcdjnaa
open Go.RowKit

set_option maxRecDepth 100000 in
set_option maxHeartbeats 400000 in
theorem fact_any (p : Int) (a : Option Addr) (n c : Nat) (w : World) :
    Calls Try.prog 44 #[.int .i64 p, .slice a n c] w fun e w' => e = .returned (fcVal p (.slice a n c)) ∧ Below w.heap.size w w' := by
  have hb0 : ∀ o, Below w.heap.size w (w.alloc o) := fun o => (Below.refl _ _).alloc (Nat.le_refl _) o
  go_enter Try.func44, Try.ntmps44
  go_wp2_with fail
  have hGa := rl_new w (.cells #[.int .i64 p, .slice a n c] 49)
  have d0 : (w.alloc (.cells #[.int .i64 p, .slice a n c] 49)).cell? ⟨w.heap.size, 0, none⟩ = some (.int .i64 p) := by rw [Lib.cell_of_heap hGa]; rfl
  have d1 : (w.alloc (.cells #[.int .i64 p, .slice a n c] 49)).cell? ⟨w.heap.size, 1, none⟩ = some (.slice a n c) := by rw [Lib.cell_of_heap hGa]; rfl
  refine bodyPost_ret (v := fcVal p (.slice a n c)) (by simp [results, Try.results44, go_sem, d0, d1]) rfl ⟨rfl, hb0 _⟩

end Go.Proofs.Ytgpaleifhcdjnaa

/- A region that draws its order, by an invariant over what has been carried out: one proof for each operation, not one for each order. -/
namespace Go.Proofs.Ytgpaleifhcdjnaa

section
variable {P : Program} {ops : Array Oper} {Q : Exit → Act → World → Prop} {md : Region.Mode}

theorem ready_mem {s : Array Bool} {i : Nat} (h : i ∈ Region.ready md ops s) : s[i]? = some false ∧ ∃ o, ops[i]? = some o ∧ ∀ e, e ∈ o.after → Region.binds md e = true → s[e.on]? = some true := by
  unfold Region.ready at h
  obtain ⟨_, h⟩ := List.mem_filter.mp h
  rw [Bool.and_eq_true] at h
  obtain ⟨h1, h2⟩ := h
  refine ⟨?_, ?_⟩
  · cases hs : s[i]? with
    | none => simp [Array.getD_eq_getD_getElem?, hs] at h1
    | some b => cases b <;> simp [Array.getD_eq_getD_getElem?, hs] at h1 ⊢
  · cases ho : ops[i]? with
    | none => simp [ho] at h2
    | some o =>
      refine ⟨o, rfl, fun e he hb => ?_⟩
      rw [ho, Option.map_some, Option.getD_some, Array.all_eq_true_iff_forall_mem] at h2
      have h3 := h2 e he
      rw [hb] at h3
      cases hs : s[e.on]? with
      | none => simp [Array.getD_eq_getD_getElem?, hs] at h3
      | some b => cases b <;> simp [Array.getD_eq_getD_getElem?, hs] at h3 ⊢

/-- How many are not yet carried out. -/
def left (s : Array Bool) : Nat := s.toList.countP (fun b => !b)
theorem left_zero {s : Array Bool} (h : left s = 0) : Region.ready md ops s = [] := by
  cases hr : Region.ready md ops s with
  | nil => rfl
  | cons i r =>
    have h1 := (ready_mem (s := s) (i := i) (by rw [hr]; exact List.mem_cons_self)).1
    have h2 : false ∈ s.toList := by
      rw [← Array.getElem?_toList] at h1
      exact List.mem_of_getElem? h1
    have h3 := List.countP_eq_zero.mp h false h2
    simp at h3
theorem left_set {s : Array Bool} {i : Nat} (h : s[i]? = some false) : left (s.setIfInBounds i true) + 1 = left s := by
  obtain ⟨hi, he⟩ := Array.getElem?_eq_some_iff.mp h
  unfold left
  have h1 : (s.setIfInBounds i true).toList = s.toList.set i true := by simp
  rw [h1, List.countP_set (h := by simpa using hi)]
  have hm : 0 < s.toList.countP (fun b => !b) := List.countP_pos_iff.mpr ⟨false, by rw [← Array.getElem?_toList] at h; exact List.mem_of_getElem? h, rfl⟩
  have h2 : s.toList[i]'(by simpa using hi) = false := by rw [Array.getElem_toList]; exact he
  rw [h2]
  simp only [Bool.not_false, Bool.not_true, if_true, Bool.false_eq_true, if_false]
  omega

theorem wpAny_inv (I : Array Bool → Act → World → Prop) (hend : ∀ s a w, Region.ready md ops s = [] → I s a w → Q .normal a w)
    (hstep : ∀ s a w i, i ∈ Region.ready md ops s → I s a w → wpOp P ops Q i (I (s.setIfInBounds i true)) a w) :
    ∀ (fuel : Nat) (s : Array Bool) (a : Act) (w : World), left s ≤ fuel → I s a w → wpAny P md ops Q fuel s a w
  | 0, s, a, w, hc, hI => ⟨left_zero (by omega), hend s a w (left_zero (by omega)) hI⟩
  | fuel + 1, s, a, w, hc, hI => ⟨fun h0 => hend s a w h0 hI, fun i hi => wpOp_mono (fun a' w' hI' => wpAny_inv I hend hstep fuel _ a' w' (by have := left_set (ready_mem hi).1; omega) hI') (hstep s a w i hi hI)⟩

/-- The region itself. -/
theorem wp_region_inv (I : Array Bool → Act → World → Prop) {id : Nat} {a : Act} {w : World} (hm : P.follows .mixedOrders = true)
    (hend : ∀ s a w, Region.ready .any ops s = [] → I s a w → Q .normal a w)
    (hstep : ∀ s a w i, i ∈ Region.ready .any ops s → I s a w → wpOp P ops Q i (I (s.setIfInBounds i true)) a w)
    (h0 : I (Array.replicate ops.size false) a { w with drawn := w.drawn + 1 }) : (Code.region id ops true).wp P Q a w := by
  refine wp_region_any hm (wpAny_inv I hend hstep ops.size _ _ _ ?_ h0)
  unfold left
  exact Nat.le_trans List.countP_le_length (by simp)
end

end Go.Proofs.Ytgpaleifhcdjnaa

/- A region that draws its order, by a table: of each temporary that it writes, what holds of its value once it is written. One goal for each operation. -/
namespace Go.Proofs.Ytgpaleifhcdjnaa
open Go.RowKit

/-- All that is written is written once, and within the frame; what is waited for stands ahead. -/
def tabFine (ops : Array Oper) (n : Nat) : Bool :=
  decide ((ops.toList.filterMap (·.dst)).Nodup) && (ops.toList.filterMap (·.dst)).all (fun t => decide (t < n)) && (List.range ops.size).all (fun i => ((ops[i]?).map (fun o => o.after.toList.all (fun e => decide (e.on < i)))).getD true)

/-- The table at what is done. -/
structure Tabbed (ops : Array Oper) (T : Nat → Value → World → Prop) (a0 : Act) (w0 : World) (s : Array Bool) (a : Act) (w : World) : Prop where
  below : Below w0.heap.size w0 w
  defers : a.defers = a0.defers
  size : a.tmps.size = a0.tmps.size
  still : ∀ t, t ∉ ops.toList.filterMap (·.dst) → a.tmps.getD t undef = a0.tmps.getD t undef
  done : ∀ (i : Nat) (o : Oper) (t : Nat), s[i]? = some true → ops[i]? = some o → o.dst = some t → T t (a.tmps.getD t undef) w

section
variable {P : Program} {ops : Array Oper} {Q : Exit → Act → World → Prop} {T : Nat → Value → World → Prop}

theorem dst_mem {i : Nat} {o : Oper} {t : Nat} (h : ops[i]? = some o) (ht : o.dst = some t) : t ∈ ops.toList.filterMap (·.dst) := by
  refine List.mem_filterMap.mpr ⟨o, ?_, ht⟩
  rw [← Array.getElem?_toList] at h
  exact List.mem_of_getElem? h

theorem dst_inj : ∀ (l : List Oper), (l.filterMap (·.dst)).Nodup → ∀ (i j : Nat) (o o' : Oper) (t : Nat), l[i]? = some o → l[j]? = some o' → o.dst = some t → o'.dst = some t → i = j
  | [], _, i, j, o, o', t, h, _, _, _ => by simp at h
  | x :: l, hn, i, j, o, o', t, hi, hj, ho, ho' => by
    have hmem : ∀ k (o : Oper), l[k]? = some o → o.dst = some t → t ∈ l.filterMap (·.dst) := fun k o h1 h2 => List.mem_filterMap.mpr ⟨o, List.mem_of_getElem? h1, h2⟩
    cases i with
    | zero =>
      cases j with
      | zero => rfl
      | succ j =>
        simp only [List.getElem?_cons_zero, Option.some.injEq] at hi
        subst hi
        simp only [List.getElem?_cons_succ] at hj
        rw [List.filterMap_cons, ho] at hn
        exact absurd (hmem j o' hj ho') (List.nodup_cons.mp hn).1
    | succ i =>
      cases j with
      | zero =>
        simp only [List.getElem?_cons_zero, Option.some.injEq] at hj
        subst hj
        simp only [List.getElem?_cons_succ] at hi
        rw [List.filterMap_cons, ho'] at hn
        exact absurd (hmem i o hi ho) (List.nodup_cons.mp hn).1
      | succ j =>
        simp only [List.getElem?_cons_succ] at hi hj
        have hn' : (l.filterMap (·.dst)).Nodup := by
          rw [List.filterMap_cons] at hn
          cases hx : x.dst with
          | none => rw [hx] at hn; exact hn
          | some z => rw [hx] at hn; exact (List.nodup_cons.mp hn).2
        exact congrArg (· + 1) (dst_inj l hn' i j o o' t hi hj ho ho')

/-- What an operation's goal may take as given. -/
structure OpIn (ops : Array Oper) (T : Nat → Value → World → Prop) (a0 : Act) (w0 : World) (o : Oper) (a : Act) (w : World) : Prop where
  below : Below w0.heap.size w0 w
  still : ∀ t, t ∉ ops.toList.filterMap (·.dst) → a.tmps.getD t undef = a0.tmps.getD t undef
  has : ∀ e, e ∈ o.after → Region.binds .any e = true → ∀ (o' : Oper) (t : Nat), ops[e.on]? = some o' → o'.dst = some t → T t (a.tmps.getD t undef) w

/-- What an operation must do. -/
def OpOk (P : Program) (ops : Array Oper) (Q : Exit → Act → World → Prop) (T : Nat → Value → World → Prop) (o : Oper) (a : Act) (w : World) : Prop :=
  if Region.wanted o (yielded ops a.tmps) then o.wp P a w (fun a' w' => ∃ v, a' = a.put o.dst v ∧ (∀ t, o.dst = some t → T t v w') ∧ Below w.heap.size w w') Q ∨ (o.asks P a w ∧ LetsOut Q)
  else ∀ t, o.dst = some t → T t undef w

theorem put_get_self {a : Act} {t : Nat} {v : Value} (h : t < a.tmps.size) : (a.put (some t) v).tmps.getD t undef = v := by
  simp [Act.put, Array.getD_eq_getD_getElem?, h]
theorem put_get_ne {a : Act} {t u : Nat} {v : Value} (h : u ≠ t) : (a.put (some t) v).tmps.getD u undef = a.tmps.getD u undef := by
  simp [Act.put, Array.getD_eq_getD_getElem?, Ne.symm h]
theorem put_size {a : Act} {d : Option Nat} {v : Value} : (a.put d v).tmps.size = a.tmps.size := by
  cases d <;> simp [Act.put]
theorem put_defers {a : Act} {d : Option Nat} {v : Value} : (a.put d v).defers = a.defers := by
  cases d <;> simp [Act.put]

theorem wp_region_tab (T : Nat → Value → World → Prop) {id : Nat} {a0 : Act} {w0 : World} (hm : P.follows .mixedOrders = true)
    (hf : tabFine ops a0.tmps.size = true)
    (hmono : ∀ t v w w', Below w.heap.size w w' → T t v w → T t v w')
    (hop : ∀ (i : Nat) (o : Oper), ops[i]? = some o → ∀ a w, OpIn ops T a0 w0 o a w → OpOk P ops Q T o a w)
    (hend : ∀ a w, Below w0.heap.size w0 w → a.defers = a0.defers → a.tmps.size = a0.tmps.size → (∀ t, t ∉ ops.toList.filterMap (·.dst) → a.tmps.getD t undef = a0.tmps.getD t undef) → (∀ t, t ∈ ops.toList.filterMap (·.dst) → T t (a.tmps.getD t undef) w) → Q .normal a w) :
    (Code.region id ops true).wp P Q a0 w0 := by
  unfold tabFine at hf
  rw [Bool.and_eq_true, Bool.and_eq_true] at hf
  obtain ⟨⟨hnd, hlt⟩, hah⟩ := hf
  have hnd := of_decide_eq_true hnd
  have hlt' : ∀ t, t ∈ ops.toList.filterMap (·.dst) → t < a0.tmps.size := fun t ht => by
    have h := List.all_eq_true.mp hlt t ht
    exact of_decide_eq_true h
  have hah' : ∀ (i : Nat) (o : Oper), ops[i]? = some o → ∀ e, e ∈ o.after → e.on < i := fun i o ho e he => by
    have hi : i < ops.size := (Array.getElem?_eq_some_iff.mp ho).1
    have h := List.all_eq_true.mp hah i (List.mem_range.mpr hi)
    rw [ho, Option.map_some, Option.getD_some] at h
    exact of_decide_eq_true (List.all_eq_true.mp h e (by simpa using he))
  have hset : ∀ {T : Nat → Value → World → Prop} {s : Array Bool} {a : Act} {w w' : World} {i : Nat} {o : Oper} {v : Value}, (∀ t v w w', Below w.heap.size w w' → T t v w → T t v w') → s.size = ops.size → ops[i]? = some o → Tabbed ops T a0 w0 s a w → (∀ t, o.dst = some t → T t v w') → Below w.heap.size w w' → Tabbed ops T a0 w0 (s.setIfInBounds i true) (a.put o.dst v) w' := by
    intro T s a w w' i o v hmono hs ho hI hv hb
    refine ⟨hI.below.trans (hb.mono hI.below.size), by rw [put_defers]; exact hI.defers, by rw [put_size]; exact hI.size, fun t ht => ?_, fun j oj t hj hoj hd => ?_⟩
    · cases hd : o.dst with
      | none => exact hI.still t ht
      | some u =>
        have hne : t ≠ u := fun h => ht (h ▸ dst_mem ho hd)
        rw [put_get_ne hne]
        exact hI.still t ht
    · by_cases hij : j = i
      · subst hij
        rw [ho] at hoj
        cases hoj
        rw [hd, put_get_self (by rw [hI.size]; exact hlt' t (dst_mem ho hd))]
        exact hv t hd
      · have hj' : s[j]? = some true := by
          rw [Array.getElem?_setIfInBounds, if_neg (fun h => hij h.symm)] at hj
          exact hj
        have h1 := hmono t _ w w' hb (hI.done j oj t hj' hoj hd)
        cases hd2 : o.dst with
        | none => exact h1
        | some u =>
          have hne : t ≠ u := fun h => hij (dst_inj ops.toList hnd j i oj o t (by rw [Array.getElem?_toList]; exact hoj) (by rw [Array.getElem?_toList]; exact ho) hd (h ▸ hd2))
          rw [put_get_ne hne]
          exact h1
  refine wp_region_inv (fun s a w => s.size = ops.size ∧ Tabbed ops T a0 w0 s a w) hm ?_ ?_ ?_
  · rintro s a w hr ⟨hs, hI⟩
    have hall : ∀ n : Nat, n ≤ ops.size → ∀ i : Nat, i < n → s[i]? = some true := by
      intro n
      induction n with
      | zero => intro _ i hi; exact absurd hi (Nat.not_lt_zero _)
      | succ n ih =>
        intro hn i hi
        have ih := ih (by omega)
        by_cases hin : i < n
        · exact ih i hin
        · have hin : i = n := by omega
          subst hin
          cases hsi : s[i]? with
          | none => rw [Array.getElem?_eq_none_iff] at hsi; omega
          | some b =>
            cases b with
            | true => rfl
            | false =>
              exfalso
              have hio : i < ops.size := by omega
              have : i ∈ Region.ready .any ops s := by
                unfold Region.ready
                refine List.mem_filter.mpr ⟨List.mem_range.mpr hio, ?_⟩
                rw [Bool.and_eq_true]
                refine ⟨by simp [Array.getD_eq_getD_getElem?, hsi], ?_⟩
                have ho : ops[i]? = some ops[i] := Array.getElem?_eq_getElem hio
                rw [ho, Option.map_some, Option.getD_some, Array.all_eq_true_iff_forall_mem]
                intro e he
                have h1 := ih e.on (hah' i _ ho e he)
                simp [Array.getD_eq_getD_getElem?, h1]
              rw [hr] at this
              exact absurd this (by simp)
    refine hend a w hI.below hI.defers hI.size hI.still (fun t ht => ?_)
    obtain ⟨o, ho, hd⟩ := List.mem_filterMap.mp ht
    obtain ⟨i, hi⟩ := List.mem_iff_getElem?.mp ho
    rw [Array.getElem?_toList] at hi
    exact hI.done i o t (hall ops.size (Nat.le_refl _) i (Array.getElem?_eq_some_iff.mp hi).1) hi hd
  · rintro s a w i hi ⟨hs, hI⟩
    obtain ⟨hsi, o, ho, haf⟩ := ready_mem hi
    have h := hop i o ho a w ⟨hI.below, hI.still, fun e he hb o' t ho' hd => hI.done e.on o' t (haf e he hb) ho' hd⟩
    have hss : (s.setIfInBounds i true).size = ops.size := by simp [hs]
    unfold OpOk at h
    unfold wpOp
    rw [ho]
    dsimp only
    by_cases hw : Region.wanted o (yielded ops a.tmps) = true
    · rw [if_pos hw] at h ⊢
      refine h.imp (Oper.wp_mono ?_) (fun h => h)
      rintro a' w' ⟨v, rfl, hv, hb⟩
      exact ⟨hss, hset hmono hs ho hI hv hb⟩
    · rw [if_neg hw] at h ⊢
      exact ⟨hss, hset hmono hs ho hI h (Below.refl _ _)⟩
  · refine ⟨by simp, ⟨⟨rfl, rfl, rfl, Nat.le_refl _, fun _ _ => rfl⟩, rfl, rfl, fun _ _ => rfl, fun i o t h _ _ => ?_⟩⟩
    rw [Array.getElem?_replicate] at h
    split at h <;> simp at h
end

end Go.Proofs.Ytgpaleifhcdjnaa

/- The goals of a region by a table, operation by operation. -/
namespace Go.Proofs.Ytgpaleifhcdjnaa
open Go.RowKit

/-- Does an operation wait for the one that writes t? -/
def waitsFor (ops : Array Oper) (o : Oper) (t : Nat) : Bool := o.after.toList.any fun e => Region.binds .any e && ((ops[e.on]?).map fun o' => o'.dst == some t).getD false
def stays (ops : Array Oper) (t : Nat) : Bool := !(ops.toList.filterMap (·.dst)).contains t

section
variable {P : Program} {ops : Array Oper} {Q : Exit → Act → World → Prop} {T : Nat → Value → World → Prop} {a0 a : Act} {w0 w : World} {o : Oper}

theorem OpIn.of (h : OpIn ops T a0 w0 o a w) (t : Nat) (hw : waitsFor ops o t = true) : T t (a.tmps.getD t undef) w := by
  unfold waitsFor at hw
  obtain ⟨e, he, hb⟩ := List.any_eq_true.mp hw
  rw [Bool.and_eq_true] at hb
  cases ho : ops[e.on]? with
  | none => rw [ho] at hb; simp at hb
  | some o' =>
    rw [ho, Option.map_some, Option.getD_some] at hb
    exact h.has e (by simpa using he) hb.1 o' t ho (by simpa using hb.2)
theorem OpIn.old (h : OpIn ops T a0 w0 o a w) (t : Nat) (hs : stays ops t = true) : a.tmps.getD t undef = a0.tmps.getD t undef := by
  refine h.still t fun hm => ?_
  unfold stays at hs
  simp [hm] at hs
theorem wanted_none {y : Nat → Option Bool} (hg : o.guard = none) : Region.wanted o y = true := by simp [Region.wanted, hg]
theorem wanted_some {j t : Nat} {b : Bool} {oj : Oper} (hg : o.guard = some (j, b)) (hj : ops[j]? = some oj) (hd : oj.dst = some t) (hv : a.tmps.getD t undef = .bool b) : Region.wanted o (yielded ops a.tmps) = true := by
  have ht : a.tmps[t]? = some (.bool b) := by
    rw [Array.getD_eq_getD_getElem?] at hv
    cases h : a.tmps[t]? with
    | none => rw [h] at hv; simp [undef] at hv
    | some v => rw [h] at hv; simpa using hv
  unfold Region.wanted
  rw [hg]
  dsimp only
  unfold yielded
  rw [hj, Option.bind_some, hd, Option.bind_some, ht]
  simp
theorem opOk_val {v : Value} {w' : World} (hw : Region.wanted o (yielded ops a.tmps) = true) (hr : (execOp a.eval o).run P w = .ok (.value v) w') (hT : ∀ t, o.dst = some t → T t v w') (hb : Below w.heap.size w w') : OpOk P ops Q T o a w := by
  unfold OpOk
  rw [if_pos hw]
  left
  unfold Oper.wp
  rw [hr, Oper.upon_value]
  exact ⟨v, rfl, hT, hb⟩
theorem opOk_call {f : FuncId} {args : Array Value} (hw : Region.wanted o (yielded ops a.tmps) = true) (hr : (execOp a.eval o).run P w = .ok (.enter f args) w)
    (hc : Calls P f args w fun e w' => ∃ v, e = .returned v ∧ (∀ t, o.dst = some t → T t v w') ∧ Below w.heap.size w w') : OpOk P ops Q T o a w := by
  unfold OpOk
  rw [if_pos hw]
  left
  unfold Oper.wp
  rw [hr, Oper.upon_enter]
  refine Calls.mono hc ?_
  rintro e w' ⟨v, rfl, hT, hb⟩
  exact ⟨v, rfl, hT, hb⟩

/-- All operations, one by one. -/
def AllOps (Φ : Oper → Prop) : List Oper → Prop
  | [] => True
  | o :: l => Φ o ∧ AllOps Φ l
theorem AllOps.nil {Φ : Oper → Prop} : AllOps Φ [] := trivial
theorem AllOps.cons {Φ : Oper → Prop} {o : Oper} {l : List Oper} (h : Φ o) (hl : AllOps Φ l) : AllOps Φ (o :: l) := ⟨h, hl⟩
theorem AllOps.mem {Φ : Oper → Prop} : ∀ (l : List Oper), AllOps Φ l → ∀ o, o ∈ l → Φ o
  | [], _, o, ho => absurd ho (by simp)
  | x :: l, h, o, ho => by
    rcases List.mem_cons.mp ho with rfl | ho
    · exact h.1
    · exact AllOps.mem l h.2 o ho
theorem AllOps.at {Φ : Oper → Prop} {ops : Array Oper} (h : AllOps Φ ops.toList) (i : Nat) (o : Oper) (ho : ops[i]? = some o) : Φ o := by
  rw [← Array.getElem?_toList] at ho
  exact AllOps.mem _ h o (List.mem_of_getElem? ho)
theorem ends_at {t : Nat} (h : ∀ t, t ∈ ops.toList.filterMap (·.dst) → T t (a.tmps.getD t undef) w) (hs : stays ops t = false) : T t (a.tmps.getD t undef) w := by
  refine h t ?_
  unfold stays at hs
  simpa [List.contains_iff_mem] using hs
theorem wp_region_tabA (T : Nat → Value → World → Prop) {id : Nat} {a0 : Act} {w0 : World} (hm : P.follows .mixedOrders = true) (hf : tabFine ops a0.tmps.size = true)
    (hmono : ∀ t v w w', Below w.heap.size w w' → T t v w → T t v w')
    (hop : AllOps (fun o => ∀ a w, OpIn ops T a0 w0 o a w → OpOk P ops Q T o a w) ops.toList)
    (hend : ∀ a w, Below w0.heap.size w0 w → a.defers = a0.defers → a.tmps.size = a0.tmps.size → (∀ t, t ∉ ops.toList.filterMap (·.dst) → a.tmps.getD t undef = a0.tmps.getD t undef) → (∀ t, t ∈ ops.toList.filterMap (·.dst) → T t (a.tmps.getD t undef) w) → Q .normal a w) :
    (Code.region id ops true).wp P Q a0 w0 :=
  wp_region_tab T hm hf hmono (fun i o ho => AllOps.at hop i o ho) hend
end

end Go.Proofs.Ytgpaleifhcdjnaa

/- What the tables of relation's regions say of a value. -/
namespace Go.Proofs.Ytgpaleifhcdjnaa
open Go.RowKit

theorem boolsV_below {w w' : World} {v : Value} {l : List Bool} (h : BoolsV w v l) (hb : Below w.heap.size w w') : BoolsV w' v l := by
  obtain ⟨ao, cap, rfl, hc, h⟩ := h
  exact ⟨ao, cap, rfl, hc, boolsAt_below h hb⟩

/-- What is known of a temporary's value. -/
inductive Kd where
  | val (v : Value)
  | facts (l : List Rl.Fc)
  | ints (l : List Int)
  | bools (l : List Bool)
  | free
def Kd.ok : Kd → Value → World → Prop
  | .val u, v, _ => v = u
  | .facts l, v, w => FactsV w v l
  | .ints l, v, w => IntsV w v l
  | .bools l, v, w => BoolsV w v l
  | .free, _, _ => True
theorem Kd.mono (k : Kd) (v : Value) (w w' : World) (hb : Below w.heap.size w w') (h : k.ok v w) : k.ok v w' := by
  cases k with
  | val u => exact h
  | facts l => exact factsV_below h hb
  | ints l => exact intsV_below h hb
  | bools l => exact boolsV_below h hb
  | free => exact h

end Go.Proofs.Ytgpaleifhcdjnaa

/- Rows of facts, of numbers, of truths that a literal lays. -/
namespace Go.Proofs.Ytgpaleifhcdjnaa
open Go.RowKit

theorem ints_new1 (y : World) (x : Int) : IntsV (y.alloc (.cells #[.int .i64 x] 3)) (.slice (some ⟨y.heap.size, 0, none⟩) 1 1) [x] := by
  refine ⟨_, _, rfl, .inr ⟨_, _, rfl, fun i hi => ?_⟩⟩
  have h0 : i = 0 := by simp at hi; omega
  subst h0
  rw [Lib.cell_of_heap (rl_new y _)]
  rfl
theorem bools_new1 (y : World) (x : Bool) : BoolsV (y.alloc (.cells #[.bool x] 4)) (.slice (some ⟨y.heap.size, 0, none⟩) 1 1) [x] := by
  refine ⟨_, _, rfl, ⟨Nat.le_refl _, fun h => by cases h⟩, .inr ⟨_, _, rfl, fun i hi => ?_⟩⟩
  have h0 : i = 0 := by simp at hi; omega
  subst h0
  rw [Lib.cell_of_heap (rl_new y _)]
  rfl
theorem new_below (y : World) (o : Obj) : Below y.heap.size y (y.alloc o) := (Below.refl _ _).alloc (Nat.le_refl _) o
theorem facts_new1 (y : World) (f : Rl.Fc) (u : Value) (h : IntsV y u f.args) : FactsV (y.alloc (.cells #[.int .i64 f.pred, u] 49)) (.slice (some ⟨y.heap.size, 0, none⟩) 1 1) [f] := by
  refine ⟨_, _, rfl, ⟨Nat.le_refl _, fun h => by cases h⟩, .inr ⟨_, _, rfl, fun i hi => ?_⟩⟩
  have h0 : i = 0 := by simp at hi; omega
  subst h0
  exact ⟨by rw [Lib.cell_of_heap (rl_new y _)]; rfl, u, by rw [Lib.cell_of_heap (rl_new y _)]; rfl, intsV_below h (new_below _ _)⟩
theorem facts_new2 (y : World) (f g : Rl.Fc) (u v : Value) (h : IntsV y u f.args) (k : IntsV y v g.args) : FactsV (y.alloc (.cells #[.int .i64 f.pred, u, .int .i64 g.pred, v] 49)) (.slice (some ⟨y.heap.size, 0, none⟩) 2 2) [f, g] := by
  refine ⟨_, _, rfl, ⟨Nat.le_refl _, fun h => by cases h⟩, .inr ⟨_, _, rfl, fun i hi => ?_⟩⟩
  have h0 : i = 0 ∨ i = 1 := by simp at hi; omega
  rcases h0 with rfl | rfl
  · exact ⟨by rw [Lib.cell_of_heap (rl_new y _)]; rfl, u, by rw [Lib.cell_of_heap (rl_new y _)]; rfl, intsV_below h (new_below _ _)⟩
  · exact ⟨by rw [Lib.cell_of_heap (rl_new y _)]; rfl, v, by rw [Lib.cell_of_heap (rl_new y _)]; rfl, intsV_below k (new_below _ _)⟩
theorem facts_new3 (y : World) (f g e : Rl.Fc) (u v t : Value) (h : IntsV y u f.args) (k : IntsV y v g.args) (j : IntsV y t e.args) : FactsV (y.alloc (.cells #[.int .i64 f.pred, u, .int .i64 g.pred, v, .int .i64 e.pred, t] 49)) (.slice (some ⟨y.heap.size, 0, none⟩) 3 3) [f, g, e] := by
  refine ⟨_, _, rfl, ⟨Nat.le_refl _, fun h => by cases h⟩, .inr ⟨_, _, rfl, fun i hi => ?_⟩⟩
  have h0 : i = 0 ∨ i = 1 ∨ i = 2 := by simp at hi; omega
  rcases h0 with rfl | rfl | rfl
  · exact ⟨by rw [Lib.cell_of_heap (rl_new y _)]; rfl, u, by rw [Lib.cell_of_heap (rl_new y _)]; rfl, intsV_below h (new_below _ _)⟩
  · exact ⟨by rw [Lib.cell_of_heap (rl_new y _)]; rfl, v, by rw [Lib.cell_of_heap (rl_new y _)]; rfl, intsV_below k (new_below _ _)⟩
  · exact ⟨by rw [Lib.cell_of_heap (rl_new y _)]; rfl, t, by rw [Lib.cell_of_heap (rl_new y _)]; rfl, intsV_below j (new_below _ _)⟩

theorem begun_mem (w w1 w2 : World) (hb1 : Below (w.alloc (.cells #[.int .i64 1] 3)).heap.size (w.alloc (.cells #[.int .i64 1] 3)) w1) (hb2 : Below (w1.alloc (.cells #[.int .i64 2] 3)).heap.size (w1.alloc (.cells #[.int .i64 2] 3)) w2) (w3 : World)
    (hw3 : w3 = ((w2.alloc (.cells #[.int .i64 0, .slice (some ⟨w.heap.size, 0, none⟩) 1 1] 49)).alloc (.cells #[.int .i64 0, .slice (some ⟨w1.heap.size, 0, none⟩) 1 1] 49)).alloc (.cells #[.int .i64 0, .slice (some ⟨w1.heap.size, 0, none⟩) 1 1, .int .i64 0, .slice (some ⟨w.heap.size, 0, none⟩) 1 1, .int .i64 0, .slice (some ⟨w1.heap.size, 0, none⟩) 1 1] 49)) :
    Below w.heap.size w w3 ∧ IntsV w3 (.slice (some ⟨w.heap.size, 0, none⟩) 1 1) [1] ∧ IntsV w3 (.slice (some ⟨w1.heap.size, 0, none⟩) 1 1) [2] ∧
      w3.cell? ⟨w2.heap.size, 0, none⟩ = some (.int .i64 0) ∧ w3.cell? ⟨w2.heap.size, 1, none⟩ = some (.slice (some ⟨w.heap.size, 0, none⟩) 1 1) ∧
      w3.cell? ⟨w2.heap.size + 1, 0, none⟩ = some (.int .i64 0) ∧ w3.cell? ⟨w2.heap.size + 1, 1, none⟩ = some (.slice (some ⟨w1.heap.size, 0, none⟩) 1 1) ∧
      FactsV w3 (.slice (some ⟨w2.heap.size + 1 + 1, 0, none⟩) 3 3) [⟨0, [2]⟩, ⟨0, [1]⟩, ⟨0, [2]⟩] := by
  subst hw3
  have i1 := intsV_below (intsV_below (ints_new1 w 1) hb1) (new_below w1 (.cells #[.int .i64 2] 3))
  have i1 := intsV_below i1 hb2
  have i2 := intsV_below (ints_new1 w1 2) hb2
  have hbA : Below w.heap.size w w1 := (new_below w _).trans (hb1.mono (new_below w (.cells #[.int .i64 1] 3)).size)
  have hbB : Below w1.heap.size w1 w2 := (new_below w1 _).trans (hb2.mono (new_below w1 (.cells #[.int .i64 2] 3)).size)
  have hbC : Below w.heap.size w w2 := hbA.trans (hbB.mono hbA.size)
  generalize hSa : Value.slice (some ⟨w.heap.size, 0, none⟩) 1 1 = Sa at *
  generalize hSb : Value.slice (some ⟨w1.heap.size, 0, none⟩) 1 1 = Sb at *
  have b1 := new_below w2 (.cells #[.int .i64 0, Sa] 49)
  have s1 : (w2.alloc (.cells #[.int .i64 0, Sa] 49)).heap.size = w2.heap.size + 1 := by show (w2.heap.push _).size = _; simp
  have p1 := rl_new w2 (.cells #[.int .i64 0, Sa] 49)
  generalize w2.alloc (.cells #[.int .i64 0, Sa] 49) = x1 at *
  have b2 := new_below x1 (.cells #[.int .i64 0, Sb] 49)
  have p2 := rl_new x1 (.cells #[.int .i64 0, Sb] 49)
  have s2 : (x1.alloc (.cells #[.int .i64 0, Sb] 49)).heap.size = w2.heap.size + 1 + 1 := by rw [← s1]; show (x1.heap.push _).size = _; simp
  generalize x1.alloc (.cells #[.int .i64 0, Sb] 49) = x2 at *
  have j1 := intsV_below (intsV_below i1 b1) b2
  have j2 := intsV_below (intsV_below i2 b1) b2
  have hn := facts_new3 x2 ⟨0, [2]⟩ ⟨0, [1]⟩ ⟨0, [2]⟩ Sb Sa Sb j2 j1 j2
  have b3 := new_below x2 (.cells #[.int .i64 0, Sb, .int .i64 0, Sa, .int .i64 0, Sb] 49)
  rw [s2] at hn
  refine ⟨?_, intsV_below j1 b3, intsV_below j2 b3, ?_, ?_, ?_, ?_, hn⟩
  · have h1 := hbC.trans (b1.mono hbC.size)
    have h2 := h1.trans (b2.mono h1.size)
    exact h2.trans (b3.mono h2.size)
  · exact cell_below b3 (cell_below b2 (by rw [Lib.cell_of_heap p1]; rfl))
  · exact cell_below b3 (cell_below b2 (by rw [Lib.cell_of_heap p1]; rfl))
  · exact cell_below b3 (by rw [← s1, Lib.cell_of_heap p2]; rfl)
  · exact cell_below b3 (by rw [← s1, Lib.cell_of_heap p2]; rfl)

end Go.Proofs.Ytgpaleifhcdjnaa

/- The law's relationBegun: what must be in any case. -/
namespace Go.Proofs.Ytgpaleifhcdjnaa
open Go.RowKit

abbrev Fa : Rl.Fc := ⟨0, [1]⟩
abbrev Fb : Rl.Fc := ⟨0, [2]⟩
theorem sm_bab : ∀ f, f ∈ [Fb, Fa, Fb] → f.args.length ≤ 1048576 := by
  intro f hf
  simp only [List.mem_cons, List.not_mem_nil, or_false] at hf
  rcases hf with rfl | rfl | rfl <;> decide
theorem sm_b1 : ∀ f, f ∈ [Fb] → f.args.length ≤ 1048576 := by
  intro f hf
  simp only [List.mem_cons, List.not_mem_nil, or_false] at hf
  subst hf
  decide
theorem ff_bab : ∀ f, f ∈ [Fb, Fa, Fb] → FFit f := fun f hf => Nat.le_trans (sm_bab f hf) (by decide)
theorem ff_ab : ∀ f, f ∈ [Fa, Fb] → FFit f := fun f hf => ff_bab f (List.mem_cons_of_mem _ hf)
theorem ff_a1 : ∀ f, f ∈ [Fa] → FFit f := fun f hf => ff_ab f (by rw [List.mem_singleton.mp hf]; exact List.mem_cons_self)
theorem ff_b1 : ∀ f, f ∈ [Fb] → FFit f := fun f hf => ff_bab f (by rw [List.mem_singleton.mp hf]; exact List.mem_cons_self)

/-- What the temporaries hold. -/
def begunKd (Sa Sb VL : Value) : Nat → Kd
  | 12 => .val (fcVal 0 Sa)
  | 13 => .val (fcVal 0 Sb)
  | 14 => .val (Value.int .i64 (-1))
  | 17 => .val (fcVal 0 Sb)
  | 18 => .val (fcVal 0 Sb)
  | 19 => .val (Value.int .i64 0)
  | 23 => .val VL
  | 24 => .facts [Fa, Fb]
  | 25 => .val (fcVal 0 Sa)
  | 26 => .val (fcVal 0 Sb)
  | 27 => .facts [Fa, Fb]
  | 31 => .val VL
  | 32 => .val (fcVal 0 Sa)
  | 36 => .val VL
  | 37 => .val (fcVal 0 Sb)
  | 38 => .facts [Fb]
  | 39 => .facts [Fa]
  | 40 => .val (fcVal 0 Sa)
  | 41 => .facts [Fa]
  | 45 => .val VL
  | 46 => .val VL
  | 47 => .facts [Fa, Fb]
  | 48 => .val (fcVal 0 Sa)
  | 49 => .val (fcVal 0 Sb)
  | 50 => .facts [Fa, Fb]
  | 54 => .val VL
  | 55 => .ints [2]
  | 56 => .bools [true]
  | 57 => .facts [Fb]
  | 58 => .val (fcVal 0 Sb)
  | 59 => .facts [Fb]
  | _ => .val (.bool true)

set_option maxRecDepth 100000 in
set_option maxHeartbeats 4000000 in
theorem relationBegun_any (w : World) : Calls Try.prog 19 #[] w fun e w' => e = .returned (.bool true) ∧ Below w.heap.size w w' := by
  go_enter Try.func19, Try.ntmps19
  go_wp2_with fail
  refine (fact_any _ _ _ _ _).mono ?_
  rintro e w1 ⟨rfl, hb1⟩
  go_wp2_with fail
  refine (fact_any _ _ _ _ _).mono ?_
  rintro e w2 ⟨rfl, hb2⟩
  go_upto_region 3 with fail
  obtain ⟨hbw, hIA, hIB, d0, d1, d2, d3, hL⟩ := begun_mem w w1 w2 hb1 hb2 _ rfl
  clear hb1 hb2
  generalize (((w2.alloc (.cells #[.int .i64 0, .slice (some ⟨w.heap.size, 0, none⟩) 1 1] 49)).alloc (.cells #[.int .i64 0, .slice (some ⟨w1.heap.size, 0, none⟩) 1 1] 49)).alloc (.cells #[.int .i64 0, .slice (some ⟨w1.heap.size, 0, none⟩) 1 1, .int .i64 0, .slice (some ⟨w.heap.size, 0, none⟩) 1 1, .int .i64 0, .slice (some ⟨w1.heap.size, 0, none⟩) 1 1] 49)) = w3 at *
  generalize w2.heap.size = k at *
  generalize Value.slice (some ⟨w.heap.size, 0, none⟩) 1 1 = Sa at *
  generalize Value.slice (some ⟨w1.heap.size, 0, none⟩) 1 1 = Sb at *
  generalize Value.slice (some ⟨k + 1 + 1, 0, none⟩) 3 3 = VL at *
  refine wp_region_tabA (fun t v y => (begunKd Sa Sb VL t).ok v y) (by kernel_rfl) (by kernel_rfl) (fun t v y y' hb h => Kd.mono _ v y y' hb h) ?hop ?hend
  case hend =>
    intro a y hb hd hs hst hT
    have h0 : a.tmps.getD 0 undef = .bool true := ends_at (t := 0) hT (by kernel_rfl)
    simp only [Exit.then]
    refine (by assumption : ∀ (a : Act) (w : World), Code.wp Try.prog Code.ret _ a w → _) _ _ ?_
    refine wp_ret ?_
    rw [Array.getD_eq_getD_getElem?] at h0
    refine bodyPost_ret (v := .bool true) (by simp [results, Try.results19, go_sem, h0]) (by rw [hd]) ⟨rfl, hbw.trans (hb.mono hbw.size)⟩
  refine AllOps.cons (fun a y h => ?_) ?_
  · have e1 : a.eval (.tmp 1) = (Value.pointer (some ⟨k, 0, none⟩)) := h.old 1 (by kernel_rfl)
    have c0 := cell_below h.below d0
    have c1 := cell_below h.below d1
    refine opOk_val (v := (fcVal 0 Sa)) (w' := y) (wanted_none rfl) ?_ (fun t ht => by cases ht; exact rfl) (Below.refl _ _)
    have ec : ∀ v, a.eval (.const v) = v := fun _ => rfl
    generalize a.eval = ev at *
    clear h
    go_simp
  refine AllOps.cons (fun a y h => ?_) ?_
  · have e2 : a.eval (.tmp 2) = (Value.pointer (some ⟨k + 1, 0, none⟩)) := h.old 2 (by kernel_rfl)
    have c0 := cell_below h.below d2
    have c1 := cell_below h.below d3
    refine opOk_val (v := (fcVal 0 Sb)) (w' := y) (wanted_none rfl) ?_ (fun t ht => by cases ht; exact rfl) (Below.refl _ _)
    have ec : ∀ v, a.eval (.const v) = v := fun _ => rfl
    generalize a.eval = ev at *
    clear h
    go_simp
  refine AllOps.cons (fun a y h => ?_) ?_
  · have e12 : a.eval (.tmp 12) = (fcVal 0 Sa) := h.of 12 (by kernel_rfl)
    have e13 : a.eval (.tmp 13) = (fcVal 0 Sb) := h.of 13 (by kernel_rfl)
    refine opOk_call (f := 20) (args := #[(fcVal 0 Sa), (fcVal 0 Sb)]) (wanted_none rfl) ?_ ?_
    · have ec : ∀ v, a.eval (.const v) = v := fun _ => rfl
      have ef : ∀ f, a.eval (.func f) = .func (.func f) #[] #[] := fun _ => rfl
      generalize a.eval = ev at *
      clear h
      go_simp
    · refine (Order_any Fa Fb _ _ y (intsV_below hIA h.below) (intsV_below hIB h.below) (ff_a1 _ List.mem_cons_self) (ff_b1 _ List.mem_cons_self)).mono ?_
      rintro e y2 ⟨rfl, hg⟩
      exact ⟨_, rfl, fun t ht => by cases ht; exact rfl, hg.below⟩
  refine AllOps.cons (fun a y h => ?_) ?_
  · have e14 : a.eval (.tmp 14) = (Value.int .i64 (-1)) := h.of 14 (by kernel_rfl)
    refine opOk_val (v := (Value.bool true)) (w' := y) (wanted_none rfl) ?_ (fun t ht => by cases ht; exact rfl) (Below.refl _ _)
    have ec : ∀ v, a.eval (.const v) = v := fun _ => rfl
    generalize a.eval = ev at *
    clear h
    go_simp
  refine AllOps.cons (fun a y h => ?_) ?_
  · have e15 : a.eval (.tmp 15) = (Value.bool true) := h.of 15 (by kernel_rfl)
    refine opOk_val (v := (Value.bool true)) (w' := y) (wanted_none rfl) ?_ (fun t ht => by cases ht; exact rfl) (Below.refl _ _)
    have ec : ∀ v, a.eval (.const v) = v := fun _ => rfl
    generalize a.eval = ev at *
    clear h
    go_simp
  refine AllOps.cons (fun a y h => ?_) ?_
  · have e2 : a.eval (.tmp 2) = (Value.pointer (some ⟨k + 1, 0, none⟩)) := h.old 2 (by kernel_rfl)
    have c0 := cell_below h.below d2
    have c1 := cell_below h.below d3
    refine opOk_val (v := (fcVal 0 Sb)) (w' := y) (wanted_some (j := 4) (t := 16) (b := true) rfl rfl rfl (h.of 16 (by kernel_rfl))) ?_ (fun t ht => by cases ht; exact rfl) (Below.refl _ _)
    have ec : ∀ v, a.eval (.const v) = v := fun _ => rfl
    generalize a.eval = ev at *
    clear h
    go_simp
  refine AllOps.cons (fun a y h => ?_) ?_
  · have e2 : a.eval (.tmp 2) = (Value.pointer (some ⟨k + 1, 0, none⟩)) := h.old 2 (by kernel_rfl)
    have c0 := cell_below h.below d2
    have c1 := cell_below h.below d3
    refine opOk_val (v := (fcVal 0 Sb)) (w' := y) (wanted_some (j := 4) (t := 16) (b := true) rfl rfl rfl (h.of 16 (by kernel_rfl))) ?_ (fun t ht => by cases ht; exact rfl) (Below.refl _ _)
    have ec : ∀ v, a.eval (.const v) = v := fun _ => rfl
    generalize a.eval = ev at *
    clear h
    go_simp
  refine AllOps.cons (fun a y h => ?_) ?_
  · have e17 : a.eval (.tmp 17) = (fcVal 0 Sb) := h.of 17 (by kernel_rfl)
    have e18 : a.eval (.tmp 18) = (fcVal 0 Sb) := h.of 18 (by kernel_rfl)
    refine opOk_call (f := 20) (args := #[(fcVal 0 Sb), (fcVal 0 Sb)]) (wanted_some (j := 4) (t := 16) (b := true) rfl rfl rfl (h.of 16 (by kernel_rfl))) ?_ ?_
    · have ec : ∀ v, a.eval (.const v) = v := fun _ => rfl
      have ef : ∀ f, a.eval (.func f) = .func (.func f) #[] #[] := fun _ => rfl
      generalize a.eval = ev at *
      clear h
      go_simp
    · refine (Order_any Fb Fb _ _ y (intsV_below hIB h.below) (intsV_below hIB h.below) (ff_b1 _ List.mem_cons_self) (ff_b1 _ List.mem_cons_self)).mono ?_
      rintro e y2 ⟨rfl, hg⟩
      exact ⟨_, rfl, fun t ht => by cases ht; exact rfl, hg.below⟩
  refine AllOps.cons (fun a y h => ?_) ?_
  · have e19 : a.eval (.tmp 19) = (Value.int .i64 0) := h.of 19 (by kernel_rfl)
    refine opOk_val (v := (Value.bool true)) (w' := y) (wanted_some (j := 4) (t := 16) (b := true) rfl rfl rfl (h.of 16 (by kernel_rfl))) ?_ (fun t ht => by cases ht; exact rfl) (Below.refl _ _)
    have ec : ∀ v, a.eval (.const v) = v := fun _ => rfl
    generalize a.eval = ev at *
    clear h
    go_simp
  refine AllOps.cons (fun a y h => ?_) ?_
  · have e16 : a.eval (.tmp 16) = (Value.bool true) := h.of 16 (by kernel_rfl)
    have e20 : a.eval (.tmp 20) = (Value.bool true) := h.of 20 (by kernel_rfl)
    refine opOk_val (v := (Value.bool true)) (w' := y) (wanted_none rfl) ?_ (fun t ht => by cases ht; exact rfl) (Below.refl _ _)
    have ec : ∀ v, a.eval (.const v) = v := fun _ => rfl
    generalize a.eval = ev at *
    clear h
    go_simp
  refine AllOps.cons (fun a y h => ?_) ?_
  · have e21 : a.eval (.tmp 21) = (Value.bool true) := h.of 21 (by kernel_rfl)
    refine opOk_val (v := (Value.bool true)) (w' := y) (wanted_none rfl) ?_ (fun t ht => by cases ht; exact rfl) (Below.refl _ _)
    have ec : ∀ v, a.eval (.const v) = v := fun _ => rfl
    generalize a.eval = ev at *
    clear h
    go_simp
  refine AllOps.cons (fun a y h => ?_) ?_
  · have e3 : a.eval (.tmp 3) = VL := h.old 3 (by kernel_rfl)
    refine opOk_val (v := VL) (w' := y) (wanted_some (j := 10) (t := 22) (b := true) rfl rfl rfl (h.of 22 (by kernel_rfl))) ?_ (fun t ht => by cases ht; exact rfl) (Below.refl _ _)
    have ec : ∀ v, a.eval (.const v) = v := fun _ => rfl
    generalize a.eval = ev at *
    clear h
    go_simp
  refine AllOps.cons (fun a y h => ?_) ?_
  · have e23 : a.eval (.tmp 23) = VL := h.of 23 (by kernel_rfl)
    refine opOk_call (f := 23) (args := #[VL]) (wanted_some (j := 10) (t := 22) (b := true) rfl rfl rfl (h.of 22 (by kernel_rfl))) ?_ ?_
    · have ec : ∀ v, a.eval (.const v) = v := fun _ => rfl
      have ef : ∀ f, a.eval (.func f) = .func (.func f) #[] #[] := fun _ => rfl
      generalize a.eval = ev at *
      clear h
      go_simp
    · refine (Set_any [Fb, Fa, Fb] VL y (factsV_below hL h.below) (by decide) sm_bab).mono ?_
      rintro e y2 ⟨v, rfl, hv, hg⟩
      exact ⟨v, rfl, fun t ht => by cases ht; exact hv.toV, hg⟩
  refine AllOps.cons (fun a y h => ?_) ?_
  · have e1 : a.eval (.tmp 1) = (Value.pointer (some ⟨k, 0, none⟩)) := h.old 1 (by kernel_rfl)
    have c0 := cell_below h.below d0
    have c1 := cell_below h.below d1
    refine opOk_val (v := (fcVal 0 Sa)) (w' := y) (wanted_some (j := 10) (t := 22) (b := true) rfl rfl rfl (h.of 22 (by kernel_rfl))) ?_ (fun t ht => by cases ht; exact rfl) (Below.refl _ _)
    have ec : ∀ v, a.eval (.const v) = v := fun _ => rfl
    generalize a.eval = ev at *
    clear h
    go_simp
  refine AllOps.cons (fun a y h => ?_) ?_
  · have e2 : a.eval (.tmp 2) = (Value.pointer (some ⟨k + 1, 0, none⟩)) := h.old 2 (by kernel_rfl)
    have c0 := cell_below h.below d2
    have c1 := cell_below h.below d3
    refine opOk_val (v := (fcVal 0 Sb)) (w' := y) (wanted_some (j := 10) (t := 22) (b := true) rfl rfl rfl (h.of 22 (by kernel_rfl))) ?_ (fun t ht => by cases ht; exact rfl) (Below.refl _ _)
    have ec : ∀ v, a.eval (.const v) = v := fun _ => rfl
    generalize a.eval = ev at *
    clear h
    go_simp
  refine AllOps.cons (fun a y h => ?_) ?_
  · have e25 : a.eval (.tmp 25) = (fcVal 0 Sa) := h.of 25 (by kernel_rfl)
    have e26 : a.eval (.tmp 26) = (fcVal 0 Sb) := h.of 26 (by kernel_rfl)
    have hn := facts_new2 y Fa Fb Sa Sb (intsV_below hIA h.below) (intsV_below hIB h.below)
    refine opOk_val (v := .slice (some ⟨y.heap.size, 0, none⟩) 2 2) (w' := y.alloc (.cells #[.int .i64 Fa.pred, Sa, .int .i64 Fb.pred, Sb] 49)) (wanted_some (j := 10) (t := 22) (b := true) rfl rfl rfl (h.of 22 (by kernel_rfl))) ?_ (fun t ht => by cases ht; exact hn) ((Below.refl _ _).alloc (Nat.le_refl _) _)
    have ec : ∀ v, a.eval (.const v) = v := fun _ => rfl
    generalize a.eval = ev at *
    clear h hn
    go_simp
  refine AllOps.cons (fun a y h => ?_) ?_
  · have t24 : FactsV y (a.eval (.tmp 24)) [Fa, Fb] := h.of 24 (by kernel_rfl)
    obtain ⟨u24, e24⟩ : ∃ u, a.eval (.tmp 24) = u := ⟨_, rfl⟩
    rw [e24] at t24
    have t27 : FactsV y (a.eval (.tmp 27)) [Fa, Fb] := h.of 27 (by kernel_rfl)
    obtain ⟨u27, e27⟩ : ∃ u, a.eval (.tmp 27) = u := ⟨_, rfl⟩
    rw [e27] at t27
    refine opOk_call (f := 22) (args := #[u24, u27]) (wanted_some (j := 10) (t := 22) (b := true) rfl rfl rfl (h.of 22 (by kernel_rfl))) ?_ ?_
    · have ec : ∀ v, a.eval (.const v) = v := fun _ => rfl
      have ef : ∀ f, a.eval (.func f) = .func (.func f) #[] #[] := fun _ => rfl
      generalize a.eval = ev at *
      clear h
      go_simp
    · refine (SameFacts_refl [Fa, Fb] _ _ y t24 t27 (by decide) ff_ab).mono ?_
      rintro e y2 ⟨rfl, hg⟩
      exact ⟨_, rfl, fun t ht => by cases ht; exact rfl, hg⟩
  refine AllOps.cons (fun a y h => ?_) ?_
  · have e22 : a.eval (.tmp 22) = (Value.bool true) := h.of 22 (by kernel_rfl)
    have e28 : a.eval (.tmp 28) = (Value.bool true) := h.of 28 (by kernel_rfl)
    refine opOk_val (v := (Value.bool true)) (w' := y) (wanted_none rfl) ?_ (fun t ht => by cases ht; exact rfl) (Below.refl _ _)
    have ec : ∀ v, a.eval (.const v) = v := fun _ => rfl
    generalize a.eval = ev at *
    clear h
    go_simp
  refine AllOps.cons (fun a y h => ?_) ?_
  · have e29 : a.eval (.tmp 29) = (Value.bool true) := h.of 29 (by kernel_rfl)
    refine opOk_val (v := (Value.bool true)) (w' := y) (wanted_none rfl) ?_ (fun t ht => by cases ht; exact rfl) (Below.refl _ _)
    have ec : ∀ v, a.eval (.const v) = v := fun _ => rfl
    generalize a.eval = ev at *
    clear h
    go_simp
  refine AllOps.cons (fun a y h => ?_) ?_
  · have e3 : a.eval (.tmp 3) = VL := h.old 3 (by kernel_rfl)
    refine opOk_val (v := VL) (w' := y) (wanted_some (j := 18) (t := 30) (b := true) rfl rfl rfl (h.of 30 (by kernel_rfl))) ?_ (fun t ht => by cases ht; exact rfl) (Below.refl _ _)
    have ec : ∀ v, a.eval (.const v) = v := fun _ => rfl
    generalize a.eval = ev at *
    clear h
    go_simp
  refine AllOps.cons (fun a y h => ?_) ?_
  · have e1 : a.eval (.tmp 1) = (Value.pointer (some ⟨k, 0, none⟩)) := h.old 1 (by kernel_rfl)
    have c0 := cell_below h.below d0
    have c1 := cell_below h.below d1
    refine opOk_val (v := (fcVal 0 Sa)) (w' := y) (wanted_some (j := 18) (t := 30) (b := true) rfl rfl rfl (h.of 30 (by kernel_rfl))) ?_ (fun t ht => by cases ht; exact rfl) (Below.refl _ _)
    have ec : ∀ v, a.eval (.const v) = v := fun _ => rfl
    generalize a.eval = ev at *
    clear h
    go_simp
  refine AllOps.cons (fun a y h => ?_) ?_
  · have e31 : a.eval (.tmp 31) = VL := h.of 31 (by kernel_rfl)
    have e32 : a.eval (.tmp 32) = (fcVal 0 Sa) := h.of 32 (by kernel_rfl)
    refine opOk_call (f := 25) (args := #[VL, (fcVal 0 Sa)]) (wanted_some (j := 18) (t := 30) (b := true) rfl rfl rfl (h.of 30 (by kernel_rfl))) ?_ ?_
    · have ec : ∀ v, a.eval (.const v) = v := fun _ => rfl
      have ef : ∀ f, a.eval (.func f) = .func (.func f) #[] #[] := fun _ => rfl
      generalize a.eval = ev at *
      clear h
      go_simp
    · refine (Has_any [Fb, Fa, Fb] Fa VL _ y (factsV_below hL h.below) (intsV_below hIA h.below) (by decide) ff_bab (ff_a1 _ List.mem_cons_self)).mono ?_
      rintro e y2 ⟨rfl, hg⟩
      exact ⟨_, rfl, fun t ht => by cases ht; exact rfl, hg⟩
  refine AllOps.cons (fun a y h => ?_) ?_
  · have e30 : a.eval (.tmp 30) = (Value.bool true) := h.of 30 (by kernel_rfl)
    have e33 : a.eval (.tmp 33) = (Value.bool true) := h.of 33 (by kernel_rfl)
    refine opOk_val (v := (Value.bool true)) (w' := y) (wanted_none rfl) ?_ (fun t ht => by cases ht; exact rfl) (Below.refl _ _)
    have ec : ∀ v, a.eval (.const v) = v := fun _ => rfl
    generalize a.eval = ev at *
    clear h
    go_simp
  refine AllOps.cons (fun a y h => ?_) ?_
  · have e34 : a.eval (.tmp 34) = (Value.bool true) := h.of 34 (by kernel_rfl)
    refine opOk_val (v := (Value.bool true)) (w' := y) (wanted_none rfl) ?_ (fun t ht => by cases ht; exact rfl) (Below.refl _ _)
    have ec : ∀ v, a.eval (.const v) = v := fun _ => rfl
    generalize a.eval = ev at *
    clear h
    go_simp
  refine AllOps.cons (fun a y h => ?_) ?_
  · have e3 : a.eval (.tmp 3) = VL := h.old 3 (by kernel_rfl)
    refine opOk_val (v := VL) (w' := y) (wanted_some (j := 23) (t := 35) (b := true) rfl rfl rfl (h.of 35 (by kernel_rfl))) ?_ (fun t ht => by cases ht; exact rfl) (Below.refl _ _)
    have ec : ∀ v, a.eval (.const v) = v := fun _ => rfl
    generalize a.eval = ev at *
    clear h
    go_simp
  refine AllOps.cons (fun a y h => ?_) ?_
  · have e2 : a.eval (.tmp 2) = (Value.pointer (some ⟨k + 1, 0, none⟩)) := h.old 2 (by kernel_rfl)
    have c0 := cell_below h.below d2
    have c1 := cell_below h.below d3
    refine opOk_val (v := (fcVal 0 Sb)) (w' := y) (wanted_some (j := 23) (t := 35) (b := true) rfl rfl rfl (h.of 35 (by kernel_rfl))) ?_ (fun t ht => by cases ht; exact rfl) (Below.refl _ _)
    have ec : ∀ v, a.eval (.const v) = v := fun _ => rfl
    generalize a.eval = ev at *
    clear h
    go_simp
  refine AllOps.cons (fun a y h => ?_) ?_
  · have e37 : a.eval (.tmp 37) = (fcVal 0 Sb) := h.of 37 (by kernel_rfl)
    have hn := facts_new1 y Fb Sb (intsV_below hIB h.below)
    refine opOk_val (v := .slice (some ⟨y.heap.size, 0, none⟩) 1 1) (w' := y.alloc (.cells #[.int .i64 Fb.pred, Sb] 49)) (wanted_some (j := 23) (t := 35) (b := true) rfl rfl rfl (h.of 35 (by kernel_rfl))) ?_ (fun t ht => by cases ht; exact hn) ((Below.refl _ _).alloc (Nat.le_refl _) _)
    have ec : ∀ v, a.eval (.const v) = v := fun _ => rfl
    generalize a.eval = ev at *
    clear h hn
    go_simp
  refine AllOps.cons (fun a y h => ?_) ?_
  · have e36 : a.eval (.tmp 36) = VL := h.of 36 (by kernel_rfl)
    have t38 : FactsV y (a.eval (.tmp 38)) [Fb] := h.of 38 (by kernel_rfl)
    obtain ⟨u38, e38⟩ : ∃ u, a.eval (.tmp 38) = u := ⟨_, rfl⟩
    rw [e38] at t38
    refine opOk_call (f := 29) (args := #[VL, u38]) (wanted_some (j := 23) (t := 35) (b := true) rfl rfl rfl (h.of 35 (by kernel_rfl))) ?_ ?_
    · have ec : ∀ v, a.eval (.const v) = v := fun _ => rfl
      have ef : ∀ f, a.eval (.func f) = .func (.func f) #[] #[] := fun _ => rfl
      generalize a.eval = ev at *
      clear h
      go_simp
    · refine (Minus_any [Fb, Fa, Fb] [Fb] VL _ y (factsV_below hL h.below) t38 (by decide) (by decide) sm_bab sm_b1).mono ?_
      rintro e y2 ⟨v, rfl, hv, hg⟩
      exact ⟨v, rfl, fun t ht => by cases ht; exact hv, hg⟩
  refine AllOps.cons (fun a y h => ?_) ?_
  · have e1 : a.eval (.tmp 1) = (Value.pointer (some ⟨k, 0, none⟩)) := h.old 1 (by kernel_rfl)
    have c0 := cell_below h.below d0
    have c1 := cell_below h.below d1
    refine opOk_val (v := (fcVal 0 Sa)) (w' := y) (wanted_some (j := 23) (t := 35) (b := true) rfl rfl rfl (h.of 35 (by kernel_rfl))) ?_ (fun t ht => by cases ht; exact rfl) (Below.refl _ _)
    have ec : ∀ v, a.eval (.const v) = v := fun _ => rfl
    generalize a.eval = ev at *
    clear h
    go_simp
  refine AllOps.cons (fun a y h => ?_) ?_
  · have e40 : a.eval (.tmp 40) = (fcVal 0 Sa) := h.of 40 (by kernel_rfl)
    have hn := facts_new1 y Fa Sa (intsV_below hIA h.below)
    refine opOk_val (v := .slice (some ⟨y.heap.size, 0, none⟩) 1 1) (w' := y.alloc (.cells #[.int .i64 Fa.pred, Sa] 49)) (wanted_some (j := 23) (t := 35) (b := true) rfl rfl rfl (h.of 35 (by kernel_rfl))) ?_ (fun t ht => by cases ht; exact hn) ((Below.refl _ _).alloc (Nat.le_refl _) _)
    have ec : ∀ v, a.eval (.const v) = v := fun _ => rfl
    generalize a.eval = ev at *
    clear h hn
    go_simp
  refine AllOps.cons (fun a y h => ?_) ?_
  · have t39 : FactsV y (a.eval (.tmp 39)) [Fa] := h.of 39 (by kernel_rfl)
    obtain ⟨u39, e39⟩ : ∃ u, a.eval (.tmp 39) = u := ⟨_, rfl⟩
    rw [e39] at t39
    have t41 : FactsV y (a.eval (.tmp 41)) [Fa] := h.of 41 (by kernel_rfl)
    obtain ⟨u41, e41⟩ : ∃ u, a.eval (.tmp 41) = u := ⟨_, rfl⟩
    rw [e41] at t41
    refine opOk_call (f := 22) (args := #[u39, u41]) (wanted_some (j := 23) (t := 35) (b := true) rfl rfl rfl (h.of 35 (by kernel_rfl))) ?_ ?_
    · have ec : ∀ v, a.eval (.const v) = v := fun _ => rfl
      have ef : ∀ f, a.eval (.func f) = .func (.func f) #[] #[] := fun _ => rfl
      generalize a.eval = ev at *
      clear h
      go_simp
    · refine (SameFacts_refl [Fa] _ _ y t39 t41 (by decide) ff_a1).mono ?_
      rintro e y2 ⟨rfl, hg⟩
      exact ⟨_, rfl, fun t ht => by cases ht; exact rfl, hg⟩
  refine AllOps.cons (fun a y h => ?_) ?_
  · have e35 : a.eval (.tmp 35) = (Value.bool true) := h.of 35 (by kernel_rfl)
    have e42 : a.eval (.tmp 42) = (Value.bool true) := h.of 42 (by kernel_rfl)
    refine opOk_val (v := (Value.bool true)) (w' := y) (wanted_none rfl) ?_ (fun t ht => by cases ht; exact rfl) (Below.refl _ _)
    have ec : ∀ v, a.eval (.const v) = v := fun _ => rfl
    generalize a.eval = ev at *
    clear h
    go_simp
  refine AllOps.cons (fun a y h => ?_) ?_
  · have e43 : a.eval (.tmp 43) = (Value.bool true) := h.of 43 (by kernel_rfl)
    refine opOk_val (v := (Value.bool true)) (w' := y) (wanted_none rfl) ?_ (fun t ht => by cases ht; exact rfl) (Below.refl _ _)
    have ec : ∀ v, a.eval (.const v) = v := fun _ => rfl
    generalize a.eval = ev at *
    clear h
    go_simp
  refine AllOps.cons (fun a y h => ?_) ?_
  · have e3 : a.eval (.tmp 3) = VL := h.old 3 (by kernel_rfl)
    refine opOk_val (v := VL) (w' := y) (wanted_some (j := 32) (t := 44) (b := true) rfl rfl rfl (h.of 44 (by kernel_rfl))) ?_ (fun t ht => by cases ht; exact rfl) (Below.refl _ _)
    have ec : ∀ v, a.eval (.const v) = v := fun _ => rfl
    generalize a.eval = ev at *
    clear h
    go_simp
  refine AllOps.cons (fun a y h => ?_) ?_
  · have e3 : a.eval (.tmp 3) = VL := h.old 3 (by kernel_rfl)
    refine opOk_val (v := VL) (w' := y) (wanted_some (j := 32) (t := 44) (b := true) rfl rfl rfl (h.of 44 (by kernel_rfl))) ?_ (fun t ht => by cases ht; exact rfl) (Below.refl _ _)
    have ec : ∀ v, a.eval (.const v) = v := fun _ => rfl
    generalize a.eval = ev at *
    clear h
    go_simp
  refine AllOps.cons (fun a y h => ?_) ?_
  · have e45 : a.eval (.tmp 45) = VL := h.of 45 (by kernel_rfl)
    have e46 : a.eval (.tmp 46) = VL := h.of 46 (by kernel_rfl)
    refine opOk_call (f := 27) (args := #[VL, VL]) (wanted_some (j := 32) (t := 44) (b := true) rfl rfl rfl (h.of 44 (by kernel_rfl))) ?_ ?_
    · have ec : ∀ v, a.eval (.const v) = v := fun _ => rfl
      have ef : ∀ f, a.eval (.func f) = .func (.func f) #[] #[] := fun _ => rfl
      generalize a.eval = ev at *
      clear h
      go_simp
    · refine (Union_any [Fb, Fa, Fb] [Fb, Fa, Fb] VL VL y (factsV_below hL h.below) (factsV_below hL h.below) (by decide) (by decide) sm_bab sm_bab).mono ?_
      rintro e y2 ⟨v, rfl, hv, hg⟩
      exact ⟨v, rfl, fun t ht => by cases ht; exact hv, hg⟩
  refine AllOps.cons (fun a y h => ?_) ?_
  · have e1 : a.eval (.tmp 1) = (Value.pointer (some ⟨k, 0, none⟩)) := h.old 1 (by kernel_rfl)
    have c0 := cell_below h.below d0
    have c1 := cell_below h.below d1
    refine opOk_val (v := (fcVal 0 Sa)) (w' := y) (wanted_some (j := 32) (t := 44) (b := true) rfl rfl rfl (h.of 44 (by kernel_rfl))) ?_ (fun t ht => by cases ht; exact rfl) (Below.refl _ _)
    have ec : ∀ v, a.eval (.const v) = v := fun _ => rfl
    generalize a.eval = ev at *
    clear h
    go_simp
  refine AllOps.cons (fun a y h => ?_) ?_
  · have e2 : a.eval (.tmp 2) = (Value.pointer (some ⟨k + 1, 0, none⟩)) := h.old 2 (by kernel_rfl)
    have c0 := cell_below h.below d2
    have c1 := cell_below h.below d3
    refine opOk_val (v := (fcVal 0 Sb)) (w' := y) (wanted_some (j := 32) (t := 44) (b := true) rfl rfl rfl (h.of 44 (by kernel_rfl))) ?_ (fun t ht => by cases ht; exact rfl) (Below.refl _ _)
    have ec : ∀ v, a.eval (.const v) = v := fun _ => rfl
    generalize a.eval = ev at *
    clear h
    go_simp
  refine AllOps.cons (fun a y h => ?_) ?_
  · have e48 : a.eval (.tmp 48) = (fcVal 0 Sa) := h.of 48 (by kernel_rfl)
    have e49 : a.eval (.tmp 49) = (fcVal 0 Sb) := h.of 49 (by kernel_rfl)
    have hn := facts_new2 y Fa Fb Sa Sb (intsV_below hIA h.below) (intsV_below hIB h.below)
    refine opOk_val (v := .slice (some ⟨y.heap.size, 0, none⟩) 2 2) (w' := y.alloc (.cells #[.int .i64 Fa.pred, Sa, .int .i64 Fb.pred, Sb] 49)) (wanted_some (j := 32) (t := 44) (b := true) rfl rfl rfl (h.of 44 (by kernel_rfl))) ?_ (fun t ht => by cases ht; exact hn) ((Below.refl _ _).alloc (Nat.le_refl _) _)
    have ec : ∀ v, a.eval (.const v) = v := fun _ => rfl
    generalize a.eval = ev at *
    clear h hn
    go_simp
  refine AllOps.cons (fun a y h => ?_) ?_
  · have t47 : FactsV y (a.eval (.tmp 47)) [Fa, Fb] := h.of 47 (by kernel_rfl)
    obtain ⟨u47, e47⟩ : ∃ u, a.eval (.tmp 47) = u := ⟨_, rfl⟩
    rw [e47] at t47
    have t50 : FactsV y (a.eval (.tmp 50)) [Fa, Fb] := h.of 50 (by kernel_rfl)
    obtain ⟨u50, e50⟩ : ∃ u, a.eval (.tmp 50) = u := ⟨_, rfl⟩
    rw [e50] at t50
    refine opOk_call (f := 22) (args := #[u47, u50]) (wanted_some (j := 32) (t := 44) (b := true) rfl rfl rfl (h.of 44 (by kernel_rfl))) ?_ ?_
    · have ec : ∀ v, a.eval (.const v) = v := fun _ => rfl
      have ef : ∀ f, a.eval (.func f) = .func (.func f) #[] #[] := fun _ => rfl
      generalize a.eval = ev at *
      clear h
      go_simp
    · refine (SameFacts_refl [Fa, Fb] _ _ y t47 t50 (by decide) ff_ab).mono ?_
      rintro e y2 ⟨rfl, hg⟩
      exact ⟨_, rfl, fun t ht => by cases ht; exact rfl, hg⟩
  refine AllOps.cons (fun a y h => ?_) ?_
  · have e44 : a.eval (.tmp 44) = (Value.bool true) := h.of 44 (by kernel_rfl)
    have e51 : a.eval (.tmp 51) = (Value.bool true) := h.of 51 (by kernel_rfl)
    refine opOk_val (v := (Value.bool true)) (w' := y) (wanted_none rfl) ?_ (fun t ht => by cases ht; exact rfl) (Below.refl _ _)
    have ec : ∀ v, a.eval (.const v) = v := fun _ => rfl
    generalize a.eval = ev at *
    clear h
    go_simp
  refine AllOps.cons (fun a y h => ?_) ?_
  · have e52 : a.eval (.tmp 52) = (Value.bool true) := h.of 52 (by kernel_rfl)
    refine opOk_val (v := (Value.bool true)) (w' := y) (wanted_none rfl) ?_ (fun t ht => by cases ht; exact rfl) (Below.refl _ _)
    have ec : ∀ v, a.eval (.const v) = v := fun _ => rfl
    generalize a.eval = ev at *
    clear h
    go_simp
  refine AllOps.cons (fun a y h => ?_) ?_
  · have e3 : a.eval (.tmp 3) = VL := h.old 3 (by kernel_rfl)
    refine opOk_val (v := VL) (w' := y) (wanted_some (j := 41) (t := 53) (b := true) rfl rfl rfl (h.of 53 (by kernel_rfl))) ?_ (fun t ht => by cases ht; exact rfl) (Below.refl _ _)
    have ec : ∀ v, a.eval (.const v) = v := fun _ => rfl
    generalize a.eval = ev at *
    clear h
    go_simp
  refine AllOps.cons (fun a y h => ?_) ?_
  · refine opOk_val (v := .slice (some ⟨y.heap.size, 0, none⟩) 1 1) (w' := y.alloc (.cells #[.int .i64 2] 3)) (wanted_some (j := 41) (t := 53) (b := true) rfl rfl rfl (h.of 53 (by kernel_rfl))) ?_ (fun t ht => by cases ht; exact ints_new1 y 2) ((Below.refl _ _).alloc (Nat.le_refl _) _)
    have ec : ∀ v, a.eval (.const v) = v := fun _ => rfl
    generalize a.eval = ev at *
    clear h
    go_simp
  refine AllOps.cons (fun a y h => ?_) ?_
  · refine opOk_val (v := .slice (some ⟨y.heap.size, 0, none⟩) 1 1) (w' := y.alloc (.cells #[.bool true] 4)) (wanted_some (j := 41) (t := 53) (b := true) rfl rfl rfl (h.of 53 (by kernel_rfl))) ?_ (fun t ht => by cases ht; exact bools_new1 y true) ((Below.refl _ _).alloc (Nat.le_refl _) _)
    have ec : ∀ v, a.eval (.const v) = v := fun _ => rfl
    generalize a.eval = ev at *
    clear h
    go_simp
  refine AllOps.cons (fun a y h => ?_) ?_
  · have e54 : a.eval (.tmp 54) = VL := h.of 54 (by kernel_rfl)
    have t55 : IntsV y (a.eval (.tmp 55)) [2] := h.of 55 (by kernel_rfl)
    obtain ⟨u55, e55⟩ : ∃ u, a.eval (.tmp 55) = u := ⟨_, rfl⟩
    rw [e55] at t55
    have t56 : BoolsV y (a.eval (.tmp 56)) [true] := h.of 56 (by kernel_rfl)
    obtain ⟨u56, e56⟩ : ∃ u, a.eval (.tmp 56) = u := ⟨_, rfl⟩
    rw [e56] at t56
    refine opOk_call (f := 31) (args := #[VL, (.int .i64 0), u55, u56]) (wanted_some (j := 41) (t := 53) (b := true) rfl rfl rfl (h.of 53 (by kernel_rfl))) ?_ ?_
    · have ec : ∀ v, a.eval (.const v) = v := fun _ => rfl
      have ef : ∀ f, a.eval (.func f) = .func (.func f) #[] #[] := fun _ => rfl
      generalize a.eval = ev at *
      clear h
      go_simp
    · refine (Match_any [Fb, Fa, Fb] 0 [2] [true] VL _ _ y (factsV_below hL h.below) t55 t56 (by decide) sm_bab (by decide) (by decide)).mono ?_
      rintro e y2 ⟨v, rfl, hv, hg⟩
      exact ⟨v, rfl, fun t ht => by cases ht; exact hv, hg⟩
  refine AllOps.cons (fun a y h => ?_) ?_
  · have e2 : a.eval (.tmp 2) = (Value.pointer (some ⟨k + 1, 0, none⟩)) := h.old 2 (by kernel_rfl)
    have c0 := cell_below h.below d2
    have c1 := cell_below h.below d3
    refine opOk_val (v := (fcVal 0 Sb)) (w' := y) (wanted_some (j := 41) (t := 53) (b := true) rfl rfl rfl (h.of 53 (by kernel_rfl))) ?_ (fun t ht => by cases ht; exact rfl) (Below.refl _ _)
    have ec : ∀ v, a.eval (.const v) = v := fun _ => rfl
    generalize a.eval = ev at *
    clear h
    go_simp
  refine AllOps.cons (fun a y h => ?_) ?_
  · have e58 : a.eval (.tmp 58) = (fcVal 0 Sb) := h.of 58 (by kernel_rfl)
    have hn := facts_new1 y Fb Sb (intsV_below hIB h.below)
    refine opOk_val (v := .slice (some ⟨y.heap.size, 0, none⟩) 1 1) (w' := y.alloc (.cells #[.int .i64 Fb.pred, Sb] 49)) (wanted_some (j := 41) (t := 53) (b := true) rfl rfl rfl (h.of 53 (by kernel_rfl))) ?_ (fun t ht => by cases ht; exact hn) ((Below.refl _ _).alloc (Nat.le_refl _) _)
    have ec : ∀ v, a.eval (.const v) = v := fun _ => rfl
    generalize a.eval = ev at *
    clear h hn
    go_simp
  refine AllOps.cons (fun a y h => ?_) ?_
  · have t57 : FactsV y (a.eval (.tmp 57)) [Fb] := h.of 57 (by kernel_rfl)
    obtain ⟨u57, e57⟩ : ∃ u, a.eval (.tmp 57) = u := ⟨_, rfl⟩
    rw [e57] at t57
    have t59 : FactsV y (a.eval (.tmp 59)) [Fb] := h.of 59 (by kernel_rfl)
    obtain ⟨u59, e59⟩ : ∃ u, a.eval (.tmp 59) = u := ⟨_, rfl⟩
    rw [e59] at t59
    refine opOk_call (f := 22) (args := #[u57, u59]) (wanted_some (j := 41) (t := 53) (b := true) rfl rfl rfl (h.of 53 (by kernel_rfl))) ?_ ?_
    · have ec : ∀ v, a.eval (.const v) = v := fun _ => rfl
      have ef : ∀ f, a.eval (.func f) = .func (.func f) #[] #[] := fun _ => rfl
      generalize a.eval = ev at *
      clear h
      go_simp
    · refine (SameFacts_refl [Fb] _ _ y t57 t59 (by decide) ff_b1).mono ?_
      rintro e y2 ⟨rfl, hg⟩
      exact ⟨_, rfl, fun t ht => by cases ht; exact rfl, hg⟩
  refine AllOps.cons (fun a y h => ?_) ?_
  · have e53 : a.eval (.tmp 53) = (Value.bool true) := h.of 53 (by kernel_rfl)
    have e60 : a.eval (.tmp 60) = (Value.bool true) := h.of 60 (by kernel_rfl)
    refine opOk_val (v := (Value.bool true)) (w' := y) (wanted_none rfl) ?_ (fun t ht => by cases ht; exact rfl) (Below.refl _ _)
    have ec : ∀ v, a.eval (.const v) = v := fun _ => rfl
    generalize a.eval = ev at *
    clear h
    go_simp
  refine AllOps.cons (fun a y h => ?_) ?_
  · have e61 : a.eval (.tmp 61) = (Value.bool true) := h.of 61 (by kernel_rfl)
    refine opOk_val (v := (Value.bool true)) (w' := y) (wanted_none rfl) ?_ (fun t ht => by cases ht; exact rfl) (Below.refl _ _)
    have ec : ∀ v, a.eval (.const v) = v := fun _ => rfl
    generalize a.eval = ev at *
    clear h
    go_simp
  exact AllOps.nil

end Go.Proofs.Ytgpaleifhcdjnaa

/- The document's MinusOf. -/
namespace Go.Proofs.Ytgpaleifhcdjnaa
open Go.RowKit

set_option maxRecDepth 100000 in
set_option maxHeartbeats 2000000 in
theorem MinusOf_any (l m : List Rl.Fc) (v u : Value) (w : World) (hV : FactsV w v l) (hU : FactsV w u m) (hl : l.length ≤ 1048576) (hm : m.length ≤ 1048576) (hf : ∀ f, f ∈ l → FFit f) (hg : ∀ f, f ∈ m → FFit f) :
    Calls Try.prog 30 #[v, u] w fun e w' => ∃ v', e = .returned v' ∧ FactsV w' v' (Rl.minus l m) ∧ Below w.heap.size w w' := by
  obtain ⟨i0, hi, hz0, hz1, hz2⟩ := info_parts rl_info49
  have HU : Hid (FactsV w u m) := hU
  obtain ⟨ao, cap, rfl, _, hA⟩ := hV
  obtain ⟨bo, cbp, rfl, _, _⟩ := id hU
  have HA : Hid (FactsAt w ao l) := hA
  have HF : Hid ((∀ f, f ∈ l → FFit f) ∧ ∀ f, f ∈ m → FFit f) := ⟨hf, hg⟩
  obtain ⟨P, hP⟩ : ∃ P : Rl.Fc → Bool, P = fun x => !Rl.has m x := ⟨_, rfl⟩
  have HPE : Hid (P = fun x => !Rl.has m x) := hP
  clear hA hf hg hU hP
  go_enter Try.func30, Try.ntmps30
  go_wp2_with fail
  go_loopw [5, 6] (fun vs i wr => ∃ (k : Nat) (q : List Fv), k ≤ l.length ∧ i = .int .i64 k ∧ wr.ownsRow w.heap.size 49 2 vs q.length (q.map fcCells).flatten ∧ q.map (·.1) = (l.take k).filter P ∧ (∀ p, p ∈ q → FvOk w p) ∧ Below w.heap.size w wr ∧ q.length ≤ k) (fun _ i _ => l.length - (intOf i).toNat)
  case atStart => exact ⟨0, [], Nat.zero_le _, rfl, World.ownsRow_nil _ _ _ _, rfl, fun _ hp => absurd hp (by simp), Below.refl _ _, Nat.le_refl _⟩
  case round =>
    obtain ⟨wo, hwo⟩ : ∃ wo, wo = wr := ⟨_, rfl⟩
    subst hwo
    obtain ⟨k, q, hk, rfl, hown, hqf, hqo, hb, hqk⟩ := hrel
    have HQF : Hid _ := hqf
    have HQO : Hid _ := hqo
    clear hqf hqo
    obtain ⟨aos, caps, rfl⟩ := own_slice hown
    by_cases hlt : k < l.length
    · obtain ⟨b, off, rfl, p0, fv, p1, hIv⟩ := facts_at HA.out k hlt
      have hmem := factD_mem l k hlt
      have HTK : Hid ((l.take (k + 1)).filter P = (l.take k).filter P ++ if P (Rl.factD l k) then [Rl.factD l k] else []) := by
        show _ = _
        rw [List.take_add_one, factD_get l k hlt, List.filter_append]
        simp only [Option.toList_some, List.filter_cons, List.filter_nil]
      have HIV : Hid (IntsV w fv (Rl.factD l k).args) := hIv
      have HFF : Hid (FFit (Rl.factD l k)) := HF.out.1 _ hmem
      have HPF : Hid (P (Rl.factD l k) = !Rl.has m (Rl.factD l k)) := by show _ = _; rw [HPE.out]
      obtain ⟨af, cf, rfl, _⟩ := hIv
      have a0 := cell_below hb p0
      have a1 := cell_below hb p1
      have HP0 : Hid (w.cell? ⟨b, off + k * 2, none⟩ = some (.int .i64 (Rl.factD l k).pred) ∧ w.cell? ⟨b, off + k * 2 + 1, none⟩ = some (.slice af (Rl.factD l k).args.length cf)) := ⟨p0, p1⟩
      clear p0 p1 hmem
      generalize Rl.factD l k = f at *
      have HHF : Hid _ := HasFact_any m f _ _ wo (factsV_below HU.out hb) (intsV_below HIV.out hb) (by omega) HF.out.2 HFF.out
      go_wp2_with fail
      refine Calls.mono HHF.out ?_
      rintro e w1 ⟨rfl, hb1⟩
      have hown1 := ownsRow_below hown hb1
      have hbw1 := hb.trans (hb1.mono hb.size)
      clear hown hb hb1 HHF a0 a1
      cases hh : Rl.has m f
      · have hp : P f = true := by rw [HPF.out, hh]; rfl
        rw [hp, if_pos rfl] at HTK
        have HT2 : Hid ((q ++ [(f, Value.slice af f.args.length cf)]).map (·.1) = (l.take (k + 1)).filter P) := by show _ = _; rw [HTK.out, ← HQF.out]; simp
        have HO2 : Hid (∀ p, p ∈ q ++ [(f, Value.slice af f.args.length cf)] → FvOk w p) := by
          intro p hp
          rcases List.mem_append.mp hp with hp | hp
          · exact HQO.out p hp
          · obtain rfl : p = (f, Value.slice af f.args.length cf) := by simpa using hp
            exact ⟨HIV.out, HFF.out⟩
        clear HTK HQF HQO hp
        have b0 := cell_below hbw1 HP0.out.1
        have b1 := cell_below hbw1 HP0.out.2
        have hbsz := hbw1.size
        go_wp2_with (at_builtin; refine wpList_append_own _ rfl _ _ 47 rfl w.heap.size 49 i0 _ 2 32 Try.underlying47 hi hz0 hz1 hz2 rfl (by decide) _ _ _ rfl (hown1.alloc _) ⟨w1.heap.size, 0, none⟩ 1 1 (fcCells (f, .slice af f.args.length cf)) rfl rfl ?c1 ?c2 ?c3 ?c4 ?c5 ?_)
        case c1 => exact news2 w1 _ _ 49
        case c2 => intro u hu; simp [fcCells] at hu; rcases hu with rfl | rfl <;> rfl
        case c3 => unfold maxLen; omega
        case c4 => omega
        case c5 => simp; omega
        intro vs2 w4 hown4 hgrow4 _
        obtain ⟨ao9, cap9, rfl⟩ := own_slice hown4
        have hb5 : Below w.heap.size w w4 := (hbw1.alloc hbw1.size _).grown hgrow4 (by simp; omega) (fun k hk => (hown1.lt k hk).1)
        have hown5 : w4.ownsRow w.heap.size 49 2 (.slice ao9 (q.length + 1) cap9) (q ++ [(f, Value.slice af f.args.length cf)]).length ((q ++ [(f, Value.slice af f.args.length cf)]).map fcCells).flatten := by
          rw [List.length_append, List.map_append, List.flatten_append]
          simpa using hown4
        clear hown4 hgrow4 hown1 hbw1 b0 b1
        go_wp2_with fail
        go_roundw
        case rel => exact ⟨k + 1, _, by omega, by go_num, hown5, HT2.out, HO2.out, hb5, by rw [List.length_append]; simp; omega⟩
        case measure => simp [intOf]; omega
      · have hp : P f = false := by rw [HPF.out, hh]; rfl
        rw [hp, if_neg (by simp)] at HTK
        have HT2 : Hid (q.map (·.1) = (l.take (k + 1)).filter P) := by show _ = _; rw [HTK.out, HQF.out]; simp
        clear HTK HQF hp
        go_wp2_with fail
        go_roundw
        case rel => exact ⟨k + 1, q, by omega, by go_num, hown1, HT2.out, HQO.out, hbw1, by omega⟩
        case measure => simp [intOf]; omega
    · have HQF2 : Hid (q.map (·.1) = l.filter P) := by show _ = _; rw [HQF.out, List.take_of_length_le (by omega)]
      have HFV : Hid (FactsV wo (.slice aos q.length caps) (l.filter P) ∧ (l.filter P).length ≤ 2097152 ∧ ∀ f, f ∈ l.filter P → FFit f) := by
        refine ⟨?_, by have := List.length_filter_le P l; omega, fun f hf => HF.out.1 f (List.mem_filter.mp hf).1⟩
        rw [← HQF2.out]
        exact own_factsV hown HQO.out hb
      have HM : Hid (Rl.set (l.filter P) = Rl.minus l m) := by show _ = _; rw [HPE.out]; rfl
      clear HQF HQF2 hown HQO
      go_wp2_with fail
      refine Calls.mono (SetOf_any (l.filter P) _ _ HFV.out.1 HFV.out.2.1 HFV.out.2.2) ?_
      rintro e w3 ⟨v3, rfl, hS, hb3⟩
      obtain ⟨q3, _, hown3, _⟩ := id hS
      obtain ⟨a3, c3, rfl⟩ := own_slice hown3
      have HS : Hid (FactsV w3 (.slice a3 q3.length c3) (Rl.minus l m)) := by rw [← HM.out]; exact hS.toV hb3
      have hb4 := hb.trans (hb3.mono hb.size)
      clear hown3 hS hb3 HFV HM
      go_wp2_with fail
      go_ret
      exact ⟨_, rfl, HS.out, hb4⟩

end Go.Proofs.Ytgpaleifhcdjnaa

