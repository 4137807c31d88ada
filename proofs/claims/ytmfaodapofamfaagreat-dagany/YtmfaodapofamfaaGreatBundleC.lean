/- Own texts, one behind the other (part 3). -/
import Derived.Test.YtmfaodapofamfaaGreatBundleB
import Derived.Test.YtmfaodapofamfaaGreatRows
import Derived.WalkKit
import Derived.WalkSpells
import Derived.WalkLawsBesides
import Derived.Deep.QuietTactic
import Derived.BigQuiet
import Derived.Shelf.SlSortCmp.WholeK
import Derived.Ground.SlsfProg
import Derived.RegionTactic
import Derived.BigRegion
import Derived.Lib.SliceRun
import Derived.Lib.LazyBuf
import Derived.Shelf.SlSortCmp.NoneTotal
/- What rows, facts and their order lean on. -/
/- of RlPlain -/
namespace Go.Proofs.YtmfaodapofamfaaGreat
namespace Rl
theorem cmpI_lt {a b : Int} : cmpI a b < 0 ↔ a < b := by
  unfold cmpI
  split
  · constructor
    · intro _; assumption
    · intro _; decide
  · split
    · constructor
      · intro h; exact absurd h (by decide)
      · intro h; omega
    · constructor
      · intro h; exact absurd h (by decide)
      · intro h; omega
theorem cmpI_flip (a b : Int) : cmpI b a = - cmpI a b := by
  unfold cmpI
  by_cases h1 : a < b
  · rw [if_pos h1, if_neg (by omega), if_pos h1]
    rfl
  · by_cases h2 : b < a
    · rw [if_pos h2, if_neg h1, if_pos h2]
    · rw [if_neg h2, if_neg h1, if_neg h1, if_neg h2]
      rfl
theorem cmpL_flip : ∀ (x y : List Int), cmpL y x = - cmpL x y := by
  intro x
  induction x with
  | nil =>
    intro y
    cases y with
    | nil => rfl
    | cons b y => rfl
  | cons a x ih =>
    intro y
    cases y with
    | nil => rfl
    | cons b y =>
      simp only [cmpL]
      by_cases h : cmpI a b = 0
      · rw [if_pos h, if_pos (by rw [cmpI_flip, h]; rfl)]
        exact ih y
      · rw [if_neg h, if_neg (by rw [cmpI_flip]; omega)]
        exact cmpI_flip a b
theorem cmpL_trans : ∀ {x y z : List Int}, cmpL x y < 0 → cmpL y z < 0 → cmpL x z < 0 := by
  intro x
  induction x with
  | nil =>
    intro y z h1 h2
    cases y with
    | nil => exact absurd h1 (by decide)
    | cons b y =>
      cases z with
      | nil => exact absurd (show (1 : Int) < 0 from h2) (by decide)
      | cons c z => show (-1 : Int) < 0; decide
  | cons a x ih =>
    intro y z h1 h2
    cases y with
    | nil => exact absurd (show (1 : Int) < 0 from h1) (by decide)
    | cons b y =>
      cases z with
      | nil => exact absurd (show (1 : Int) < 0 from h2) (by decide)
      | cons c z =>
        simp only [cmpL] at h1 h2 ⊢
        by_cases e1 : cmpI a b = 0
        · rw [if_pos e1] at h1
          rw [cmpI_zero] at e1
          subst e1
          by_cases e2 : cmpI a c = 0
          · rw [if_pos e2] at h2 ⊢
            exact ih h1 h2
          · rw [if_neg e2] at h2 ⊢
            exact h2
        · rw [if_neg e1, cmpI_lt] at h1
          by_cases e2 : cmpI b c = 0
          · rw [cmpI_zero] at e2
            subst e2
            rw [if_neg e1, cmpI_lt]
            exact h1
          · rw [if_neg e2, cmpI_lt] at h2
            rw [if_neg (by rw [cmpI_zero]; omega), cmpI_lt]
            omega
theorem ord_flip (f g : Fc) : ord g f = - ord f g := by
  unfold ord
  by_cases h : cmpI f.pred g.pred = 0
  · rw [if_pos h, if_pos (by rw [cmpI_flip, h]; rfl)]
    exact cmpL_flip _ _
  · rw [if_neg h, if_neg (by rw [cmpI_flip]; omega)]
    exact cmpI_flip _ _
theorem ord_trans {f g h : Fc} (h1 : ord f g < 0) (h2 : ord g h < 0) : ord f h < 0 := by
  obtain ⟨p, x⟩ := f
  obtain ⟨q, y⟩ := g
  obtain ⟨r, z⟩ := h
  unfold ord at h1 h2 ⊢
  simp only at h1 h2 ⊢
  by_cases e1 : cmpI p q = 0
  · rw [if_pos e1] at h1
    rw [cmpI_zero] at e1
    subst e1
    by_cases e2 : cmpI p r = 0
    · rw [if_pos e2] at h2 ⊢
      exact cmpL_trans h1 h2
    · rw [if_neg e2] at h2 ⊢
      exact h2
  · rw [if_neg e1, cmpI_lt] at h1
    by_cases e2 : cmpI q r = 0
    · rw [cmpI_zero] at e2
      subst e2
      rw [if_neg e1, cmpI_lt]
      exact h1
    · rw [if_neg e2, cmpI_lt] at h2
      rw [if_neg (by rw [cmpI_zero]; omega), cmpI_lt]
      omega
def Lt (f g : Fc) : Prop := ord f g < 0
theorem Lt.trans {f g h : Fc} (h1 : Lt f g) (h2 : Lt g h) : Lt f h := ord_trans h1 h2
theorem Lt.irrefl (f : Fc) : ¬ Lt f f := by unfold Lt; rw [ord_self]; decide
theorem lt_or (f g : Fc) : Lt f g ∨ f = g ∨ Lt g f := by
  unfold Lt
  rw [ord_flip f g, ← ord_zero]
  omega
/-- In order, each once. -/
def Up (l : List Fc) : Prop := l.Pairwise Lt
def IsSet (s l : List Fc) : Prop := Up s ∧ ∀ x, x ∈ s ↔ x ∈ l
theorem up_ext : ∀ {s t : List Fc}, Up s → Up t → (∀ x, x ∈ s ↔ x ∈ t) → s = t := by
  intro s
  induction s with
  | nil =>
    intro t _ _ h
    cases t with
    | nil => rfl
    | cons b t => exact absurd ((h b).mpr (by simp)) (by simp)
  | cons a s ih =>
    intro t hs ht h
    cases t with
    | nil => exact absurd ((h a).mp (by simp)) (by simp)
    | cons b t =>
      have hs' := List.pairwise_cons.mp hs
      have ht' := List.pairwise_cons.mp ht
      have hab : a = b := by
        rcases List.mem_cons.mp ((h a).mp (by simp)) with h1 | h1
        · exact h1
        · rcases List.mem_cons.mp ((h b).mpr (by simp)) with h2 | h2
          · exact h2.symm
          · exact absurd ((ht'.1 a h1).trans (hs'.1 b h2)) (Lt.irrefl b)
      subst hab
      rw [ih hs'.2 ht'.2 (fun x => ?_)]
      constructor
      · intro hx
        rcases List.mem_cons.mp ((h x).mp (by simp [hx])) with h1 | h1
        · subst h1; exact absurd (hs'.1 x hx) (Lt.irrefl x)
        · exact h1
      · intro hx
        rcases List.mem_cons.mp ((h x).mpr (by simp [hx])) with h1 | h1
        · subst h1; exact absurd (ht'.1 x hx) (Lt.irrefl x)
        · exact h1
def ins (f : Fc) : List Fc → List Fc
  | [] => [f]
  | a :: r => if ord f a < 0 then f :: a :: r else if ord f a = 0 then a :: r else a :: ins f r
theorem mem_ins (f x : Fc) : ∀ (l : List Fc), x ∈ ins f l ↔ x = f ∨ x ∈ l := by
  intro l
  induction l with
  | nil => simp [ins]
  | cons a r ih =>
    simp only [ins]
    split
    · simp
    · split
      · rename_i h
        rw [ord_zero] at h
        subst h
        constructor
        · intro h; exact .inr h
        · rintro (h | h)
          · simp [h]
          · exact h
      · rw [List.mem_cons, ih, List.mem_cons]
        constructor
        · rintro (h | h | h)
          · exact .inr (.inl h)
          · exact .inl h
          · exact .inr (.inr h)
        · rintro (h | h | h)
          · exact .inr (.inl h)
          · exact .inl h
          · exact .inr (.inr h)
theorem up_ins (f : Fc) : ∀ {l : List Fc}, Up l → Up (ins f l) := by
  intro l
  induction l with
  | nil => intro _; exact List.pairwise_singleton _ _
  | cons a r ih =>
    intro h
    have h' := List.pairwise_cons.mp h
    simp only [ins]
    split
    · rename_i h1
      refine List.pairwise_cons.mpr ⟨fun x hx => ?_, h⟩
      rcases List.mem_cons.mp hx with rfl | hx
      · exact h1
      · exact Lt.trans h1 (h'.1 x hx)
    · split
      · exact h
      · rename_i h1 h2
        refine List.pairwise_cons.mpr ⟨fun x hx => ?_, ih h'.2⟩
        rcases (mem_ins f x r).mp hx with rfl | hx
        · rcases lt_or a x with h3 | h3 | h3
          · exact h3
          · subst h3; exact absurd (ord_self a) h2
          · exact absurd h3 h1
        · exact h'.1 x hx
/-- The set of some facts. -/
def set : List Fc → List Fc
  | [] => []
  | a :: r => ins a (set r)
theorem set_isSet : ∀ (l : List Fc), IsSet (set l) l := by
  intro l
  induction l with
  | nil => exact ⟨List.Pairwise.nil, fun x => Iff.rfl⟩
  | cons a r ih =>
    refine ⟨up_ins a ih.1, fun x => ?_⟩
    show x ∈ ins a (set r) ↔ _
    rw [mem_ins, ih.2, List.mem_cons]
theorem isSet_eq {s l : List Fc} (h : IsSet s l) : s = set l := up_ext h.1 (set_isSet l).1 fun x => (h.2 x).trans ((set_isSet l).2 x).symm
theorem mem_set {l : List Fc} {x : Fc} : x ∈ set l ↔ x ∈ l := (set_isSet l).2 x
theorem set_same {l m : List Fc} (h : ∀ x, x ∈ l ↔ x ∈ m) : set l = set m := isSet_eq ⟨(set_isSet l).1, fun x => mem_set.trans (h x)⟩
def has (l : List Fc) (f : Fc) : Bool := l.any fun x => ord x f == 0
theorem has_iff {l : List Fc} {f : Fc} : has l f = true ↔ f ∈ l := by
  unfold has
  rw [List.any_eq_true]
  constructor
  · rintro ⟨x, hx, h⟩
    have h2 : x = f := ord_zero.mp (by simpa using h)
    rw [← h2]
    exact hx
  · intro h
    exact ⟨f, h, by simp [ord_self]⟩
/-- One more fact, put where it belongs. -/
theorem up_put {acc : List Fc} {f : Fc} {k : Nat} (h : Up acc) (hf : f ∉ acc) (hk : k ≤ acc.length) (hd : ∀ x, x ∈ acc.drop k → ord x f > 0) (ht : k = 0 ∨ ∃ x, acc[k - 1]? = some x ∧ ¬ ord x f > 0) : Up (acc.take k ++ f :: acc.drop k) := by
  have hsplit : acc.take k ++ acc.drop k = acc := List.take_append_drop k acc
  have h0 := h
  rw [← hsplit] at h0
  obtain ⟨u1, u2, u3⟩ := List.pairwise_append.mp h0
  refine List.pairwise_append.mpr ⟨u1, List.pairwise_cons.mpr ⟨fun x hx => ?_, u2⟩, fun x hx y hy => ?_⟩
  · have := hd x hx
    show ord f x < 0
    rw [ord_flip x f]
    omega
  · have hxf : Lt x f := by
      rcases ht with h1 | ⟨z, hz, hzf⟩
      · subst h1; simp at hx
      · have hzl : Lt z f := by
          rcases lt_or z f with h2 | h2 | h2
          · exact h2
          · subst h2; exact absurd (List.mem_of_getElem? hz) hf
          · have h3 : ord f z < 0 := h2
            rw [ord_flip z f] at h3
            omega
        by_cases hxz : x = z
        · rw [hxz]; exact hzl
        · obtain ⟨i, hi, hix⟩ := List.getElem_of_mem hx
          have hi1 : i < k := by rw [List.length_take] at hi; omega
          have hi2 : i < acc.length := by omega
          have hk1 : k - 1 < acc.length := by omega
          have hxi : acc[i] = x := by rw [← hix, List.getElem_take]
          have hzi : acc[k - 1] = z := by rw [List.getElem?_eq_getElem hk1] at hz; exact Option.some.inj hz
          have hne : ¬ i = k - 1 := fun e => hxz (by rw [← hxi, ← hzi]; simp only [e])
          have := List.pairwise_iff_getElem.mp h i (k - 1) hi2 hk1 (by omega)
          rw [hxi, hzi] at this
          exact this.trans hzl
    rcases List.mem_cons.mp hy with rfl | hy
    · exact hxf
    · exact u3 x hx y hy
theorem mem_put {acc : List Fc} {f x : Fc} {k : Nat} : x ∈ acc.take k ++ f :: acc.drop k ↔ x = f ∨ x ∈ acc := by
  have hsplit : acc.take k ++ acc.drop k = acc := List.take_append_drop k acc
  conv => rhs; rw [← hsplit]
  simp only [List.mem_append, List.mem_cons]
  constructor
  · rintro (h | h | h)
    · exact .inr (.inl h)
    · exact .inl h
    · exact .inr (.inr h)
  · rintro (h | h | h)
    · exact .inr (.inl h)
    · exact .inl h
    · exact .inr (.inr h)
end Rl
end Go.Proofs.YtmfaodapofamfaaGreat
/- of Leaf -/
namespace Go.Proofs.YtmfaodapofamfaaGreat
open Go.RowKit
/-- A call of a function value enters the function. -/
def Enters (g : Nat) : Prop := ∀ (a : Array Value) (w : World), (callFunc g a).run Tryz.prog w = .ok (.enter g a) w
theorem enters_of {f : FuncId} {fn : Func} {c : Code} (hf : Tryz.prog.funcs[f]? = some fn) (hname : (fn.name == "runtime.NumGoroutine") = false) (hb : fn.body = some c) : Enters f := by
  intro a w
  have h1 : fn.name ≠ "runtime.NumGoroutine" := by simpa using hname
  simp [callFunc, hf, h1, hb]
end Go.Proofs.YtmfaodapofamfaaGreat
/- of RlOrder -/
namespace Go.Proofs.YtmfaodapofamfaaGreat
open Go.RowKit
set_option maxRecDepth 100000 in
set_option maxHeartbeats 1000000 in
theorem same_any (f g : Rl.Fc) (v u : Value) (w : World) (hV : IntsV w v f.args) (hU : IntsV w u g.args) (hx : FFit f) (hy : FFit g) :
    Calls Tryz.prog 111 #[fcVal f.pred v, fcVal g.pred u] w fun e w' => e = .returned (.bool (Rl.ord f g == 0)) ∧ Gr w w' := by
  obtain ⟨p, x⟩ := f
  obtain ⟨q, y⟩ := g
  have hV : IntsV w v x := hV
  have hU : IntsV w u y := hU
  obtain ⟨ao, cap, rfl, _⟩ := id hV
  obtain ⟨bo, cbp, rfl, _⟩ := id hU
  have hg2 : Gr w (((w.alloc (.cells #[.int .i64 p, .slice ao x.length cap] 84)).alloc (.cells #[.int .i64 q, .slice bo y.length cbp] 84))) := ((Gr.refl w).alloc _).alloc _
  have HC : Hid (Calls Tryz.prog 71 #[fcVal p (.slice ao x.length cap), fcVal q (.slice bo y.length cbp)] (((w.alloc (.cells #[.int .i64 p, .slice ao x.length cap] 84)).alloc (.cells #[.int .i64 q, .slice bo y.length cbp] 84))) fun e w' => e = .returned (.int .i64 (Rl.ord ⟨p, x⟩ ⟨q, y⟩)) ∧ Gr (((w.alloc (.cells #[.int .i64 p, .slice ao x.length cap] 84)).alloc (.cells #[.int .i64 q, .slice bo y.length cbp] 84))) w') := Order_any ⟨p, x⟩ ⟨q, y⟩ _ _ _ (intsV_below hV hg2.below) (intsV_below hU hg2.below) hx hy
  clear hV hU hx hy
  go_enter Tryz.func111, Tryz.ntmps111
  go_wp2_with fail
  refine Calls.mono HC.out ?_
  rintro e w3 ⟨rfl, hg3⟩
  have hg := hg2.trans hg3
  clear HC hg2 hg3
  go_wp2_with fail
  go_ret
  exact ⟨rfl, hg⟩
end Go.Proofs.YtmfaodapofamfaaGreat
/- of Sort -/
namespace Go.Proofs
open Go.Shelf
def Tryz.sortF_ren : Go.Shelf.Ren := ⟨fun | 6 => 109 | 15 => 117 | 14 => 118 | 28 => 127 | 29 => 128 | 20 => 129 | 21 => 130 | 22 => 131 | 23 => 132 | 24 => 133 | 25 => 134 | 26 => 135 | 27 => 136 | 46 => 142 | 47 => 138 | 48 => 139 | 49 => 143 | 50 => 144 | 57 => 146 | n => n, fun | 22 => 28 | 24 => 84 | 25 => 87 | 3 => 3 | 39 => 136 | 0 => 0 | 53 => 151 | 55 => 153 | 4 => 4 | 46 => 145 | 45 => 144 | 50 => 119 | 5 => 5 | 9 => 9 | 66 => 159 | 70 => 163 | 76 => 167 | 77 => 168 | n => n, fun | n => n⟩
theorem Tryz.sortF : Go.Proofs.SlLaysF0.n6 Tryz.prog Tryz.sortF_ren := {
  mixed := by kernel_rfl
  f6 := ⟨Tryz.f109.name, by decide, Tryz.func109.trans (congrArg some (by kernel_rfl))⟩
  f14 := ⟨Tryz.f118.name, by decide, Tryz.func118.trans (congrArg some (by kernel_rfl))⟩
  f15 := Tryz.func117.trans (congrArg some (by kernel_rfl))
  f20 := ⟨Tryz.f129.name, by decide, Tryz.func129.trans (congrArg some (by kernel_rfl))⟩
  f21 := ⟨Tryz.f130.name, by decide, Tryz.func130.trans (congrArg some (by kernel_rfl))⟩
  f22 := ⟨Tryz.f131.name, by decide, Tryz.func131.trans (congrArg some (by kernel_rfl))⟩
  f23 := ⟨Tryz.f132.name, by decide, Tryz.func132.trans (congrArg some (by kernel_rfl))⟩
  f24 := ⟨Tryz.f133.name, by decide, Tryz.func133.trans (congrArg some (by kernel_rfl))⟩
  f25 := ⟨Tryz.f134.name, by decide, Tryz.func134.trans (congrArg some (by kernel_rfl))⟩
  f26 := ⟨Tryz.f135.name, by decide, Tryz.func135.trans (congrArg some (by kernel_rfl))⟩
  f27 := ⟨Tryz.f136.name, by decide, Tryz.func136.trans (congrArg some (by kernel_rfl))⟩
  f28 := Tryz.func127.trans (congrArg some (by kernel_rfl))
  f29 := Tryz.func128.trans (congrArg some (by kernel_rfl))
  f46 := ⟨Tryz.f142.name, by decide, Tryz.func142.trans (congrArg some (by kernel_rfl))⟩
  f47 := Tryz.func138.trans (congrArg some (by kernel_rfl))
  f48 := Tryz.func139.trans (congrArg some (by kernel_rfl))
  f49 := ⟨Tryz.f143.name, by decide, Tryz.func143.trans (congrArg some (by kernel_rfl))⟩
  f50 := ⟨Tryz.f144.name, by decide, Tryz.func144.trans (congrArg some (by kernel_rfl))⟩
  f57 := ⟨Tryz.f146.name, by decide, Tryz.func146.trans (congrArg some (by kernel_rfl))⟩
  t0 := Tryz.underlying0
  a0 := Tryz.isAgg0
  z0 := Tryz.sizeOf0
  v0 := Tryz.zeroValue0
  t3 := Tryz.underlying3
  a3 := Tryz.isAgg3
  z3 := Tryz.sizeOf3
  v3 := Tryz.zeroValue3
  t4 := Tryz.underlying4
  a4 := Tryz.isAgg4
  z4 := Tryz.sizeOf4
  v4 := Tryz.zeroValue4
  t5 := Tryz.underlying5
  a5 := Tryz.isAgg5
  z5 := Tryz.sizeOf5
  v5 := Tryz.zeroValue5
  t9 := Tryz.underlying9
  a9 := Tryz.isAgg9
  z9 := Tryz.sizeOf9
  v9 := Tryz.zeroValue9
  t22 := Tryz.underlying28
  a22 := Tryz.isAgg28
  z22 := Tryz.sizeOf28
  v22 := Tryz.zeroValue28
  t25 := Tryz.underlying87
  a25 := Tryz.isAgg87
  z25 := Tryz.sizeOf87
  v25 := Tryz.zeroValue87
  t39 := Tryz.underlying136
  a39 := Tryz.isAgg136
  z39 := Tryz.sizeOf136
  v39 := Tryz.zeroValue136
  t45 := Tryz.underlying144
  a45 := Tryz.isAgg144
  z45 := Tryz.sizeOf144
  v45 := Tryz.zeroValue144
  t46 := Tryz.underlying145
  a46 := Tryz.isAgg145
  z46 := Tryz.sizeOf145
  v46 := Tryz.zeroValue145
  t50 := Tryz.underlying119
  a50 := Tryz.isAgg119
  z50 := Tryz.sizeOf119
  v50 := Tryz.zeroValue119
  t53 := Tryz.underlying151
  a53 := Tryz.isAgg151
  z53 := Tryz.sizeOf151
  v53 := Tryz.zeroValue151
  t55 := Tryz.underlying153
  a55 := Tryz.isAgg153
  z55 := Tryz.sizeOf153
  v55 := Tryz.zeroValue153
  t66 := Tryz.underlying159
  a66 := Tryz.isAgg159
  z66 := Tryz.sizeOf159
  v66 := Tryz.zeroValue159
  t70 := Tryz.underlying163
  a70 := Tryz.isAgg163
  z70 := Tryz.sizeOf163
  v70 := Tryz.zeroValue163
  t76 := Tryz.underlying167
  a76 := Tryz.isAgg167
  z76 := Tryz.sizeOf167
  v76 := Tryz.zeroValue167
  t77 := Tryz.underlying168
  a77 := Tryz.isAgg168
  z77 := Tryz.sizeOf168
  v77 := Tryz.zeroValue168 }
end Go.Proofs
/- of ParMem -/
namespace Go.Proofs.YtmfaodapofamfaaGreat
open Go.RowKit
theorem grownBy_of_below {w w' : World} (h : Below w.heap.size w w') (row : Option Nat) : w.grownBy w' row :=
  ⟨h.os, h.tape, h.output, h.size, fun k hk _ => h.block k hk⟩
theorem grownBy_trans {a b c : World} {row : Option Nat} (h : a.grownBy b row) (k : b.grownBy c row) : a.grownBy c row :=
  ⟨k.os.trans h.os, k.tape.trans h.tape, k.output.trans h.output, Nat.le_trans h.size k.size, fun i hi hne => (k.block i (Nat.lt_of_lt_of_le hi h.size) hne).trans (h.block i hi hne)⟩
theorem grownBy_set {w : World} {P : Nat} (o : Nat) (v : Value) : w.grownBy (w.setCell ⟨P, o, none⟩ v) (some P) :=
  ⟨rfl, rfl, rfl, by simp [World.setCell], fun k _ hk => Below.heap_setCell _ _ _ _ (fun e => hk (by rw [e]))⟩
end Go.Proofs.YtmfaodapofamfaaGreat
/- of ParRows -/
namespace Go.Proofs.YtmfaodapofamfaaGreat
open Go.RowKit
theorem flat_length (k : Nat) : ∀ cs : List (List Value), (∀ c, c ∈ cs → c.length = k) → cs.flatten.length = cs.length * k := by
  intro cs
  induction cs with
  | nil => intro _; simp
  | cons c r ih =>
    intro h
    rw [List.flatten_cons, List.length_append, ih (fun c hc => h c (List.mem_cons_of_mem _ hc)), h c List.mem_cons_self, List.length_cons, Nat.add_mul]
    omega
theorem flat_get (k : Nat) : ∀ (cs : List (List Value)), (∀ c, c ∈ cs → c.length = k) → ∀ i c j u, cs[i]? = some c → c[j]? = some u → cs.flatten[i * k + j]? = some u := by
  intro cs
  induction cs with
  | nil => intro _ i c j u h; simp at h
  | cons a r ih =>
    intro h i c j u hi hj
    have ha := h a List.mem_cons_self
    have hjk : j < c.length := by
      rcases Nat.lt_or_ge j c.length with h | h
      · exact h
      · rw [List.getElem?_eq_none h] at hj; cases hj
    rw [List.flatten_cons]
    cases i with
    | zero =>
      have hac : a = c := by simpa using hi
      subst hac
      rw [Nat.zero_mul, Nat.zero_add, List.getElem?_append_left hjk]
      exact hj
    | succ i =>
      rw [List.getElem?_append_right (by rw [ha, Nat.add_mul]; omega), ha, show (i + 1) * k + j - k = i * k + j from by rw [Nat.add_mul]; omega]
      exact ih (fun c hc => h c (List.mem_cons_of_mem _ hc)) i c j u (by simpa using hi) hj
end Go.Proofs.YtmfaodapofamfaaGreat
/- of RlKit -/
namespace Go.Proofs.YtmfaodapofamfaaGreat
open Go.RowKit
theorem rl_lt {w : World} {b : Nat} {o : Obj} (h : w.heap[b]? = some o) : b < w.heap.size := by
  rcases Nat.lt_or_ge b w.heap.size with h2 | h2
  · exact h2
  · rw [Array.getElem?_eq_none h2] at h; cases h
theorem rl_cell_low {w0 y : World} {b o : Nat} {v : Value} (h : w0.cell? ⟨b, o, none⟩ = some v) (hl : ∀ k, k < w0.heap.size → y.heap[k]? = w0.heap[k]?) : y.cell? ⟨b, o, none⟩ = some v := (World.cell?_of_block (a := ⟨b, o, none⟩) (hl b (World.block_lt_of_cell? w0 _ h))).trans h
theorem rl_low_size {w0 y : World} (hl : ∀ k, k < w0.heap.size → y.heap[k]? = w0.heap[k]?) : w0.heap.size ≤ y.heap.size := by
  rcases Nat.eq_zero_or_pos w0.heap.size with h | h
  · omega
  · have h1 := hl (w0.heap.size - 1) (by omega)
    have h2 : w0.heap[w0.heap.size - 1]? = some w0.heap[w0.heap.size - 1] := Array.getElem?_eq_getElem (by omega)
    have := rl_lt (h1.trans h2)
    omega
theorem rl_own_alone {w w' : World} {B k n : Nat} {e : TypeId} {v : Value} {xs : List Value} (h : w.ownsRow B e k v n xs) (hk : ∀ g, v.ownBlock = some g → w'.heap[g]? = w.heap[g]?) : w'.ownsRow B e k v n xs := by
  obtain ⟨h1, h2⟩ := h
  refine ⟨h1, ?_⟩
  rcases h2 with h2 | ⟨g, cap, cur, rfl, hb, hh, r⟩
  · exact .inl h2
  · exact .inr ⟨g, cap, cur, rfl, hb, (hk g rfl).trans hh, r⟩
theorem rl_ints_low {w0 w : World} {v : Value} {l : List Int} (h : IntsV w0 v l) (hl : ∀ k, k < w0.heap.size → w.heap[k]? = w0.heap[k]?) : IntsV w v l := by
  obtain ⟨ao, cap, rfl, h⟩ := h
  refine ⟨ao, cap, rfl, ?_⟩
  rcases h with h | ⟨b, off, rfl, hc⟩
  · exact .inl h
  · exact .inr ⟨b, off, rfl, fun i hi => rl_cell_low (hc i hi) hl⟩
theorem fc_len (q : List Fv) : ∀ c, c ∈ q.map fcCells → c.length = 2 := by
  intro c hc
  obtain ⟨t, _, rfl⟩ := List.mem_map.mp hc
  rfl
theorem fc_at (q : List Fv) (t : Nat) (ht : t < q.length * 2) : ∃ x, q[t / 2]? = some x ∧ ((q.map fcCells).flatten)[t]? = (fcCells x)[t % 2]? := by
  have h1 : t / 2 < q.length := by omega
  refine ⟨q[t / 2], List.getElem?_eq_getElem h1, ?_⟩
  have h2 : (fcCells q[t / 2])[t % 2]? = some ((fcCells q[t / 2])[t % 2]'(by show _ < 2; omega)) := List.getElem?_eq_getElem _
  have := flat_get 2 (q.map fcCells) (fc_len q) (t / 2) (fcCells q[t / 2]) (t % 2) _ (by rw [List.getElem?_map, List.getElem?_eq_getElem h1]; rfl) h2
  rw [h2, ← this]
  congr 1
  omega
theorem fc_length (q : List Fv) : ((q.map fcCells).flatten).length = q.length * 2 := by
  rw [flat_length 2 _ (fc_len q), List.length_map]
section
variable {w w' : World} {B g cap : Nat} {q : List Fv}
theorem FRow.cell (h : FRow w B g cap q) {i : Nat} {x : Fv} (hi : q[i]? = some x) : w.cell? ⟨g, i * 2, none⟩ = some (.int .i64 x.1.pred) ∧ w.cell? ⟨g, i * 2 + 1, none⟩ = some x.2 := by
  have hl : i < q.length := by
    rcases Nat.lt_or_ge i q.length with h2 | h2
    · exact h2
    · rw [List.getElem?_eq_none h2] at hi; cases hi
  have hm : (q.map fcCells)[i]? = some (fcCells x) := by rw [List.getElem?_map, hi]; rfl
  have c0 := flat_get 2 (q.map fcCells) (fc_len q) i (fcCells x) 0 (.int .i64 x.1.pred) hm rfl
  have c1 := flat_get 2 (q.map fcCells) (fc_len q) i (fcCells x) 1 x.2 hm rfl
  exact ⟨(World.ownsRow.cellAt h (i * 2) (by omega)).trans c0, (World.ownsRow.cellAt h (i * 2 + 1) (by omega)).trans c1⟩
theorem FRow.frozen (h : FRow w B g cap q) (j : Nat) : w.frozen? ⟨g, j, none⟩ = false := World.ownsRow.frozenAt h j
theorem FRow.lt (h : FRow w B g cap q) : B ≤ g ∧ g < w.heap.size := World.ownsRow.lt h g rfl
theorem FRow.keep (h : FRow w B g cap q) (hk : w'.heap[g]? = w.heap[g]?) : FRow w' B g cap q := rl_own_alone h fun g' hg => by
  have : g = g' := by simpa [Value.ownBlock] using hg
  subst this
  exact hk
theorem fc_set (q : List Fv) (i : Nat) (hi : i < q.length) (y : Fv) : ((((q.map fcCells).flatten).set (i * 2) (.int .i64 y.1.pred)).set (i * 2 + 1) y.2) = (((q.set i y).map fcCells).flatten) := by
  apply List.ext_getElem?
  intro t
  by_cases ht : t < q.length * 2
  · obtain ⟨x, hx, hx2⟩ := fc_at q t ht
    obtain ⟨z, hz, hz2⟩ := fc_at (q.set i y) t (by rw [List.length_set]; exact ht)
    rw [hz2]
    rw [List.getElem?_set] at hz
    rw [List.getElem?_set, List.getElem?_set, List.length_set, fc_length]
    by_cases hti : i = t / 2
    · rw [if_pos hti, if_pos (by omega)] at hz
      obtain rfl : y = z := by simpa using hz
      by_cases h0 : t % 2 = 0
      · have e1 : ¬ i * 2 + 1 = t := by omega
        have e2 : i * 2 = t := by omega
        rw [if_neg e1, if_pos e2, if_pos (by omega), h0]
        rfl
      · have h1 : t % 2 = 1 := by omega
        have e1 : i * 2 + 1 = t := by omega
        rw [if_pos e1, if_pos (by omega), h1]
        rfl
    · rw [if_neg hti, hx] at hz
      obtain rfl : x = z := by simpa using hz
      rw [if_neg (by omega), if_neg (by omega), hx2]
  · rw [List.getElem?_eq_none, List.getElem?_eq_none]
    · rw [fc_length, List.length_set]; omega
    · rw [List.length_set, List.length_set, fc_length]; omega
/-- A fact of the row is set. -/
theorem FRow.put (h : FRow w B g cap q) (i : Nat) (hi : i < q.length) (y : Fv) : FRow ((w.setCell ⟨g, i * 2, none⟩ (.int .i64 y.1.pred)).setCell ⟨g, i * 2 + 1, none⟩ y.2) B g cap (q.set i y) := by
  have h1 := (World.ownsRow.stored h (i * 2) (.int .i64 y.1.pred)).1
  have h2 := (World.ownsRow.stored h1 (i * 2 + 1) y.2).1
  unfold FRow
  rw [List.length_set, ← fc_set q i hi y]
  exact h2
end
end Go.Proofs.YtmfaodapofamfaaGreat
/- of RlSort -/
namespace Go.Proofs.YtmfaodapofamfaaGreat
open Go.Shelf Go.RowKit Go.Lib Go.Sort
/-- A fact whose numbers can be read. -/
def FvOk (w : World) (x : Fv) : Prop := IntsV w x.2 x.1.args ∧ FFit x.1
abbrev FvS (w : World) := { x : Fv // FvOk w x }
theorem fvOk_nil (w : World) : FvOk w (⟨0, []⟩, .slice none 0 0) := ⟨⟨none, 0, rfl, .inl rfl⟩, by show ([] : List Int).length ≤ _; decide⟩
theorem fv_lift {w : World} : ∀ {q : List Fv}, (∀ p, p ∈ q → FvOk w p) → ∃ Q : List (FvS w), Q.map (·.1) = q := by
  intro q
  induction q with
  | nil => intro _; exact ⟨[], rfl⟩
  | cons a r ih =>
    intro h
    obtain ⟨Q, hQ⟩ := ih (fun p hp => h p (by simp [hp]))
    exact ⟨⟨a, h a (by simp)⟩ :: Q, by simp [hQ]⟩
abbrev fvInh (w : World) : Inhabited (FvS w) := ⟨⟨_, fvOk_nil w⟩⟩
def fvEnc {w : World} (x : FvS w) : List Value := fcCells x.1
def fvCmp {w : World} (x y : FvS w) : Int := Rl.ord x.1.1 y.1.1
theorem fv_swo (w : World) : SWO (ltOf (fvCmp (w := w))) where
  irrefl x := by unfold ltOf fvCmp; rw [Rl.ord_self]; decide
  trans x y z h1 h2 := by
    unfold ltOf fvCmp at *
    simp only [decide_eq_true_eq] at *
    exact Rl.ord_trans h1 h2
  ntrans x y z h1 h2 := by
    unfold ltOf fvCmp at *
    simp only [decide_eq_false_iff_not] at *
    intro h3
    rcases Rl.lt_or x.1.1 y.1.1 with h4 | h4 | h4
    · exact h1 h4
    · rw [h4] at h3; exact h2 h3
    · exact h2 (Rl.ord_trans h4 h3)
theorem fv_one {w : World} (x : FvS w) : ∀ v ∈ fvEnc x, v.oneCell' = true := by
  intro v hv
  obtain ⟨⟨⟨p, a⟩, u⟩, h⟩ := x
  obtain ⟨⟨ao, cap, hu, _⟩, _⟩ := h
  have hu : u = .slice ao a.length cap := hu
  subst hu
  simp [fvEnc, fcCells] at hv
  rcases hv with rfl | rfl <;> rfl
theorem sortWorldK_block {α : Type} [Inhabited α] (enc : α → List Value) (k : Nat) (w : World) (g m : Nat) (d : Array α) (os : Array Obj) (i : Nat) (hi : i < w.heap.size) (hne : ¬ i = g) : (sortWorldK enc k w g 0 m d os).heap[i]? = w.heap[i]? := by
  unfold sortWorldK putRowK putRow mapBlock Sort.ahead grow
  show ((w.heap.modify g _) ++ os)[i]? = _
  rw [Array.getElem?_append_left (by simpa using hi), Array.getElem?_modify, if_neg (fun e => hne e.symm)]
theorem sortWorldK_size {α : Type} [Inhabited α] (enc : α → List Value) (k : Nat) (w : World) (g m : Nat) (d : Array α) (os : Array Obj) : w.heap.size ≤ (sortWorldK enc k w g 0 m d os).heap.size := by
  unfold sortWorldK putRowK putRow mapBlock Sort.ahead grow
  show _ ≤ ((w.heap.modify g _) ++ os).size
  simp
theorem cmp_lays {w0 w : World} {g : Nat} (hg : w0.heap.size ≤ g) (hlow : ∀ k, k < w0.heap.size → w.heap[k]? = w0.heap[k]?) (size : Nat) : @CmpLays (FvS w0) (fvInh w0) Tryz.prog 71 #[] fvEnc 2 fvCmp g 0 size w := by
  letI : Inhabited (FvS w0) := fvInh w0
  intro m os dk _ x y
  have hl : ∀ k, k < w0.heap.size → (sortWorldK (fvEnc (w := w0)) 2 w g 0 m dk os).heap[k]? = w0.heap[k]? := fun k hk => (sortWorldK_block _ _ _ _ _ _ _ k (Nat.lt_of_lt_of_le hk (rl_low_size hlow)) (by omega)).trans (hlow k hk)
  exact Order_any x.1.1 y.1.1 x.1.2 y.1.2 _ (rl_ints_low x.2.1 hl) (rl_ints_low y.2.1 hl) x.2.2 y.2.2
theorem holds_row {w0 w : World} {B g cap : Nat} {Q : List (FvS w0)} (h : FRow w B g cap (Q.map (·.1))) : @HoldsK (FvS w0) (fvInh w0) fvEnc 2 w g 0 Q.toArray := by
  letI : Inhabited (FvS w0) := fvInh w0
  intro t ht
  have ht2 : t < Q.length * 2 := by simpa using ht
  refine ⟨?_, by rw [Nat.zero_add]; exact h.frozen t⟩
  rw [Nat.zero_add]
  have hc := World.ownsRow.cellAt h t (by rw [List.length_map]; exact ht2)
  obtain ⟨x, hx, hx2⟩ := fc_at (Q.map (·.1)) t (by rw [List.length_map]; exact ht2)
  rw [hc, hx2]
  have h1 : t / 2 < Q.length := by omega
  rw [List.getElem?_map, List.getElem?_eq_getElem h1] at hx
  have hx3 : Q[t / 2].1 = x := by simpa using hx
  show (fcCells x)[t % 2]? = some ((flatK fvEnc 2 Q.toArray)[t]!)
  rw [get_flatK fvEnc 2 Q.toArray t (by simpa using ht2)]
  have h2 : (Q.toArray)[t / 2]! = Q[t / 2] := by simp [h1]
  rw [h2]
  show _ = some ((fcCells Q[t / 2].1)[t % 2]!)
  rw [hx3]
  have h3 : t % 2 < (fcCells x).length := by show t % 2 < 2; omega
  rw [List.getElem?_eq_getElem h3, getElem!_pos (fcCells x) (t % 2) h3]
theorem row_sorted {w0 w : World} {B g cap n : Nat} {Q : List (FvS w0)} {d : Array (FvS w0)} {os : Array Obj} (h : FRow w B g cap (Q.map (·.1))) (hd : d.size = Q.length) :
    FRow (@sortWorldK (FvS w0) (fvInh w0) fvEnc 2 w g 0 n d os) B g cap (d.toList.map (·.1)) := by
  letI : Inhabited (FvS w0) := fvInh w0
  have hg := h.lt
  obtain ⟨h1, h2⟩ := h
  rcases h2 with ⟨h2, _⟩ | ⟨g', cap', cur, hv, hb, hh, hc1, hc2, hc3, hc4⟩
  · cases h2
  · injection hv with e1 _ e3
    injection e1 with e1
    injection e1 with e1
    subst e1 e3
    have hl : (d.toList.map (·.1)).length = Q.length := by rw [List.length_map, Array.length_toList, hd]
    refine ⟨fc_length _, .inr ⟨g, cap, putCells id 0 (flatK fvEnc 2 d) cur, rfl, hb, ?_, by rw [hl]; simpa using hc1, hc2, by simpa [putCells] using hc3, ?_⟩⟩
    · unfold sortWorldK putRowK putRow mapBlock Sort.ahead grow
      show ((w.heap.modify g _) ++ os)[g]? = _
      rw [Array.getElem?_append_left (by simpa using hg.2), Array.getElem?_modify, if_pos rfl, hh]
      rfl
    · apply List.ext_getElem?
      intro t
      rw [List.getElem?_take, Array.getElem?_toList, hl]
      by_cases ht : t < Q.length * 2
      · rw [if_pos ht]
        have hq : (Q.map (·.1)).length = Q.length := List.length_map _
        have hcs : t < cur.size := by
          rw [hc3]
          have : Q.length ≤ cap := by simpa using hc1
          omega
        obtain ⟨x, hx, hx2⟩ := fc_at (d.toList.map (·.1)) t (by rw [hl]; exact ht)
        rw [hx2]
        unfold putCells
        rw [Array.getElem?_mapIdx, Array.getElem?_eq_getElem hcs, Option.map_some, if_pos (by rw [size_flatK, hd]; omega)]
        have h4 : t / 2 < d.size := by omega
        rw [List.getElem?_map, Array.getElem?_toList, Array.getElem?_eq_getElem h4] at hx
        have hx3 : d[t / 2].1 = x := by simpa using hx
        rw [Nat.sub_zero, get_flatK fvEnc 2 d t (by rw [hd]; exact ht), getElem!_pos d _ h4]
        show some ((fcCells d[t / 2].1)[t % 2]!) = _
        rw [hx3]
        have h3 : t % 2 < (fcCells x).length := by show t % 2 < 2; omega
        rw [List.getElem?_eq_getElem h3, getElem!_pos (fcCells x) (t % 2) h3]
      · rw [if_neg ht, List.getElem?_eq_none]
        rw [fc_length, hl]
        omega
theorem sort_any (w0 w : World) (B g cap : Nat) (q : List Fv) (h0 : w0.heap.size ≤ g) (hlow : ∀ k, k < w0.heap.size → w.heap[k]? = w0.heap[k]?) (hown : FRow w B g cap q) (hq : ∀ p, p ∈ q → FvOk w0 p) (hn : q.length < 4611686018427387904) :
    Calls Tryz.prog 109 #[.slice (some ⟨g, 0, none⟩) q.length cap, .func (.func 71) #[] #[]] w fun e w' => e = .returned (.tuple #[]) ∧ ∃ q', q'.Perm q ∧ (q'.map (·.1)).Pairwise (fun a b => ¬ Rl.Lt b a) ∧ FRow w' B g cap q' ∧ w.grownBy w' (some g) := by
  obtain ⟨Q, rfl⟩ := fv_lift hq
  letI : Inhabited (FvS w0) := fvInh w0
  have eg : ∀ args w, (callFunc 71 args).run Tryz.prog w = .ok (.enter 71 args) w := enters_of Tryz.func71 (by kernel_rfl) rfl
  have hsz : Q.toArray.size = Q.length := by simp
  have hcon := AnyQ.slices_SortFunc Tryz.sortF 2 Tryz.isAgg84 Tryz.sizeOf84 fvEnc (fun _ => rfl) fv_one fvCmp (fv_swo w0) 71 #[] g 0 cap Q.toArray w eg (cmp_lays h0 hlow _) (holds_row hown) hown.lt.2 (by rw [hsz]; simpa using hn)
  rw [hsz] at hcon
  change Calls Tryz.prog 109 _ _ _ at hcon
  rw [List.length_map]
  refine hcon.mono ?_
  rintro e w' ⟨rfl, d', n, os, hp, hs, rfl⟩
  obtain ⟨p1, p2, p3⟩ := hp
  have hds : d'.size = Q.length := by rw [p1]; simp
  have e1 : d'.extract 0 Q.length = d' := by rw [← hds]; simp
  have e2 : Q.toArray.extract 0 Q.length = Q.toArray := by simp
  rw [e1, e2] at p3
  refine ⟨rfl, d'.toList.map (·.1), ?_, ?_, row_sorted hown hds, rfl, rfl, rfl, sortWorldK_size _ _ _ _ _ _ _, fun k hk hne => sortWorldK_block _ _ _ _ _ _ _ k hk (fun e => hne (by rw [e]))⟩
  · exact p3.map _
  · rw [List.pairwise_iff_getElem]
    intro i j hi hj hij
    have hi2 : i < d'.size := by simpa using hi
    have hj2 : j < d'.size := by simpa using hj
    have := hs i j (Nat.zero_le _) hij (by omega)
    rw [getElem!_pos d' j hj2, getElem!_pos d' i hi2] at this
    unfold ltOf fvCmp at this
    simp only [decide_eq_false_iff_not] at this
    simpa [Rl.Lt] using this
end Go.Proofs.YtmfaodapofamfaaGreat
/- of RlDd -/
namespace Go.Proofs.YtmfaodapofamfaaGreat
namespace Rl
def ddGo (p : Fc) : List Fv → List Fv
  | [] => []
  | x :: r => if ord x.1 p = 0 then ddGo x.1 r else x :: ddGo x.1 r
def dd : List Fv → List Fv
  | [] => []
  | x :: r => x :: ddGo x.1 r
def lastF (p : Fc) : List Fv → Fc
  | [] => p
  | x :: r => lastF x.1 r
theorem ddGo_snoc : ∀ (l : List Fv) (p : Fc) (x : Fv), ddGo p (l ++ [x]) = if ord x.1 (lastF p l) = 0 then ddGo p l else ddGo p l ++ [x] := by
  intro l
  induction l with
  | nil => intro p x; by_cases h : ord x.1 p = 0 <;> simp [ddGo, lastF, h]
  | cons y r ih =>
    intro p x
    have hi := ih y.1 x
    by_cases h : ord y.1 p = 0
    · by_cases h2 : ord x.1 (lastF y.1 r) = 0
      · rw [if_pos h2] at hi
        simp [ddGo, lastF, h, h2, hi]
      · rw [if_neg h2] at hi
        simp [ddGo, lastF, h, h2, hi]
    · by_cases h2 : ord x.1 (lastF y.1 r) = 0
      · rw [if_pos h2] at hi
        simp [ddGo, lastF, h, h2, hi]
      · rw [if_neg h2] at hi
        simp [ddGo, lastF, h, h2, hi]
theorem lastF_get : ∀ (l : List Fv) (p : Fc) (y : Fv), l.getLast? = some y → lastF p l = y.1 := by
  intro l
  induction l with
  | nil => intro p y h; cases h
  | cons x r ih =>
    intro p y h
    cases r with
    | nil =>
      simp at h
      rw [← h]
      rfl
    | cons z r =>
      rw [List.getLast?_cons_cons] at h
      exact ih x.1 y h
theorem dd_snoc (l : List Fv) (x y : Fv) (h : l.getLast? = some y) : dd (l ++ [x]) = if ord x.1 y.1 = 0 then dd l else dd l ++ [x] := by
  cases l with
  | nil => cases h
  | cons a r =>
    simp only [List.cons_append, dd, ddGo_snoc]
    have hl : lastF a.1 r = y.1 := by
      cases r with
      | nil => simp at h; rw [← h]; rfl
      | cons b r =>
        rw [List.getLast?_cons_cons] at h
        exact lastF_get (b :: r) a.1 y h
    rw [hl]
    by_cases h2 : ord x.1 y.1 = 0
    · rw [if_pos h2, if_pos h2]
    · rw [if_neg h2, if_neg h2]
theorem dd_take (q : List Fv) (m : Nat) (x y : Fv) (h1 : 1 ≤ m) (hx : q[m]? = some x) (hy : q[m - 1]? = some y) : dd (q.take (m + 1)) = if ord x.1 y.1 = 0 then dd (q.take m) else dd (q.take m) ++ [x] := by
  rw [List.take_add_one, hx]
  refine dd_snoc (q.take m) x y ?_
  have hm : m ≤ q.length := by
    rcases Nat.lt_or_ge m q.length with h | h
    · omega
    · rw [List.getElem?_eq_none h] at hx; cases hx
  rw [List.getLast?_eq_getElem?, List.length_take, Nat.min_eq_left hm, List.getElem?_take, if_pos (by omega)]
  exact hy
theorem ddGo_sub : ∀ (l : List Fv) (p : Fc) (x : Fv), x ∈ ddGo p l → x ∈ l := by
  intro l
  induction l with
  | nil => intro p x h; exact h
  | cons y r ih =>
    intro p x h
    simp only [ddGo] at h
    split at h
    · exact List.mem_cons_of_mem _ (ih _ _ h)
    · rcases List.mem_cons.mp h with rfl | h
      · simp
      · exact List.mem_cons_of_mem _ (ih _ _ h)
theorem dd_sub (l : List Fv) (x : Fv) (h : x ∈ dd l) : x ∈ l := by
  cases l with
  | nil => exact h
  | cons a r =>
    rcases List.mem_cons.mp h with rfl | h
    · simp
    · exact List.mem_cons_of_mem _ (ddGo_sub _ _ _ h)
theorem dd_length (l : List Fv) : (dd l).length ≤ l.length := by
  have h : ∀ (l : List Fv) (p : Fc), (ddGo p l).length ≤ l.length := by
    intro l
    induction l with
    | nil => intro p; exact Nat.le_refl _
    | cons y r ih =>
      intro p
      simp only [ddGo]
      split
      · have := ih y.1; simp; omega
      · have := ih y.1; simp; omega
  cases l with
  | nil => exact Nat.le_refl _
  | cons a r => simp only [dd, List.length_cons]; have := h r a.1; omega
theorem ddGo_set : ∀ (l : List Fv) (p : Fc), (∀ x, x ∈ l → ¬ Lt x.1 p) → (l.map (·.1)).Pairwise (fun a b => ¬ Lt b a) →
    Up ((ddGo p l).map (·.1)) ∧ (∀ x, x ∈ (ddGo p l).map (·.1) → Lt p x) ∧ ∀ x, x ∈ l.map (·.1) → x = p ∨ x ∈ (ddGo p l).map (·.1) := by
  intro l
  induction l with
  | nil => intro p _ _; exact ⟨List.Pairwise.nil, fun x h => by simp [ddGo] at h, fun x h => by simp at h⟩
  | cons y r ih =>
    intro p hp hs
    rw [List.map_cons, List.pairwise_cons] at hs
    obtain ⟨i1, i2, i3⟩ := ih y.1 (fun x hx => hs.1 x.1 (List.mem_map.mpr ⟨x, hx, rfl⟩)) hs.2
    simp only [ddGo]
    by_cases h : ord y.1 p = 0
    · rw [if_pos h]
      rw [ord_zero] at h
      refine ⟨i1, fun x hx => by rw [← h]; exact i2 x hx, fun x hx => ?_⟩
      rw [List.map_cons] at hx
      rcases List.mem_cons.mp hx with hx | hx
      · exact .inl (hx.trans h)
      · rcases i3 x hx with h2 | h2
        · exact .inl (h2.trans h)
        · exact .inr h2
    · rw [if_neg h]
      have hlt : Lt p y.1 := by
        rcases lt_or p y.1 with h2 | h2 | h2
        · exact h2
        · exact absurd (ord_zero.mpr h2.symm) h
        · exact absurd h2 (hp y (by simp))
      rw [List.map_cons]
      refine ⟨List.pairwise_cons.mpr ⟨i2, i1⟩, fun x hx => ?_, fun x hx => ?_⟩
      · rcases List.mem_cons.mp hx with rfl | hx
        · exact hlt
        · exact hlt.trans (i2 x hx)
      · rw [List.map_cons] at hx
        rcases List.mem_cons.mp hx with hx | hx
        · exact .inr (by simp [hx])
        · rcases i3 x hx with h2 | h2
          · exact .inr (by simp [h2])
          · exact .inr (List.mem_cons_of_mem _ h2)
theorem dd_set (l : List Fv) (h : (l.map (·.1)).Pairwise (fun a b => ¬ Lt b a)) : IsSet ((dd l).map (·.1)) (l.map (·.1)) := by
  cases l with
  | nil => exact ⟨List.Pairwise.nil, fun x => Iff.rfl⟩
  | cons a r =>
    rw [List.map_cons, List.pairwise_cons] at h
    obtain ⟨i1, i2, i3⟩ := ddGo_set r a.1 (fun x hx => h.1 x.1 (List.mem_map.mpr ⟨x, hx, rfl⟩)) h.2
    refine ⟨?_, fun x => ⟨fun hx => ?_, fun hx => ?_⟩⟩
    · show Up (a.1 :: (ddGo a.1 r).map (·.1))
      exact List.pairwise_cons.mpr ⟨i2, i1⟩
    · obtain ⟨y, hy, rfl⟩ := List.mem_map.mp hx
      exact List.mem_map.mpr ⟨y, dd_sub _ _ hy, rfl⟩
    · rw [List.map_cons] at hx
      show x ∈ a.1 :: (ddGo a.1 r).map (·.1)
      rcases List.mem_cons.mp hx with hx | hx
      · simp [hx]
      · rcases i3 x hx with h2 | h2
        · simp [h2]
        · exact List.mem_cons_of_mem _ h2
end Rl
end Go.Proofs.YtmfaodapofamfaaGreat
/- of RlCompact -/
namespace Go.Proofs.YtmfaodapofamfaaGreat
open Go.RowKit Go.Lib
theorem own_sets {B e k n g cap : Nat} : ∀ (vs : List Value) (o : Nat) (w : World) (xs : List Value), w.ownsRow B e k (.slice (some ⟨g, 0, none⟩) n cap) n xs →
    ∃ ys, ys.length = xs.length ∧ (∀ j, j < o → ys[j]? = xs[j]?) ∧ (w.setCells g o vs).ownsRow B e k (.slice (some ⟨g, 0, none⟩) n cap) n ys ∧ w.grownBy (w.setCells g o vs) (some g) := by
  intro vs
  induction vs with
  | nil => intro o w xs h; exact ⟨xs, rfl, fun _ _ => rfl, h, rfl, rfl, rfl, Nat.le_refl _, fun _ _ _ => rfl⟩
  | cons v r ih =>
    intro o w xs h
    obtain ⟨h1, h2⟩ := World.ownsRow.stored h o v
    obtain ⟨ys, a1, a2, a3, a4⟩ := ih (o + 1) _ _ h1
    refine ⟨ys, by rw [a1, List.length_set], fun j hj => ?_, a3, ⟨a4.os.trans h2.os, a4.tape.trans h2.tape, a4.output.trans h2.output, Nat.le_trans h2.size a4.size, fun i hi hne => (a4.block i (Nat.lt_of_lt_of_le hi h2.size) hne).trans (h2.block i hi hne)⟩⟩
    rw [a2 j (by omega), List.getElem?_set, if_neg (by omega)]
theorem row_cut {w : World} {B g cap n : Nat} {xs : List Value} {q : List Fv} (h : w.ownsRow B 84 2 (.slice (some ⟨g, 0, none⟩) n cap) n xs) (hn : q.length ≤ n) (hq : ∀ j, j < q.length * 2 → xs[j]? = ((q.map fcCells).flatten)[j]?) : FRow w B g cap q := by
  obtain ⟨h1, h2⟩ := h
  rcases h2 with ⟨h2, _⟩ | ⟨g', cap', cur, hv, hb, hh, hc1, hc2, hc3, hc4⟩
  · cases h2
  · injection hv with e1 _ e3
    injection e1 with e1
    injection e1 with e1
    subst e1 e3
    refine ⟨fc_length _, .inr ⟨g, cap, cur, rfl, hb, hh, by omega, hc2, hc3, ?_⟩⟩
    apply List.ext_getElem?
    intro t
    rw [List.getElem?_take]
    by_cases ht : t < q.length * 2
    · rw [if_pos ht, ← hq t ht, ← hc4, List.getElem?_take, if_pos (by omega)]
    · rw [if_neg ht, List.getElem?_eq_none]
      rw [fc_length]
      omega
/-- What is behind the first ones is cleared. -/
theorem clear_row (w : World) (B g cap : Nat) (q : List Fv) (k : Nat) (h : FRow w B g cap q) (hk : k < q.length) :
    ∃ w', (∀ ty, (Builtin.clear_ #[28] ty #[.slice (some ⟨g, k * 2, none⟩) (q.length - k) (cap - k)]).run Tryz.prog w = .ok (.tuple #[]) w') ∧ FRow w' B g cap (q.take k) ∧ w.grownBy w' (some g) := by
  obtain ⟨m, hm⟩ : ∃ m, q.length - k = m + 1 := ⟨q.length - k - 1, by omega⟩
  obtain ⟨vs, hvs⟩ : ∃ vs, vs = (Builtin.zeroCells (Value.agg #[.int .i64 0, .slice none 0 0]).cells (m + 1)).toList := ⟨_, rfl⟩
  have hlen : vs.length = (m + 1) * 2 := by rw [hvs]; simp [Builtin.zeroCells, Value.cells]
  have hone : ∀ v ∈ vs, v.oneCell' = true := by
    intro v hv
    rw [hvs] at hv
    simp [Builtin.zeroCells, Value.cells] at hv
    obtain ⟨a, ha, rfl⟩ := hv
    rcases Nat.mod_two_eq_zero_or_one a with h2 | h2
    · simp [h2]; rfl
    · simp [h2]; rfl
  have hst := run_storeCells_cells (P := Tryz.prog) g (k * 2) vs 0 w (by
    intro j hj
    rw [hlen] at hj
    have hc := World.ownsRow.cellAt h (k * 2 + j) (by omega)
    obtain ⟨x, hx, hx2⟩ := fc_at q (k * 2 + j) (by omega)
    rw [Nat.add_zero, hc, hx2, List.getElem?_eq_getElem (show (k * 2 + j) % 2 < (fcCells x).length by show _ < 2; omega)]
    rfl) (by intro j _; exact h.frozen _) hone
  simp only [Nat.add_zero] at hst
  obtain ⟨ys, a1, a2, a3, a4⟩ := own_sets vs (k * 2) w _ h
  refine ⟨w.setCells g (k * 2) vs, ?_, row_cut (q := q.take k) a3 (by rw [List.length_take]; omega) (fun j hj => ?_), a4⟩
  · intro ty
    have hz : ∀ w, (zeroValue 84).run Tryz.prog w = .ok (.agg #[.int .i64 0, .slice none 0 0]) w := fun w => by kernel_rfl
    rw [hm]
    simp [Builtin.clear_, run_underlying Tryz.underlying28, hz, ← hvs, hst]
  · rw [List.length_take] at hj
    rw [a2 j (by omega)]
    obtain ⟨x, hx, hx2⟩ := fc_at q j (by omega)
    obtain ⟨z, hz, hz2⟩ := fc_at (q.take k) j (by rw [List.length_take]; omega)
    rw [List.getElem?_take, if_pos (by omega), hx] at hz
    obtain rfl : x = z := by simpa using hz
    rw [hx2, hz2]
/-- While facts are compacted: the row holds R. -/
structure CI (w0 w : World) (B g cap : Nat) (R : List Fv) (wr : World) : Prop where
  row : FRow wr B g cap R
  gr : w.grownBy wr (some g)
  low : ∀ k, k < w0.heap.size → wr.heap[k]? = w0.heap[k]?
theorem CI.below {w0 w wr wx : World} {B g cap : Nat} {R : List Fv} (h : CI w0 w B g cap R wr) (hb : Below wr.heap.size wr wx) : CI w0 w B g cap R wx :=
  ⟨h.row.keep (hb.block g h.row.lt.2), grownBy_trans h.gr (grownBy_of_below hb _), fun k hk => (hb.block k (Nat.lt_of_lt_of_le hk (rl_low_size h.low))).trans (h.low k hk)⟩
theorem CI.put {w0 w wr : World} {B g cap : Nat} {R : List Fv} (h : CI w0 w B g cap R wr) (hg : w0.heap.size ≤ g) (i : Nat) (hi : i < R.length) (y : Fv) : CI w0 w B g cap (R.set i y) ((wr.setCell ⟨g, i * 2, none⟩ (.int .i64 y.1.pred)).setCell ⟨g, i * 2 + 1, none⟩ y.2) := by
  have hgr : wr.grownBy ((wr.setCell ⟨g, i * 2, none⟩ (.int .i64 y.1.pred)).setCell ⟨g, i * 2 + 1, none⟩ y.2) (some g) := grownBy_trans (grownBy_set _ _) (grownBy_set _ _)
  exact ⟨h.row.put i hi y, grownBy_trans h.gr hgr, fun k hk => (hgr.block k (Nat.lt_of_lt_of_le hk (rl_low_size h.low)) (by intro e; injection e; omega)).trans (h.low k hk)⟩
theorem get_lt {q : List Fv} {i : Nat} (h : i < q.length) : ∃ x, q[i]? = some x ∧ x ∈ q := ⟨q[i], List.getElem?_eq_getElem h, List.getElem_mem h⟩
set_option maxRecDepth 100000 in
set_option maxHeartbeats 2000000 in
theorem compact_any (w0 w : World) (B g cap : Nat) (q : List Fv) (h0 : w0.heap.size ≤ g) (hlow : ∀ k, k < w0.heap.size → w.heap[k]? = w0.heap[k]?) (hown : FRow w B g cap q) (hq : ∀ p, p ∈ q → FvOk w0 p) (hn : q.length < 4611686018427387904) :
    Calls Tryz.prog 110 #[.slice (some ⟨g, 0, none⟩) q.length cap, .func (.func 111) #[] #[]] w fun e w' => e = .returned (.slice (some ⟨g, 0, none⟩) (Rl.dd q).length cap) ∧ FRow w' B g cap (Rl.dd q) ∧ w.grownBy w' (some g) := by
  have he : ∀ args w, (callFunc 111 args).run Tryz.prog w = .ok (.enter 111 args) w := enters_of Tryz.func111 (by kernel_rfl) rfl
  have hC : CI w0 w B g cap q w := ⟨hown, ⟨rfl, rfl, rfl, Nat.le_refl _, fun _ _ _ => rfl⟩, hlow⟩
  have HQ : Hid (∀ p, p ∈ q → FvOk w0 p) := hq
  have hcap : q.length ≤ cap := by
    obtain ⟨_, h2⟩ := hown
    rcases h2 with ⟨h2, _⟩ | ⟨g', cap', cur, hv, _, _, hc1, _⟩
    · cases h2
    · injection hv with _ _ e3
      omega
  clear hown hlow hq
  by_cases h2 : q.length < 2
  · have HD : Hid (Rl.dd q = q) := by
      show _ = _
      match q, h2 with
      | [], _ => rfl
      | [x], _ => rfl
    go_enter Tryz.func110, Tryz.ntmps110
    go_wp2_with fail
    go_ret
    exact ⟨by rw [HD.out]; rfl, by rw [HD.out]; exact hC.row, hC.gr⟩
  go_enter Tryz.func110, Tryz.ntmps110
  go_wp2_with fail
  go_loopw [5] (fun i wr => ∃ k : Nat, 1 ≤ k ∧ k ≤ q.length ∧ i = .int .i64 k ∧ CI w0 w B g cap q wr ∧ Rl.dd (q.take k) = q.take k) (fun i _ => q.length - (intOf i).toNat)
  case atStart => exact ⟨1, Nat.le_refl _, by omega, rfl, hC, by
    match q, h2 with
    | x :: r, _ => rfl
    | [], h => exact absurd (show ([] : List Fv).length < 2 by decide) h⟩
  case round =>
    clear hC
    obtain ⟨wo, hwo⟩ : ∃ wo, wo = wr := ⟨_, rfl⟩
    subst hwo
    obtain ⟨k, hk1, hk, rfl, hI, hdd⟩ := hrel
    have HDD : Hid _ := hdd
    clear hdd
    obtain ⟨k1, hk1e⟩ : ∃ k1, k1 + 1 = k := ⟨k - 1, by omega⟩
    have hwr : IntKind.i64.wrap ((k : Int) - 1) = (k1 : Int) := by
      have h9 : (k : Int) - 1 = (k1 : Int) := by omega
      rw [h9]
      simp [IntKind.wrap, IntKind.bits, IntKind.signed]
      omega
    by_cases hlt : k < q.length
    · obtain ⟨x, hx, hxm⟩ := get_lt hlt
      obtain ⟨y, hy, hym⟩ := get_lt (q := q) (i := k1) (by omega)
      obtain ⟨c0, c1⟩ := hI.row.cell hx
      obtain ⟨d0, d1⟩ := hI.row.cell hy
      have HX : Hid (q[k]? = some x ∧ q[k1]? = some y) := ⟨hx, hy⟩
      have HN : Hid (∀ z, Gr wo z → Calls Tryz.prog 111 #[fcVal x.1.pred x.2, fcVal y.1.pred y.2] z fun e w' => e = .returned (.bool (Rl.ord x.1 y.1 == 0)) ∧ Gr wo w' ∧ w'.cell? ⟨g, k * 2, none⟩ = some (.int .i64 x.1.pred) ∧ w'.cell? ⟨g, k * 2 + 1, none⟩ = some x.2 ∧ w'.cell? ⟨g, k1 * 2, none⟩ = some (.int .i64 y.1.pred) ∧ w'.cell? ⟨g, k1 * 2 + 1, none⟩ = some y.2) := by
        intro z hz
        have hl : ∀ j, j < w0.heap.size → z.heap[j]? = w0.heap[j]? := (hI.below hz.below).low
        refine (same_any x.1 y.1 x.2 y.2 z (rl_ints_low (HQ.out x hxm).1 hl) (rl_ints_low (HQ.out y hym).1 hl) (HQ.out x hxm).2 (HQ.out y hym).2).mono ?_
        rintro e w' ⟨h1, h2⟩
        have h3 := hz.trans h2
        exact ⟨h1, h3, cell_below h3.below c0, cell_below h3.below c1, cell_below h3.below d0, cell_below h3.below d1⟩
      obtain ⟨xa, xn, xc, hxv⟩ : ∃ a n c, x.2 = .slice a n c := by
        obtain ⟨⟨a, c, h, _⟩, _⟩ := HQ.out x hxm
        exact ⟨a, _, c, h⟩
      obtain ⟨ya, yn, yc, hyv⟩ : ∃ a n c, y.2 = .slice a n c := by
        obtain ⟨⟨a, c, h, _⟩, _⟩ := HQ.out y hym
        exact ⟨a, _, c, h⟩
      have HY : Hid (y = (y.1, y.2)) := rfl
      have HXV : Hid (x.2 = .slice xa xn xc ∧ y.2 = .slice ya yn yc) := ⟨hxv, hyv⟩
      rw [hxv] at c1
      rw [hyv] at d1
      rw [hxv, hyv] at HN
      clear hx hy hxm hym hxv hyv
      have HO : Hid (∃ o, o = Rl.ord x.1 y.1) := ⟨_, rfl⟩
      obtain ⟨o, ho⟩ := HO.out
      rw [← ho] at HN
      have HOO : Hid (o = Rl.ord x.1 y.1) := ho
      clear ho HO
      generalize hxp : x.1.pred = xp at *
      generalize hyp : y.1.pred = yp at *
      have HP : Hid (x.1.pred = xp ∧ y.1.pred = yp) := ⟨hxp, hyp⟩
      clear hxp hyp
      have hk1' : k1 < q.length := by omega
      have hk1a : (0 : Int) ≤ (k1 : Int) := by omega
      have hk1b : (k1 : Int) < (q.length : Int) := by omega
      have HK1 : Hid (k1 + 1 = k) := hk1e
      clear hk1e
      go_upto_region 6 with fail
      have HGA : ∀ a b o, Gr a b → Gr a (b.alloc o) := fun _ _ o h => h.alloc o
      have HGD : ∀ a b, Gr a b → Gr a b.drew := fun _ _ h => h.drew
      have HGR : Gr wo wo := Gr.refl wo
      go_region_held3 (fun yy => yy.cell? ⟨g, k * 2, none⟩ = some (.int .i64 xp) ∧ yy.cell? ⟨g, k * 2 + 1, none⟩ = some (.slice xa xn xc) ∧ yy.cell? ⟨g, k1 * 2, none⟩ = some (.int .i64 yp) ∧ yy.cell? ⟨g, k1 * 2 + 1, none⟩ = some (.slice ya yn yc) ∧ Gr wo yy) (go_keep) (
        (go_at_call 111; refine Calls.mono (HN.out _ ?_) ?_; (simp [*]); rintro e z1 ⟨rfl, hz1, hz2, hz3, hz4, hz5⟩))
      have hI1 := hI.below hz1.below
      clear HGA HGD HGR hz1 hz2 hz3 hz4 hz5 c0 c1 d0 d1 HN
      cases ho : (o == 0)
      · have HD2 : Hid (Rl.dd (q.take (k + 1)) = q.take (k + 1)) := by
          show _ = _
          rw [Rl.dd_take q k x y hk1 HX.out.1 (by rw [show k - 1 = k1 by have := HK1.out; omega]; exact HX.out.2), if_neg (by rw [← HOO.out]; simpa using ho), HDD.out, List.take_add_one, HX.out.1]
          rfl
        clear hI
        go_wp2_with fail
        go_roundw
        case rel => exact ⟨k + 1, by omega, by omega, by go_num, hI1, HD2.out⟩
        case measure => simp [intOf]; omega
      · have HD2 : Hid (q.take k = Rl.dd (q.take (k + 1))) := by
          show _ = _
          rw [Rl.dd_take q k x y hk1 HX.out.1 (by rw [show k - 1 = k1 by have := HK1.out; omega]; exact HX.out.2), if_pos (by rw [← HOO.out]; simpa using ho), HDD.out]
        clear hI HDD HX HP HOO HXV HY hwr
        go_wp2_with fail
        go_loopw [5, 7] (fun i5 i7 wr => ∃ (kk k2 : Nat) (R : List Fv), i5 = .int .i64 kk ∧ i7 = .int .i64 k2 ∧ 1 ≤ k2 ∧ k + k2 ≤ q.length ∧ kk < k + k2 ∧ CI w0 w B g cap R wr ∧ R.length = q.length ∧ R.take kk = Rl.dd (q.take (k + k2)) ∧ ∀ j, k + k2 ≤ j + 1 → R[j]? = q[j]?) (fun _ i7 _ => q.length - (k + (intOf i7).toNat))
        case atStart => exact ⟨k, 1, q, rfl, rfl, Nat.le_refl _, by omega, by omega, hI1, rfl, HD2.out, fun _ _ => rfl⟩
        case round =>
          clear hI1
          obtain ⟨wp, hwp⟩ : ∃ wp, wp = wr := ⟨_, rfl⟩
          subst hwp
          obtain ⟨kk, k2, R, rfl, rfl, hk2, hm, hkk, hI, hRl, hRt, hRd⟩ := hrel
          have HRT : Hid _ := hRt
          have HRD : Hid _ := hRd
          have HRL : Hid (R.length = q.length) := hRl
          clear hRt hRd hRl
          by_cases hlt2 : k + k2 < q.length
          · obtain ⟨k3, hk3e⟩ : ∃ k3, k3 + 1 = k2 := ⟨k2 - 1, by omega⟩
            have hwr2 : IntKind.i64.wrap ((k2 : Int) - 1) = (k3 : Int) := by
              have h9 : (k2 : Int) - 1 = (k3 : Int) := by omega
              rw [h9]
              simp [IntKind.wrap, IntKind.bits, IntKind.signed]
              omega
            obtain ⟨x, hx, hxm⟩ := get_lt hlt2
            obtain ⟨y, hy, hym⟩ := get_lt (q := q) (i := k + k3) (by omega)
            obtain ⟨c0, c1⟩ := hI.row.cell ((HRD.out (k + k2) (by omega)).trans hx)
            obtain ⟨d0, d1⟩ := hI.row.cell ((HRD.out (k + k3) (by omega)).trans hy)
            rw [show (k + k2) * 2 = k * 2 + k2 * 2 by omega] at c0 c1
            rw [show (k + k3) * 2 = k * 2 + k3 * 2 by omega] at d0 d1
            have HX : Hid (q[k + k2]? = some x ∧ q[k + k3]? = some y) := ⟨hx, hy⟩
            have HN : Hid (∀ z, Gr wp z → Calls Tryz.prog 111 #[fcVal x.1.pred x.2, fcVal y.1.pred y.2] z fun e w' => e = .returned (.bool (Rl.ord x.1 y.1 == 0)) ∧ Gr wp w' ∧ w'.cell? ⟨g, k * 2 + k2 * 2, none⟩ = some (.int .i64 x.1.pred) ∧ w'.cell? ⟨g, k * 2 + k2 * 2 + 1, none⟩ = some x.2 ∧ w'.cell? ⟨g, k * 2 + k3 * 2, none⟩ = some (.int .i64 y.1.pred) ∧ w'.cell? ⟨g, k * 2 + k3 * 2 + 1, none⟩ = some y.2) := by
              intro z hz
              have hl : ∀ j, j < w0.heap.size → z.heap[j]? = w0.heap[j]? := (hI.below hz.below).low
              refine (same_any x.1 y.1 x.2 y.2 z (rl_ints_low (HQ.out x hxm).1 hl) (rl_ints_low (HQ.out y hym).1 hl) (HQ.out x hxm).2 (HQ.out y hym).2).mono ?_
              rintro e w' ⟨h1, h2⟩
              have h3 := hz.trans h2
              exact ⟨h1, h3, cell_below h3.below c0, cell_below h3.below c1, cell_below h3.below d0, cell_below h3.below d1⟩
            obtain ⟨xa, xn, xc, hxv⟩ : ∃ a n c, x.2 = .slice a n c := by
              obtain ⟨⟨a, c, h, _⟩, _⟩ := HQ.out x hxm
              exact ⟨a, _, c, h⟩
            obtain ⟨ya, yn, yc, hyv⟩ : ∃ a n c, y.2 = .slice a n c := by
              obtain ⟨⟨a, c, h, _⟩, _⟩ := HQ.out y hym
              exact ⟨a, _, c, h⟩
            have HXV : Hid (x.2 = .slice xa xn xc) := hxv
            rw [hxv] at c1
            rw [hyv] at d1
            rw [hxv, hyv] at HN
            clear hx hy hxm hym hxv hyv
            have HO : Hid (∃ o, o = Rl.ord x.1 y.1) := ⟨_, rfl⟩
            obtain ⟨o2, ho2⟩ := HO.out
            rw [← ho2] at HN
            have HOO : Hid (o2 = Rl.ord x.1 y.1) := ho2
            clear ho2 HO
            generalize hxp : x.1.pred = xp at *
            generalize hyp : y.1.pred = yp at *
            have HP : Hid (x.1.pred = xp) := hxp
            clear hxp hyp
            have hk3' : k3 < q.length - k := by omega
            have hk3a : (0 : Int) ≤ (k3 : Int) := by omega
            have hk3b : (k3 : Int) < ((q.length - k : Nat) : Int) := by omega
            have hk2b : (k2 : Int) < ((q.length - k : Nat) : Int) := by omega
            have HK3 : Hid (k3 + 1 = k2) := hk3e
            clear hk3e
            go_upto_region 11 with fail
            have HGA : ∀ a b o, Gr a b → Gr a (b.alloc o) := fun _ _ o h => h.alloc o
            have HGD : ∀ a b, Gr a b → Gr a b.drew := fun _ _ h => h.drew
            have HGR : Gr wp wp := Gr.refl wp
            go_region_held3 (fun yy => yy.cell? ⟨g, k * 2 + k2 * 2, none⟩ = some (.int .i64 xp) ∧ yy.cell? ⟨g, k * 2 + k2 * 2 + 1, none⟩ = some (.slice xa xn xc) ∧ yy.cell? ⟨g, k * 2 + k3 * 2, none⟩ = some (.int .i64 yp) ∧ yy.cell? ⟨g, k * 2 + k3 * 2 + 1, none⟩ = some (.slice ya yn yc) ∧ Gr wp yy) (go_keep) (
              (go_at_call 111; refine Calls.mono (HN.out _ ?_) ?_; (simp [*]); rintro e z1 ⟨rfl, hz1, hz2, hz3, hz4, hz5⟩))
            have hI1 := hI.below hz1.below
            clear HGA HGD HGR hz1 hz4 hz5 c0 c1 d0 d1 HN hI
            have HDT : Hid (Rl.dd (q.take (k + k2 + 1)) = if Rl.ord x.1 y.1 = 0 then Rl.dd (q.take (k + k2)) else Rl.dd (q.take (k + k2)) ++ [x]) := Rl.dd_take q (k + k2) x y (by omega) HX.out.1 (by rw [show k + k2 - 1 = k + k3 by have := HK3.out; omega]; exact HX.out.2)
            cases ho2 : (o2 == 0)
            · have HT2 : Hid ((R.set kk x).take (kk + 1) = Rl.dd (q.take (k + (k2 + 1)))) := by
                show _ = _
                rw [← Nat.add_assoc, HDT.out, if_neg (by rw [← HOO.out]; simpa using ho2), ← HRT.out, List.take_add_one, List.take_set_of_le (Nat.le_refl _), List.getElem?_set, if_pos rfl, if_pos (by rw [HRL.out]; omega)]
                rfl
              have HD2 : Hid (∀ j, k + (k2 + 1) ≤ j + 1 → (R.set kk x)[j]? = q[j]?) := fun j hj => by
                rw [List.getElem?_set, if_neg (by omega)]
                exact HRD.out j (by omega)
              have hput := hI1.put h0 kk (by rw [HRL.out]; omega) x
              rw [HP.out, HXV.out] at hput
              obtain ⟨r, hr, _⟩ := get_lt (q := R) (i := kk) (by rw [HRL.out]; omega)
              obtain ⟨r0, r1⟩ := hI1.row.cell hr
              have rf0 := hI1.row.frozen (kk * 2)
              have rf1 := hI1.row.frozen (kk * 2 + 1)
              have hkq : kk < q.length := by omega
              clear HDT hI1 HRT HRD hr
              go_wp2_with fail
              go_roundw
              case rel => exact ⟨kk + 1, k2 + 1, R.set kk x, by go_num, by go_num, by omega, by omega, by omega, hput, by rw [List.length_set]; exact HRL.out, HT2.out, HD2.out⟩
              case measure => simp [intOf]; omega
            · have HT2 : Hid (R.take kk = Rl.dd (q.take (k + (k2 + 1)))) := by
                show _ = _
                rw [← Nat.add_assoc, HDT.out, if_pos (by rw [← HOO.out]; simpa using ho2), HRT.out]
              have HD2 : Hid (∀ j, k + (k2 + 1) ≤ j + 1 → R[j]? = q[j]?) := fun j hj => HRD.out j (by omega)
              clear HDT HRT HRD
              go_wp2_with fail
              go_roundw
              case rel => exact ⟨kk, k2 + 1, R, by go_num, by go_num, by omega, by omega, by omega, hI1, HRL.out, HT2.out, HD2.out⟩
              case measure => simp [intOf]; omega
          · have hme : k + k2 = q.length := by omega
            obtain ⟨w9, hcl, hrow, hgr⟩ := clear_row wp B g cap R kk hI.row (by rw [HRL.out]; omega)
            rw [HRL.out] at hcl
            have HDQ : Hid (R.take kk = Rl.dd q) := by show _ = _; rw [HRT.out, hme, List.take_length]
            have HLN : Hid ((Rl.dd q).length = kk) := by show _ = _; rw [← HDQ.out, List.length_take, HRL.out]; omega
            have HFN : Hid (FRow w9 B g cap (Rl.dd q) ∧ w.grownBy w9 (some g)) := ⟨by rw [← HDQ.out]; exact hrow, grownBy_trans hI.gr hgr⟩
            clear hI hrow hgr HRT HRD HDQ
            have hkq : kk ≤ q.length := by omega
            have hkc : kk ≤ cap := by omega
            go_wp2_with fail
            go_ret
            exact ⟨by rw [HLN.out]; rfl, HFN.out.1, HFN.out.2⟩
    · have hke : k = q.length := by omega
      have HDQ : Hid (Rl.dd q = q) := by show _ = _; have := HDD.out; rw [hke, List.take_length] at this; exact this
      go_wp2_with fail
      go_ret
      exact ⟨by rw [HDQ.out]; rfl, by rw [HDQ.out]; exact hI.row, hI.gr⟩
end Go.Proofs.YtmfaodapofamfaaGreat
/- of RlClone -/
namespace Go.Proofs.YtmfaodapofamfaaGreat
open Go.RowKit
theorem rl_info3 : (Tryz.prog.info? 3).map (fun i => (i.zero, i.size, i.bytes)) = some (some (.int .i64 0), 1, 8) := by kernel_rfl
set_option maxRecDepth 100000 in
set_option maxHeartbeats 1000000 in
theorem cloneI_any (l : List Int) (v : Value) (w : World) (hV : IntsV w v l) (hl : l.length ≤ 1048576) :
    Calls Tryz.prog 95 #[v] w fun e w' => ∃ v', e = .returned v' ∧ w'.ownsRow w.heap.size 3 1 v' l.length (l.map (Value.int .i64)) ∧ Below w.heap.size w w' := by
  obtain ⟨i0, hi, hz0, hz1, hz2⟩ := info_parts rl_info3
  obtain ⟨ao, cap, rfl, hA⟩ := hV
  have q22 : ∀ (w : World) (a : Option Addr) (n c : Nat), (binOp .eql 49 (.slice a n c) (.slice none 0 0)).run Tryz.prog w = .ok (.bool a.isNone) w := fun w a n c => Lib.run_eql_slice_nil w 49 3 a n c 0 0 Tryz.underlying49
  have u22 : ∀ w, Sem.run Tryz.prog (underlying 49) w = .ok (TypeDesc.slice 3) w := run_underlying Tryz.underlying49
  have HA : Hid (IntsAt w ao l) := hA
  clear hA
  cases ao with
  | none =>
    have hl0 : l = [] := by
      rcases HA.out with h | ⟨b, off, h, _⟩
      · exact h
      · cases h
    subst hl0
    go_enter Tryz.func95, Tryz.ntmps95
    go_wp2_with fail
    go_ret
    exact ⟨_, rfl, World.ownsRow_nil _ _ _ _, Below.refl _ _⟩
  | some a =>
    obtain ⟨b, off, hao⟩ : ∃ b off, l = [] ∨ a = ⟨b, off, none⟩ := by
      rcases HA.out with h | ⟨b, off, h, _⟩
      · exact ⟨0, 0, .inl h⟩
      · exact ⟨b, off, .inr (Option.some.inj h)⟩
    have HC : Hid (∀ j u, (l.map (Value.int .i64))[j]? = some u → w.cell? (a.add j) = some u) := by
      intro j u hj
      rcases HA.out with h | ⟨b, off, h, hc⟩
      · rw [h] at hj; simp at hj
      · have ha := Option.some.inj h
        have hjl : j < l.length := by
          rcases Nat.lt_or_ge j l.length with h2 | h2
          · exact h2
          · rw [List.getElem?_eq_none (by simpa using h2)] at hj; cases hj
        rw [List.getElem?_map, List.getElem?_eq_getElem hjl] at hj
        have hu : Value.int .i64 l[j] = u := by simpa using hj
        rw [← hu, ha]
        have h3 := hc j hjl
        have h4 : Sc.intD l j = l[j] := by simp [Sc.intD, hjl]
        rw [h4] at h3
        rw [Addr.add_lit]
        exact h3
    clear HA
    go_enter Tryz.func95, Tryz.ntmps95
    go_wp2_with (at_builtin; refine wpList_append_own _ rfl _ _ 49 rfl w.heap.size 3 i0 _ 1 8 Tryz.underlying49 hi hz0 hz1 hz2 rfl (by decide) _ _ _ rfl (World.ownsRow_made w #[] 0 (Nat.le_refl _) (Nat.zero_le _) (by simp)) a l.length cap (l.map (Value.int .i64)) rfl ?qc1 ?qc2 ?qc3 ?qc4 ?qc5 ?qc6 ?_)
    case qc1 => rw [List.length_map, Nat.mul_one]
    case qc2 =>
      intro j u hj
      exact Lib.cell?_alloc_some _ (HC.out j u hj)
    case qc3 =>
      intro u hu
      obtain ⟨x, _, rfl⟩ := List.mem_map.mp hu
      rfl
    case qc4 => unfold maxLen; omega
    case qc5 => omega
    case qc6 => simp
    intro v' w1 hown hgrow hnil
    obtain ⟨ao9, cap9, rfl⟩ := own_slice hown
    have HB : Hid (Below w.heap.size w w1) := ((Below.refl _ w).alloc (Nat.le_refl _) _).grown hgrow (by simp) (by intro k hk; simp [Value.ownBlock] at hk; omega)
    have HO : Hid _ := hown
    clear hown hgrow hnil HC
    go_wp2_with fail
    go_ret
    exact ⟨_, rfl, HO.out, HB.out⟩
end Go.Proofs.YtmfaodapofamfaaGreat
/- of RlKeep -/
namespace Go.Proofs.YtmfaodapofamfaaGreat
open Go.RowKit
theorem rl_info49 : (Tryz.prog.info? 84).map (fun i => (i.zero, i.size, i.bytes)) = some (some (.agg #[.int .i64 0, .slice none 0 0]), 2, 32) := by kernel_rfl
/-- What tells whether a fact is kept. -/
def Keeps1 (h : Nat) (cb : Array Value) (w : World) (P : Rl.Fc → Bool) : Prop :=
  ∀ (z : World) (f : Rl.Fc) (ao : Option Addr) (cap : Nat), Below w.heap.size w z → IntsV z (.slice ao f.args.length cap) f.args → FFit f → Calls Tryz.prog h (#[fcVal f.pred (.slice ao f.args.length cap)] ++ cb) z fun e w' => e = .returned (.bool (P f)) ∧ Below z.heap.size z w'
theorem FRow.put1 {w : World} {B g cap : Nat} {q : List Fv} (h : FRow w B g cap q) {i : Nat} {x : Fv} (hx : q[i]? = some x) (u : Value) : FRow (w.setCell ⟨g, i * 2 + 1, none⟩ u) B g cap (q.set i (x.1, u)) := by
  have hi : i < q.length := by
    rcases Nat.lt_or_ge i q.length with h2 | h2
    · exact h2
    · rw [List.getElem?_eq_none h2] at hx; cases hx
  have h2 := (World.ownsRow.stored h (i * 2 + 1) u).1
  unfold FRow
  rw [List.length_set, ← fc_set q i hi (x.1, u)]
  have h3 : ((q.map fcCells).flatten).set (i * 2) (.int .i64 x.1.pred) = (q.map fcCells).flatten := by
    apply List.ext_getElem?
    intro t
    rw [List.getElem?_set]
    split
    · rename_i ht
      obtain ⟨y, hy, hy2⟩ := fc_at q t (by omega)
      rw [← ht, Nat.mul_div_cancel _ (by decide), hx] at hy
      obtain rfl : x = y := by simpa using hy
      rw [hy2, if_pos (by rw [fc_length]; omega), ← ht, Nat.mul_mod_left]
      rfl
    · rfl
  show World.ownsRow _ B 84 2 _ q.length ((((q.map fcCells).flatten).set (i * 2) (.int .i64 x.1.pred)).set (i * 2 + 1) u)
  rw [h3]
  exact h2
theorem own3_set {w : World} {B g cap n : Nat} {q : List Fv} {v : Value} {xs : List Value} (h : w.ownsRow B 3 1 v n xs) (hr : FRow w B g cap q) (o : Nat) (u : Value) : (w.setCell ⟨g, o, none⟩ u).ownsRow B 3 1 v n xs := by
  refine rl_own_alone h fun g' hg => Below.heap_setCell _ _ _ _ (fun e => ?_)
  subst e
  obtain ⟨_, h2⟩ := h
  rcases h2 with ⟨h2, _⟩ | ⟨g2, c2, cur2, hv, _, hh, _⟩
  · rw [h2] at hg; cases hg
  · rw [hv] at hg
    have e1 : g2 = g' := by simpa [Value.ownBlock] using hg
    subst e1
    obtain ⟨_, h3⟩ := hr
    rcases h3 with ⟨h3, _⟩ | ⟨g3, c3, cur3, hv3, _, hh3, _⟩
    · cases h3
    · injection hv3 with e1 _ _
      injection e1 with e1
      injection e1 with e1
      subst e1
      rw [hh] at hh3
      injection hh3 with hh3
      injection hh3 with _ q _
      cases q
theorem compact_nil (w : World) (ao : Option Addr) (cap : Nat) (fv : Value) : Calls Tryz.prog 110 #[.slice ao 0 cap, fv] w fun e w' => e = .returned (.slice ao 0 cap) ∧ w' = w := by
  go_enter Tryz.func110, Tryz.ntmps110
  go_wp2_with fail
  go_ret
  exact ⟨rfl, rfl⟩
theorem fv_slice {w : World} {x : Fv} (h : FvOk w x) : ∃ a c, x.2 = .slice a x.1.args.length c := by
  obtain ⟨⟨a, c, h, _⟩, _⟩ := h
  exact ⟨a, c, h⟩
set_option maxRecDepth 100000 in
set_option maxHeartbeats 2000000 in
theorem keep_any (l : List Rl.Fc) (v : Value) (w : World) (h : Nat) (cb : Array Value) (P : Rl.Fc → Bool) (hV : FactsV w v l) (hl : l.length ≤ 2097152) (hf : ∀ f, f ∈ l → f.args.length ≤ 1048576) (he : ∀ args w, (callFunc h args).run Tryz.prog w = .ok (.enter h args) w) (hK : Keeps1 h cb w P) :
    Calls Tryz.prog 82 #[v, .func (.func h) #[] cb] w fun e w' => ∃ v', e = .returned v' ∧ FactsP w.heap.size w' v' (Rl.set (l.filter P)) ∧ Below w.heap.size w w' := by
  obtain ⟨i0, hi, hz0, hz1, hz2⟩ := info_parts rl_info49
  obtain ⟨ao, cap, rfl, hcap, hA⟩ := hV
  have HA : Hid (FactsAt w ao l) := hA
  have HF : Hid (∀ f, f ∈ l → f.args.length ≤ 1048576) := hf
  have HK : Hid (Keeps1 h cb w P) := hK
  clear hA hf hK
  go_enter Tryz.func82, Tryz.ntmps82
  go_wp2_with fail
  go_loopw [5, 11] (fun vs i wr => ∃ (k : Nat) (q : List Fv), k ≤ l.length ∧ i = .int .i64 k ∧ wr.ownsRow w.heap.size 84 2 vs q.length (q.map fcCells).flatten ∧ q.map (·.1) = (l.take k).filter P ∧ (∀ p, p ∈ q → FvOk w p ∧ p.1 ∈ l) ∧ Below w.heap.size w wr ∧ q.length ≤ k) (fun _ i _ => l.length - (intOf i).toNat)
  case atStart => exact ⟨0, [], Nat.zero_le _, rfl, World.ownsRow_nil _ _ _ _, rfl, fun _ hp => absurd hp (by simp), Below.refl _ _, Nat.le_refl _⟩
  case round =>
    obtain ⟨wo, hwo⟩ : ∃ wo, wo = wr := ⟨_, rfl⟩
    subst hwo
    obtain ⟨k, q, hk, rfl, hown, hqf, hqo, hb, hqk⟩ := hrel
    have HQF : Hid _ := hqf
    have HQO : Hid _ := hqo
    clear hqf hqo
    obtain ⟨aos, caps, rfl⟩ := own_slice hown
    by_cases hlt : k < l.length
    · obtain ⟨b, off, rfl, p0, fv, p1, hIv⟩ := facts_at HA.out k hlt
      have hmem := factD_mem l k hlt
      have HTK : Hid ((l.take (k + 1)).filter P = (l.take k).filter P ++ if P (Rl.factD l k) then [Rl.factD l k] else []) := by
        show _ = _
        rw [List.take_add_one, factD_get l k hlt, List.filter_append]
        simp only [Option.toList_some, List.filter_cons, List.filter_nil]
      have HIV : Hid (IntsV w fv (Rl.factD l k).args) := hIv
      have HFF : Hid (FFit (Rl.factD l k)) := by have := HF.out _ hmem; show _ ≤ _; omega
      have HM : Hid (Rl.factD l k ∈ l) := hmem
      obtain ⟨af, cf, rfl, _⟩ := hIv
      have q0 := cell_below hb p0
      have q1 := cell_below hb p1
      clear p0 p1 hmem
      generalize Rl.factD l k = f at *
      go_upto_region 5 with fail
      have hba : Below wo.heap.size wo (wo.alloc (.cells #[.int .i64 f.pred, .slice af f.args.length cf] 84)) := (Below.refl _ _).alloc (Nat.le_refl _) _
      have hbx := rl_new wo (.cells #[.int .i64 f.pred, .slice af f.args.length cf] 84)
      have hown1 := ownsRow_below hown hba
      have hb1 := hb.trans (hba.mono hb.size)
      clear hown hba hb q0 q1
      generalize hfb : wo.heap.size = FB at *
      generalize wo.alloc (.cells #[.int .i64 f.pred, .slice af f.args.length cf] 84) = wa at *
      clear hfb
      have c0 : wa.cell? ⟨FB, 0, none⟩ = some (.int .i64 f.pred) := by rw [Lib.cell_of_heap hbx]; rfl
      have c1 : wa.cell? ⟨FB, 1, none⟩ = some (.slice af f.args.length cf) := by rw [Lib.cell_of_heap hbx]; rfl
      go_wp2_with fail
      refine Calls.mono (HK.out wa f af cf hb1 (intsV_below HIV.out hb1) HFF.out) ?_
      rintro e w1 ⟨he1, hb2⟩
      subst he1
      have hbx2 := (hb2.block _ (rl_lt hbx)).trans hbx
      have hown2 := ownsRow_below hown1 hb2
      have hb3 := hb1.trans (hb2.mono hb1.size)
      clear hown1 hb2 hb1 hbx c0 c1
      have c0 : w1.cell? ⟨FB, 0, none⟩ = some (.int .i64 f.pred) := by rw [Lib.cell_of_heap hbx2]; rfl
      have c1 : w1.cell? ⟨FB, 1, none⟩ = some (.slice af f.args.length cf) := by rw [Lib.cell_of_heap hbx2]; rfl
      cases hp : P f
      · rw [hp] at HTK
        have HT2 : Hid (q.map (·.1) = (l.take (k + 1)).filter P) := by show _ = _; rw [HTK.out, HQF.out]; simp
        clear HTK HQF
        go_wp2_with fail
        go_roundw
        case rel => exact ⟨k + 1, q, by omega, by go_num, hown2, HT2.out, HQO.out, hb3, by omega⟩
        case measure => simp [intOf]; omega
      · rw [hp] at HTK
        have HT2 : Hid ((q ++ [(f, Value.slice af f.args.length cf)]).map (·.1) = (l.take (k + 1)).filter P) := by show _ = _; rw [HTK.out, ← HQF.out]; simp
        have HO2 : Hid (∀ p, p ∈ q ++ [(f, Value.slice af f.args.length cf)] → FvOk w p ∧ p.1 ∈ l) := by
          intro p hp
          rcases List.mem_append.mp hp with hp | hp
          · exact HQO.out p hp
          · obtain rfl : p = (f, Value.slice af f.args.length cf) := by simpa using hp
            exact ⟨⟨HIV.out, HFF.out⟩, HM.out⟩
        clear HTK HQF HQO
        have hbsz := hb3.size
        go_wp2_with (at_builtin; refine wpList_append_own _ rfl (.tmp 18) (.tmp 20) 28 rfl w.heap.size 84 i0 _ 2 32 Tryz.underlying28 hi hz0 hz1 hz2 rfl (by decide) _ _ _ rfl (hown2.alloc _) ⟨w1.heap.size, 0, none⟩ 1 1 (fcCells (f, .slice af f.args.length cf)) rfl rfl ?c1 ?c2 ?c3 ?c4 ?c5 ?_)
        case c1 => exact news2 w1 _ _ 84
        case c2 => intro u hu; simp [fcCells] at hu; rcases hu with rfl | rfl <;> rfl
        case c3 => unfold maxLen; omega
        case c4 => omega
        case c5 => simp; omega
        intro vs2 w4 hown4 hgrow4 _
        obtain ⟨ao9, cap9, rfl⟩ := own_slice hown4
        have hb5 : Below w.heap.size w w4 := (hb3.alloc hb3.size _).grown hgrow4 (by simp; omega) (fun k hk => (hown2.lt k hk).1)
        have hown5 : w4.ownsRow w.heap.size 84 2 (.slice ao9 (q.length + 1) cap9) (q ++ [(f, Value.slice af f.args.length cf)]).length ((q ++ [(f, Value.slice af f.args.length cf)]).map fcCells).flatten := by
          rw [List.length_append, List.map_append, List.flatten_append]
          simpa using hown4
        clear hown4 hgrow4 hown2 hb3 c0 c1 hbx2
        go_wp2_with fail
        go_roundw
        case rel => exact ⟨k + 1, _, by omega, by go_num, hown5, HT2.out, HO2.out, hb5, by rw [List.length_append]; simp; omega⟩
        case measure => simp [intOf]; omega
    · have HQF2 : Hid (q.map (·.1) = l.filter P) := by show _ = _; rw [HQF.out, List.take_of_length_le (by omega)]
      clear HQF
      rcases ownsRow_forms9 hown with ⟨hv, hq0⟩ | ⟨g, caps2, hv⟩
      · injection hv with e1 e2 e3
        subst e1 e3
        have hq1 : q = [] := List.eq_nil_of_length_eq_zero hq0
        subst hq1
        have HS : Hid (Rl.set (l.filter P) = []) := by show _ = _; rw [← HQF2.out]; rfl
        have hs := AnyF.slices_SortFunc_none Tryz.sortF none 0 (.func (.func 71) #[] #[]) wo
        change Calls Tryz.prog 109 _ _ _ at hs
        have HSS : Hid _ := hs
        clear hs hown
        simp only [List.length_nil]
        go_wp2_with fail
        refine Calls.mono HSS.out ?_
        rintro e w5 ⟨rfl, rfl⟩
        go_wp2_with fail
        refine Calls.mono (compact_nil _ _ _ _) ?_
        rintro e w5 ⟨rfl, rfl⟩
        go_wp2_with fail
        refine wp_loop_rounds 1 ?_
        rw [rounds_succ]
        go_wp2_with fail
        go_ret
        exact ⟨_, rfl, by rw [HS.out]; exact ⟨[], rfl, World.ownsRow_nil _ _ _ _, fun _ hp => absurd hp (by simp)⟩, hb⟩
      · injection hv with e1 e2 e3
        subst e1 e3
        have hgl := hown.lt g rfl
        have hql : q.length < 4611686018427387904 := by omega
        have HSO : Hid _ := sort_any w wo w.heap.size g caps q hgl.1 hb.block hown (fun p hp => (HQO.out p hp).1) hql
        go_wp2_with fail
        refine Calls.mono HSO.out ?_
        rintro e w5 ⟨rfl, q2, hperm, hsorted, hrow5, hgr5⟩
        have hl5 : q2.length = q.length := hperm.length_eq
        have hlow5 : ∀ k, k < w.heap.size → w5.heap[k]? = w.heap[k]? := fun k hk => (hgr5.block k (Nat.lt_of_lt_of_le hk hb.size) (by intro e; injection e; omega)).trans (hb.block k hk)
        have HCO : Hid _ := compact_any w w5 w.heap.size g caps q2 hgl.1 hlow5 hrow5 (fun p hp => (HQO.out p (hperm.mem_iff.mp hp)).1) (by omega)
        rw [hl5] at HCO
        have HSET : Hid ((Rl.dd q2).map (·.1) = Rl.set (l.filter P)) := by
          show _ = _
          rw [Rl.isSet_eq (Rl.dd_set q2 hsorted), ← HQF2.out]
          exact Rl.set_same fun x => (hperm.map (·.1)).mem_iff
        have HDO : Hid (∀ p, p ∈ Rl.dd q2 → FvOk w p ∧ p.1 ∈ l) := fun p hp => HQO.out p (hperm.mem_iff.mp (Rl.dd_sub _ _ hp))
        have hdl : (Rl.dd q2).length ≤ 2097152 := by have := Rl.dd_length q2; omega
        have hbw5 : Below w.heap.size w w5 := ⟨hgr5.os.trans hb.os, hgr5.tape.trans hb.tape, hgr5.output.trans hb.output, Nat.le_trans hb.size hgr5.size, hlow5⟩
        clear hperm hsorted hrow5 hgr5 hlow5 HSO hown hb HQO HQF2 hl5
        go_wp2_with fail
        refine Calls.mono HCO.out ?_
        rintro e w6 ⟨rfl, hrow6, hgr6⟩
        have hbw6 : Below w.heap.size w w6 := ⟨hgr6.os.trans hbw5.os, hgr6.tape.trans hbw5.tape, hgr6.output.trans hbw5.output, Nat.le_trans hbw5.size hgr6.size, fun k hk => (hgr6.block k (Nat.lt_of_lt_of_le hk hbw5.size) (by intro e; injection e; omega)).trans (hbw5.block k hk)⟩
        clear hbw5 hgr6 HCO
        generalize Rl.dd q2 = D at *
        go_wp2_with fail
        go_loopw [29] (fun i wr => ∃ (m : Nat) (R : List Fv), m ≤ D.length ∧ i = .int .i64 m ∧ FRow wr w.heap.size g caps R ∧ R.map (·.1) = D.map (·.1) ∧ (∀ j, m ≤ j → R[j]? = D[j]?) ∧ (∀ j p, j < m → R[j]? = some p → wr.ownsRow w.heap.size 3 1 p.2 p.1.args.length (p.1.args.map (Value.int .i64))) ∧ Below w.heap.size w wr) (fun i _ => D.length - (intOf i).toNat)
        case atStart => exact ⟨0, D, Nat.zero_le _, rfl, hrow6, rfl, fun _ _ => rfl, fun j p hj => absurd hj (by omega), hbw6⟩
        case round =>
          clear hrow6 hbw6
          obtain ⟨wp, hwp⟩ : ∃ wp, wp = wr := ⟨_, rfl⟩
          subst hwp
          obtain ⟨m, R, hm, rfl, hrow, hmap, hrest, hargs, hb⟩ := hrel
          have hRl : R.length = D.length := by have := congrArg List.length hmap; simpa using this
          have HRL : Hid (R.length = D.length) := hRl
          have HMAP : Hid _ := hmap
          have HREST : Hid _ := hrest
          have HARGS : Hid _ := hargs
          clear hmap hrest hargs hRl
          by_cases hlt : m < D.length
          · obtain ⟨x, hx, hxm⟩ := get_lt hlt
            have hRx : R[m]? = some x := (HREST.out m (Nat.le_refl _)).trans hx
            obtain ⟨c0, c1⟩ := hrow.cell hRx
            obtain ⟨xa, xc, hxv⟩ := fv_slice (HDO.out x hxm).1
            have HIX : Hid (IntsV w x.2 x.1.args ∧ x.1.args.length ≤ 1048576) := ⟨(HDO.out x hxm).1.1, HF.out _ (HDO.out x hxm).2⟩
            have HXV : Hid (x.2 = .slice xa x.1.args.length xc) := hxv
            rw [hxv] at c1
            have HRX : Hid (R[m]? = some x ∧ D[m]? = some x) := ⟨hRx, hx⟩
            clear hRx hx hxm hxv
            have f1 := hrow.frozen (m * 2 + 1)
            have hmr : m < R.length := by rw [HRL.out]; exact hlt
            go_wp2_with fail
            refine Calls.mono (cloneI_any x.1.args _ wp (by have h3 := intsV_below HIX.out.1 hb; rw [HXV.out] at h3; exact h3) HIX.out.2) ?_
            rintro e w7 ⟨v7, rfl, hown7, hb7⟩
            obtain ⟨a7, c7, rfl⟩ := own_slice hown7
            have hrow7 := hrow.keep (hb7.block g hrow.lt.2)
            have hput := hrow7.put1 HRX.out.1 (.slice a7 x.1.args.length c7)
            obtain ⟨d0, d1⟩ := hrow7.cell HRX.out.1
            rw [HXV.out] at d1
            have df1 := hrow7.frozen (m * 2 + 1)
            have hb8 : Below w.heap.size w (w7.setCell ⟨g, m * 2 + 1, none⟩ (.slice a7 x.1.args.length c7)) := by
              have h1 := hb.trans (hb7.mono hb.size)
              exact ⟨h1.os, h1.tape, h1.output, by simpa [World.setCell] using h1.size, fun k hk => (Below.heap_setCell _ _ _ _ (show ¬ k = g by omega)).trans (h1.block k hk)⟩
            have HA2 : Hid (∀ j p, j < m + 1 → (R.set m (x.1, Value.slice a7 x.1.args.length c7))[j]? = some p → (w7.setCell ⟨g, m * 2 + 1, none⟩ (.slice a7 x.1.args.length c7)).ownsRow w.heap.size 3 1 p.2 p.1.args.length (p.1.args.map (Value.int .i64))) := by
              intro j p hj hjp
              rw [List.getElem?_set] at hjp
              by_cases hjm : m = j
              · rw [if_pos hjm, if_pos (by omega)] at hjp
                obtain rfl : (x.1, Value.slice a7 x.1.args.length c7) = p := by simpa using hjp
                exact own3_set (rl_own_le hown7 hb.size) hrow7 _ _
              · rw [if_neg hjm] at hjp
                exact own3_set (ownsRow_below (HARGS.out j p (by omega) hjp) hb7) hrow7 _ _
            have HM2 : Hid ((R.set m (x.1, Value.slice a7 x.1.args.length c7)).map (·.1) = D.map (·.1)) := by
              show _ = _
              rw [List.map_set, HMAP.out]
              apply List.ext_getElem?
              intro t
              rw [List.getElem?_set]
              split
              · rename_i ht
                subst ht
                rw [if_pos (by simpa using hlt), List.getElem?_map, HRX.out.2]
                rfl
              · rfl
            have HR2 : Hid (∀ j, m + 1 ≤ j → (R.set m (x.1, Value.slice a7 x.1.args.length c7))[j]? = D[j]?) := fun j hj => by
              rw [List.getElem?_set, if_neg (by omega)]
              exact HREST.out j (by omega)
            clear hrow hown7 hb7 hrow7 hb HARGS HMAP HREST c0 c1 f1
            go_wp2_with fail
            go_roundw
            case rel => exact ⟨m + 1, _, by omega, by go_num, hput, HM2.out, HR2.out, HA2.out, hb8⟩
            case measure => simp [intOf]; omega
          · have hme : m = D.length := by omega
            have HFP : Hid (FactsP w.heap.size wp (.slice (some ⟨g, 0, none⟩) D.length caps) (Rl.set (l.filter P))) := by
              refine ⟨R, HMAP.out.trans HSET.out, by rw [← HRL.out]; exact hrow, fun p hp => ?_⟩
              obtain ⟨j, hj, hjp⟩ := List.getElem_of_mem hp
              exact HARGS.out j p (by have := HRL.out; omega) (by rw [List.getElem?_eq_getElem hj, hjp])
            clear hrow HARGS HMAP HREST
            go_wp2_with fail
            go_ret
            exact ⟨_, rfl, HFP.out, hb⟩
end Go.Proofs.YtmfaodapofamfaaGreat
/- of RlSet -/
namespace Go.Proofs.YtmfaodapofamfaaGreat
open Go.RowKit
set_option maxRecDepth 100000 in
set_option maxHeartbeats 400000 in
theorem set1_any (w : World) : Keeps1 83 #[] w (fun _ => true) := by
  intro z f ao cap _ _ _
  show Calls Tryz.prog 83 #[fcVal f.pred (.slice ao f.args.length cap)] z _
  have hb0 : ∀ o, Below z.heap.size z (z.alloc o) := fun o => (Below.refl _ _).alloc (Nat.le_refl _) o
  go_enter Tryz.func83, Tryz.ntmps83
  go_wp2_with fail
  go_ret
  exact ⟨rfl, by first | exact hb0 _ | exact Below.refl _ _⟩
theorem rl_enters49 : ∀ args w, (callFunc 83 args).run Tryz.prog w = .ok (.enter 83 args) w := enters_of Tryz.func83 (by kernel_rfl) rfl
set_option maxRecDepth 100000 in
set_option maxHeartbeats 1000000 in
theorem Set_any (l : List Rl.Fc) (v : Value) (w : World) (hV : FactsV w v l) (hl : l.length ≤ 2097152) (hf : ∀ f, f ∈ l → f.args.length ≤ 1048576) :
    Calls Tryz.prog 39 #[v] w fun e w' => ∃ v', e = .returned v' ∧ FactsP w.heap.size w' v' (Rl.set l) ∧ Below w.heap.size w w' := by
  have HK : Hid (Calls Tryz.prog 82 #[v, .func (.func 83) #[] #[]] w fun e w' => ∃ v', e = .returned v' ∧ FactsP w.heap.size w' v' (Rl.set l) ∧ Below w.heap.size w w') := by
    have h := keep_any l v w 83 #[] (fun _ => true) hV hl hf rl_enters49 (set1_any w)
    rw [List.filter_eq_self.mpr (fun _ _ => rfl)] at h
    exact h
  obtain ⟨ao, cap, rfl, _⟩ := hV
  have hmf : ∀ (fn : Fn) (first cap : Array Value) (w : World), (Instr.makeFunc fn first cap).run Tryz.prog w = .ok (.func fn first cap) w := fun _ _ _ _ => rfl
  go_enter Tryz.func39, Tryz.ntmps39
  go_wp2_with fail
  refine Calls.mono HK.out ?_
  rintro e w1 ⟨v', rfl, hP, hb⟩
  obtain ⟨q, hq, hown, _⟩ := id hP
  obtain ⟨a9, c9, rfl⟩ := own_slice hown
  have HP : Hid _ := hP
  clear hP hown HK
  go_wp2_with fail
  go_ret
  exact ⟨_, rfl, HP.out, hb⟩
end Go.Proofs.YtmfaodapofamfaaGreat
/- of RlHas -/
namespace Go.Proofs.YtmfaodapofamfaaGreat
open Go.RowKit
set_option maxRecDepth 100000 in
set_option maxHeartbeats 1000000 in
theorem HasFact_any (l : List Rl.Fc) (f : Rl.Fc) (v u : Value) (w : World) (hV : FactsV w v l) (hU : IntsV w u f.args) (hl : l.length ≤ 9223372036854775807) (hf : ∀ f, f ∈ l → FFit f) (hF : FFit f) :
    Calls Tryz.prog 85 #[v, fcVal f.pred u] w fun e w' => e = .returned (.bool (Rl.has l f)) ∧ Below w.heap.size w w' := by
  obtain ⟨ao, cap, rfl, _, hA⟩ := hV
  obtain ⟨a, c, rfl, _⟩ := id hU
  have HA : Hid (FactsAt w ao l) := hA
  have HF : Hid (∀ f, f ∈ l → FFit f) := hf
  have HU : Hid (IntsV w (.slice a f.args.length c) f.args ∧ FFit f) := ⟨hU, hF⟩
  have hba : Below w.heap.size w (w.alloc (.cells #[.int .i64 f.pred, .slice a f.args.length c] 84)) := (Below.refl _ _).alloc (Nat.le_refl _) _
  have hFB := rl_new w (.cells #[.int .i64 f.pred, .slice a f.args.length c] 84)
  clear hA hf hU
  go_enter Tryz.func85, Tryz.ntmps85
  go_wp2_with fail
  generalize w.alloc (.cells #[.int .i64 f.pred, .slice a f.args.length c] 84) = w1 at *
  go_loopw [5] (fun i wr => ∃ k : Nat, k ≤ l.length ∧ i = .int .i64 k ∧ Rl.has l f = Rl.has (l.drop k) f ∧ Below w1.heap.size w1 wr) (fun i _ => l.length - (intOf i).toNat)
  case atStart => exact ⟨0, Nat.zero_le _, rfl, rfl, Below.refl _ _⟩
  case round =>
    obtain ⟨k, hk, rfl, hall, hbel⟩ := hrel
    have HAL : Hid _ := hall
    clear hall
    have hbw := hba.trans (hbel.mono hba.size)
    by_cases hlt : k < l.length
    · obtain ⟨b, off, rfl, p0, fv, p1, hIv⟩ := facts_at HA.out k hlt
      have hmem := factD_mem l k hlt
      have HD : Hid (Rl.has l f = ((Rl.ord (Rl.factD l k) f == 0) || Rl.has (l.drop (k + 1)) f)) := by show _ = _; rw [HAL.out, factD_drop l k hlt]; rfl
      have HIV : Hid (IntsV w fv (Rl.factD l k).args ∧ FFit (Rl.factD l k)) := ⟨hIv, HF.out _ hmem⟩
      obtain ⟨af, cf, rfl, _⟩ := hIv
      have a0 := cell_below hbw p0
      have a1 := cell_below hbw p1
      have hFB2 := (hbel.block _ (rl_lt hFB)).trans hFB
      have c0 : wr.cell? ⟨w.heap.size, 0, none⟩ = some (.int .i64 f.pred) := by rw [Lib.cell_of_heap hFB2]; rfl
      have c1 : wr.cell? ⟨w.heap.size, 1, none⟩ = some (.slice a f.args.length c) := by rw [Lib.cell_of_heap hFB2]; rfl
      clear p0 p1 HAL hmem hFB2
      generalize Rl.factD l k = g at *
      have HN : Hid (∀ z, Below wr.heap.size wr z → Calls Tryz.prog 49 #[fcVal g.pred (.slice af g.args.length cf), fcVal f.pred (.slice a f.args.length c)] z fun e w' => e = .returned (.int .i64 (Rl.ord g f)) ∧ Below wr.heap.size wr w' ∧ w'.cell? ⟨b, off + k * 2, none⟩ = some (.int .i64 g.pred) ∧ w'.cell? ⟨b, off + k * 2 + 1, none⟩ = some (.slice af g.args.length cf) ∧ w'.cell? ⟨w.heap.size, 0, none⟩ = some (.int .i64 f.pred) ∧ w'.cell? ⟨w.heap.size, 1, none⟩ = some (.slice a f.args.length c)) := by
        intro z hz
        have hzw := hbw.trans (hz.mono hbw.size)
        refine (OrderOf_any g f _ _ z (intsV_below HIV.out.1 hzw) (intsV_below HU.out.1 hzw) HIV.out.2 HU.out.2).mono ?_
        rintro e w' ⟨h1, h2⟩
        have h3 := hz.trans (h2.mono hz.size)
        exact ⟨h1, h3, cell_below h3 a0, cell_below h3 a1, cell_below h3 c0, cell_below h3 c1⟩
      have HGA : ∀ b o, Below wr.heap.size wr b → Below wr.heap.size wr (b.alloc o) := fun _ o h => h.alloc h.size o
      have HGD : ∀ b, Below wr.heap.size wr b → Below wr.heap.size wr b.drew := fun _ h => ⟨h.os, h.tape, h.output, h.size, h.block⟩
      have HGR : Below wr.heap.size wr wr := Below.refl _ _
      go_upto_region 4 with fail
      go_region_held3 (fun yy => yy.cell? ⟨b, off + k * 2, none⟩ = some (.int .i64 g.pred) ∧ yy.cell? ⟨b, off + k * 2 + 1, none⟩ = some (.slice af g.args.length cf) ∧ yy.cell? ⟨w.heap.size, 0, none⟩ = some (.int .i64 f.pred) ∧ yy.cell? ⟨w.heap.size, 1, none⟩ = some (.slice a f.args.length c) ∧ Below wr.heap.size wr yy) (go_keep) (
        (go_at_call 49; refine Calls.mono (HN.out _ ?_) ?_; (simp [*]); rintro e w2 ⟨rfl, hb2, hz2, hz3, hz4, hz5⟩))
      clear HGA HGD HGR HN hz2 hz3 hz4 hz5
      have hb3 := hbel.trans (hb2.mono hbel.size)
      have hb4 := hbw.trans (hb2.mono hbw.size)
      clear a0 a1 c0 c1 hb2 hbel hbw
      cases hx : (Rl.ord g f == 0)
      · have HV : Hid (Rl.has l f = Rl.has (l.drop (k + 1)) f) := by show _ = _; rw [HD.out, hx]; rfl
        clear HD
        go_wp2_with fail
        go_roundw
        case rel => exact ⟨k + 1, by omega, by go_num, HV.out, hb3⟩
        case measure => simp [intOf]; omega
      · have HV : Hid (Rl.has l f = true) := by show _ = _; rw [HD.out, hx]; rfl
        clear HD
        go_wp2_with fail
        go_ret
        exact ⟨by rw [HV.out]; rfl, hb4⟩
    · have HV : Hid (Rl.has l f = false) := by show _ = _; rw [HAL.out, List.drop_of_length_le (by omega)]; rfl
      go_wp2_with fail
      go_ret
      exact ⟨by rw [HV.out]; rfl, hbw⟩
end Go.Proofs.YtmfaodapofamfaaGreat
/- of RlSetOf -/
namespace Go.Proofs.YtmfaodapofamfaaGreat
open Go.RowKit
/-- Facts in a row of one's own; their numbers lie where they lay. -/
def FactsS (w w' : World) (v : Value) (s : List Rl.Fc) : Prop :=
  ∃ q : List Fv, q.map (·.1) = s ∧ w'.ownsRow w.heap.size 84 2 v q.length (q.map fcCells).flatten ∧ ∀ p, p ∈ q → FvOk w p
theorem own_factsV {w w' : World} {B : Nat} {v : Value} {q : List Fv} (h2 : w'.ownsRow B 84 2 v q.length (q.map fcCells).flatten) (h3 : ∀ p, p ∈ q → FvOk w p) (hb : Below w.heap.size w w') : FactsV w' v (q.map (·.1)) := by
  rcases ownsRow_forms9 h2 with ⟨hv, h0⟩ | ⟨g, cap, hv⟩
  · have hq : q = [] := List.eq_nil_of_length_eq_zero h0
    subst hq
    exact ⟨none, 0, hv, ⟨Nat.le_refl _, fun _ => rfl⟩, .inl rfl⟩
  · subst hv
    have hc : q.length ≤ cap := by
      rcases h2.2 with ⟨hv, _⟩ | ⟨_, _, _, hv, _, _, hc1, _⟩
      · cases hv
      · injection hv with _ _ e3
        omega
    refine ⟨_, cap, by rw [List.length_map], ⟨by rw [List.length_map]; exact hc, fun h => by cases h⟩, .inr ⟨g, 0, rfl, fun i hi => ?_⟩⟩
    rw [List.length_map] at hi
    have hq : q[i]? = some q[i] := List.getElem?_eq_getElem hi
    have hd : Rl.factD (q.map (·.1)) i = q[i].1 := by simp [Rl.factD, hi]
    obtain ⟨c0, c1⟩ := FRow.cell h2 hq
    rw [Nat.zero_add, hd]
    exact ⟨c0, q[i].2, c1, intsV_below (h3 _ (List.getElem_mem hi)).1 hb⟩
/-- A list with one more at place k, whatever it is there. -/
structure Gap (q R : List Fv) (k : Nat) : Prop where
  len : R.length = q.length + 1
  lo : ∀ j, j < k → R[j]? = q[j]?
  hi : ∀ j, k < j → R[j]? = q[j - 1]?
theorem Gap.start (q : List Fv) (x : Fv) : Gap q (q ++ [x]) q.length :=
  ⟨by simp, fun j hj => List.getElem?_append_left hj, fun j hj => by rw [List.getElem?_eq_none (by simp; omega), List.getElem?_eq_none (by omega)]⟩
theorem Gap.step {q R : List Fv} {k : Nat} {y : Fv} (h : Gap q R (k + 1)) (hy : q[k]? = some y) : Gap q (R.set (k + 1) y) k := by
  have hk : k < q.length := by
    rcases Nat.lt_or_ge k q.length with h2 | h2
    · exact h2
    · rw [List.getElem?_eq_none h2] at hy; cases hy
  refine ⟨by rw [List.length_set]; exact h.len, fun j hj => ?_, fun j hj => ?_⟩
  · rw [List.getElem?_set, if_neg (by omega)]
    exact h.lo j (by omega)
  · rw [List.getElem?_set]
    by_cases hjk : k + 1 = j
    · rw [if_pos hjk, if_pos (by have := h.len; omega), ← hjk]
      exact hy.symm
    · rw [if_neg hjk]
      exact h.hi j (by omega)
theorem Gap.fin {q R : List Fv} {k : Nat} (h : Gap q R k) (hk : k ≤ q.length) (x : Fv) : R.set k x = q.take k ++ x :: q.drop k := by
  apply List.ext_getElem?
  intro j
  rw [List.getElem?_set]
  by_cases hj : k = j
  · rw [if_pos hj, if_pos (by have := h.len; omega), ← hj, List.getElem?_append_right (by rw [List.length_take]; omega), List.length_take, Nat.min_eq_left hk, Nat.sub_self]
    rfl
  · rw [if_neg hj]
    by_cases hlt : j < k
    · rw [h.lo j hlt, List.getElem?_append_left (by rw [List.length_take]; omega), List.getElem?_take, if_pos hlt]
    · rw [h.hi j (by omega), List.getElem?_append_right (by rw [List.length_take]; omega), List.length_take, Nat.min_eq_left hk]
      obtain ⟨d, hd⟩ : ∃ d, j - k = d + 1 := ⟨j - k - 1, by omega⟩
      rw [hd, List.getElem?_cons_succ, List.getElem?_drop]
      congr 1
      omega
theorem isSet_skip {s l : List Rl.Fc} {f : Rl.Fc} (h : Rl.IsSet s l) (hf : f ∈ s) : Rl.IsSet s (l ++ [f]) :=
  ⟨h.1, fun x => by
    rw [List.mem_append, h.2]
    constructor
    · intro hx; exact .inl hx
    · rintro (hx | hx)
      · exact hx
      · rw [List.mem_singleton.mp hx]; exact (h.2 f).mp hf⟩
theorem isSet_put {s l : List Rl.Fc} {f : Rl.Fc} {k : Nat} (h : Rl.IsSet s l) (hf : f ∉ s) (hk : k ≤ s.length) (hd : ∀ x, x ∈ s.drop k → Rl.ord x f > 0) (ht : k = 0 ∨ ∃ x, s[k - 1]? = some x ∧ ¬ Rl.ord x f > 0) : Rl.IsSet (s.take k ++ f :: s.drop k) (l ++ [f]) :=
  ⟨Rl.up_put h.1 hf hk hd ht, fun x => by
    rw [Rl.mem_put, List.mem_append, h.2, List.mem_singleton]
    constructor
    · rintro (hx | hx)
      · exact .inr hx
      · exact .inl hx
    · rintro (hx | hx)
      · exact .inr hx
      · exact .inl hx⟩
set_option maxRecDepth 100000 in
set_option maxHeartbeats 4000000 in
theorem SetOf_any (l : List Rl.Fc) (v : Value) (w : World) (hV : FactsV w v l) (hl : l.length ≤ 2097152) (hf : ∀ f, f ∈ l → FFit f) :
    Calls Tryz.prog 51 #[v] w fun e w' => ∃ v', e = .returned v' ∧ FactsS w w' v' (Rl.set l) ∧ Below w.heap.size w w' := by
  obtain ⟨i0, hi, hz0, hz1, hz2⟩ := info_parts rl_info49
  obtain ⟨ao, cap, rfl, _, hA⟩ := hV
  have HA : Hid (FactsAt w ao l) := hA
  have HF : Hid (∀ f, f ∈ l → FFit f) := hf
  clear hA hf
  go_enter Tryz.func51, Tryz.ntmps51
  go_wp2_with fail
  go_loopw [3, 4] (fun vs i wr => ∃ (k : Nat) (q : List Fv), k ≤ l.length ∧ i = .int .i64 k ∧ wr.ownsRow w.heap.size 84 2 vs q.length (q.map fcCells).flatten ∧ Rl.IsSet (q.map (·.1)) (l.take k) ∧ (∀ p, p ∈ q → FvOk w p) ∧ Below w.heap.size w wr ∧ q.length ≤ k) (fun _ i _ => l.length - (intOf i).toNat)
  case atStart => exact ⟨0, [], Nat.zero_le _, rfl, World.ownsRow_nil _ _ _ _, ⟨List.Pairwise.nil, fun x => Iff.rfl⟩, fun _ hp => absurd hp (by simp), Below.refl _ _, Nat.le_refl _⟩
  case round =>
    obtain ⟨wo, hwo⟩ : ∃ wo, wo = wr := ⟨_, rfl⟩
    subst hwo
    obtain ⟨k, q, hk, rfl, hown, hset, hqo, hb, hqk⟩ := hrel
    have HSET : Hid _ := hset
    have HQO : Hid _ := hqo
    clear hset hqo
    obtain ⟨aos, caps, rfl⟩ := own_slice hown
    by_cases hlt : k < l.length
    · obtain ⟨b, off, rfl, p0, fv, p1, hIv⟩ := facts_at HA.out k hlt
      have hmem := factD_mem l k hlt
      have HTK : Hid (l.take (k + 1) = l.take k ++ [Rl.factD l k]) := by show _ = _; rw [List.take_add_one, factD_get l k hlt]; rfl
      have HIV : Hid (IntsV w fv (Rl.factD l k).args) := hIv
      have HFF : Hid (FFit (Rl.factD l k)) := HF.out _ hmem
      obtain ⟨af, cf, rfl, _⟩ := hIv
      have a0 := cell_below hb p0
      have a1 := cell_below hb p1
      have HP0 : Hid (w.cell? ⟨b, off + k * 2, none⟩ = some (.int .i64 (Rl.factD l k).pred) ∧ w.cell? ⟨b, off + k * 2 + 1, none⟩ = some (.slice af (Rl.factD l k).args.length cf)) := ⟨p0, p1⟩
      clear p0 p1 hmem
      generalize Rl.factD l k = f at *
      have HHF : Hid (Calls Tryz.prog 85 #[.slice aos q.length caps, fcVal f.pred (.slice af f.args.length cf)] wo fun e w' => e = .returned (.bool (Rl.has (q.map (·.1)) f)) ∧ Below wo.heap.size wo w') := by
        exact HasFact_any (q.map (·.1)) f _ _ wo (own_factsV hown HQO.out hb) (intsV_below HIV.out hb) (by rw [List.length_map]; omega) (fun g hg => by obtain ⟨p, hp, rfl⟩ := List.mem_map.mp hg; exact (HQO.out p hp).2) HFF.out
      go_wp2_with fail
      refine Calls.mono HHF.out ?_
      rintro e w1 ⟨rfl, hb1⟩
      have hown1 := ownsRow_below hown hb1
      have hbw1 := hb.trans (hb1.mono hb.size)
      clear hown hb hb1 HHF a0 a1
      cases hh : Rl.has (q.map (·.1)) f
      · have HNF : Hid (f ∉ q.map (·.1)) := fun h => by rw [Rl.has_iff.mpr h] at hh; cases hh
        clear hh
        have b0 := cell_below hbw1 HP0.out.1
        have b1 := cell_below hbw1 HP0.out.2
        have hbsz := hbw1.size
        go_wp2_with (at_builtin; refine wpList_append_own _ rfl (.tmp 20) (.tmp 25) 28 rfl w.heap.size 84 i0 _ 2 32 Tryz.underlying28 hi hz0 hz1 hz2 rfl (by decide) _ _ _ rfl (hown1.alloc _) ⟨w1.heap.size, 0, none⟩ 1 1 (fcCells (f, .slice af f.args.length cf)) rfl rfl ?c1 ?c2 ?c3 ?c4 ?c5 ?_)
        case c1 => exact news2 w1 _ _ 84
        case c2 => intro u hu; simp [fcCells] at hu; rcases hu with rfl | rfl <;> rfl
        case c3 => unfold maxLen; omega
        case c4 => omega
        case c5 => simp; omega
        intro vs2 w4 hown4 hgrow4 _
        have hb5 : Below w.heap.size w w4 := (hbw1.alloc hbw1.size _).grown hgrow4 (by simp; omega) (fun k hk => (hown1.lt k hk).1)
        rcases ownsRow_forms9 hown4 with ⟨_, h0⟩ | ⟨g, cap9, hv9⟩
        · exact absurd h0 (by omega)
        subst hv9
        have hrow5 : FRow w4 w.heap.size g cap9 (q ++ [(f, Value.slice af f.args.length cf)]) := by
          unfold FRow
          rw [List.length_append, List.map_append, List.flatten_append]
          simpa using hown4
        have hgl := hrow5.lt
        clear hown4 hgrow4 hown1 hbw1 b0 b1
        go_wp2_with fail
        go_loopw [5] (fun ik wr => ∃ (m : Nat) (R : List Fv), m ≤ q.length ∧ ik = .int .i64 m ∧ FRow wr w.heap.size g cap9 R ∧ Gap q R m ∧ (∀ x, x ∈ (q.map (·.1)).drop m → Rl.ord x f > 0) ∧ Below w.heap.size w wr) (fun ik _ => (intOf ik).toNat)
        case atStart => exact ⟨q.length, _, Nat.le_refl _, rfl, hrow5, Gap.start q _, fun x hx => by rw [List.drop_of_length_le (by simp)] at hx; simp at hx, hb5⟩
        case round =>
          clear hrow5 hb5
          obtain ⟨wp, hwp⟩ : ∃ wp, wp = wr := ⟨_, rfl⟩
          subst hwp
          obtain ⟨m, R, hm, rfl, hrow, hgap, hgt, hbp⟩ := hrel
          have HGP : Hid _ := hgap
          have HGT : Hid _ := hgt
          have hRl := hgap.len
          have HRL : Hid (R.length = q.length + 1) := hRl
          have hmR : m < R.length := by omega
          clear hgap hgt hRl
          have b0 := cell_below hbp HP0.out.1
          have b1 := cell_below hbp HP0.out.2
          rcases Nat.eq_zero_or_pos m with hm0 | hm0
          · have HTOP : Hid (m = 0 ∨ ∃ x, (q.map (·.1))[m - 1]? = some x ∧ ¬ Rl.ord x f > 0) := .inl hm0
            have hmz : decide (0 < m) = false := by simp; omega
            have HM0 : Hid (m = 0) := hm0
            clear hm0
            go_upto_region 8 with fail
            go_region
            have hrow2 : FRow wp.drew w.heap.size g cap9 R := hrow
            have hbz : Below w.heap.size w wp.drew := ⟨hbp.os, hbp.tape, hbp.output, hbp.size, hbp.block⟩
            clear hrow hbp b0 b1
            generalize wp.drew = wz at *
            have HS2 : Hid (Rl.IsSet ((q.take m ++ (f, Value.slice af f.args.length cf) :: q.drop m).map (·.1)) (l.take (k + 1))) := by
              rw [HTK.out, List.map_append, List.map_cons, List.map_take, List.map_drop]
              exact isSet_put HSET.out HNF.out (by rw [List.length_map]; exact hm) HGT.out HTOP.out
            have HQ2 : Hid (∀ p, p ∈ q.take m ++ (f, Value.slice af f.args.length cf) :: q.drop m → FvOk w p) := by
              intro p hp
              rcases List.mem_append.mp hp with hp | hp
              · exact HQO.out p (List.mem_of_mem_take hp)
              · rcases List.mem_cons.mp hp with rfl | hp
                · exact ⟨HIV.out, HFF.out⟩
                · exact HQO.out p (List.mem_of_mem_drop hp)
            have hput := hrow2.put m hmR (f, Value.slice af f.args.length cf)
            rw [HGP.out.fin hm] at hput
            have hlen2 : (q.take m ++ (f, Value.slice af f.args.length cf) :: q.drop m).length = q.length + 1 := by simp; omega
            have hb9 : Below w.heap.size w ((wz.setCell ⟨g, m * 2, none⟩ (.int .i64 f.pred)).setCell ⟨g, m * 2 + 1, none⟩ (.slice af f.args.length cf)) :=
              ⟨hbz.os, hbz.tape, hbz.output, by simpa [World.setCell] using hbz.size, fun k hk => (Below.heap_setCell _ _ _ _ (show ¬ k = g by omega)).trans ((Below.heap_setCell _ _ _ _ (show ¬ k = g by omega)).trans (hbz.block k hk))⟩
            obtain ⟨r, hr, _⟩ := get_lt (q := R) (i := m) hmR
            obtain ⟨r0, r1⟩ := hrow2.cell hr
            have rf0 := hrow2.frozen (m * 2)
            have rf1 := hrow2.frozen (m * 2 + 1)
            have d0 := cell_below hbz HP0.out.1
            have d1 := cell_below hbz HP0.out.2
            unfold FRow at hput
            rw [hlen2] at hput
            have HPUT : Hid _ := hput
            have HLN2 : Hid ((q.take m ++ (f, Value.slice af f.args.length cf) :: q.drop m).length = q.length + 1) := hlen2
            clear HTK HSET HNF HGT HGP hrow2 hr hput hlen2 HTOP
            go_wp2_with fail
            go_roundw
            case rel => exact ⟨k + 1, _, by omega, by go_num, by rw [HLN2.out]; exact HPUT.out, HS2.out, HQ2.out, hb9, by rw [HLN2.out]; omega⟩
            case measure => simp [intOf]; omega
          · obtain ⟨m1, hm1e⟩ : ∃ m1, m1 + 1 = m := ⟨m - 1, by omega⟩
            have hwr2 : IntKind.i64.wrap ((m : Int) - 1) = (m1 : Int) := by
              have h9 : (m : Int) - 1 = (m1 : Int) := by omega
              rw [h9]
              simp [IntKind.wrap, IntKind.bits, IntKind.signed]
              omega
            obtain ⟨y, hy, hym⟩ := get_lt (q := q) (i := m1) (by omega)
            obtain ⟨c0, c1⟩ := hrow.cell ((HGP.out.lo m1 (by omega)).trans hy)
            obtain ⟨ya, yc, hyv⟩ := fv_slice (HQO.out y hym)
            have HY : Hid (q[m1]? = some y ∧ y.2 = .slice ya y.1.args.length yc) := ⟨hy, hyv⟩
            rw [hyv] at c1
            have HN : Hid (∀ z, Below wp.heap.size wp z → Calls Tryz.prog 49 #[fcVal y.1.pred (.slice ya y.1.args.length yc), fcVal f.pred (.slice af f.args.length cf)] z fun e w' => e = .returned (.int .i64 (Rl.ord y.1 f)) ∧ Below wp.heap.size wp w' ∧ w'.cell? ⟨g, m1 * 2, none⟩ = some (.int .i64 y.1.pred) ∧ w'.cell? ⟨g, m1 * 2 + 1, none⟩ = some (.slice ya y.1.args.length yc) ∧ w'.cell? ⟨b, off + k * 2, none⟩ = some (.int .i64 f.pred) ∧ w'.cell? ⟨b, off + k * 2 + 1, none⟩ = some (.slice af f.args.length cf)) := by
              intro z hz
              have hzw := hbp.trans (hz.mono hbp.size)
              refine (OrderOf_any y.1 f _ _ z (by have h3 := intsV_below (HQO.out y hym).1 hzw; rw [hyv] at h3; exact h3) (intsV_below HIV.out hzw) (HQO.out y hym).2 HFF.out).mono ?_
              rintro e w' ⟨h1, h2⟩
              have h3 := hz.trans (h2.mono hz.size)
              exact ⟨h1, h3, cell_below h3 c0, cell_below h3 c1, cell_below h3 b0, cell_below h3 b1⟩
            clear hy hym hyv
            have hm1' : m1 < q.length + 1 := by omega
            have hm1a : (0 : Int) ≤ (m1 : Int) := by omega
            have hm1b : (m1 : Int) < ((q.length + 1 : Nat) : Int) := by omega
            have hm1c : (m1 : Int) < (q.length : Int) + 1 := by omega
            have hmpos : (0 : Int) < (m : Int) := by omega
            have HM1 : Hid (m1 + 1 = m) := hm1e
            clear hm1e
            have HGA : ∀ b o, Below wp.heap.size wp b → Below wp.heap.size wp (b.alloc o) := fun _ o h => h.alloc h.size o
            have HGD : ∀ b, Below wp.heap.size wp b → Below wp.heap.size wp b.drew := fun _ h => ⟨h.os, h.tape, h.output, h.size, h.block⟩
            have HGR : Below wp.heap.size wp wp := Below.refl _ _
            go_upto_region 8 with fail
            go_region_held3 (fun yy => yy.cell? ⟨g, m1 * 2, none⟩ = some (.int .i64 y.1.pred) ∧ yy.cell? ⟨g, m1 * 2 + 1, none⟩ = some (.slice ya y.1.args.length yc) ∧ yy.cell? ⟨b, off + k * 2, none⟩ = some (.int .i64 f.pred) ∧ yy.cell? ⟨b, off + k * 2 + 1, none⟩ = some (.slice af f.args.length cf) ∧ Below wp.heap.size wp yy) (go_keep) (
              (go_at_call 49; refine Calls.mono (HN.out _ ?_) ?_; (simp [*]); rintro e w2 ⟨rfl, hb2, hz2, hz3, hz4, hz5⟩))
            clear HGA HGD HGR HN hz4 hz5 b0 b1 c0 c1
            have hrow2 := hrow.keep (hb2.block g hrow.lt.2)
            have hbz := hbp.trans (hb2.mono hbp.size)
            clear hrow hbp hb2
            generalize w2 = wz at *
            by_cases ho : 0 < Rl.ord y.1 f
            · have HG2 : Hid (Gap q (R.set m y) m1) := by
                have h3 := HGP.out
                rw [← HM1.out] at h3 ⊢
                exact h3.step HY.out.1
              have HT2 : Hid (∀ x, x ∈ (q.map (·.1)).drop m1 → Rl.ord x f > 0) := by
                intro x hx
                have hlt9 : m1 < (q.map (·.1)).length := by rw [List.length_map]; have := HM1.out; omega
                rw [List.drop_eq_getElem_cons hlt9] at hx
                rcases List.mem_cons.mp hx with hx | hx
                · rw [hx, List.getElem_map]
                  have h4 : q[m1]'(by simpa using hlt9) = y := by
                    have h5 := HY.out.1
                    rw [List.getElem?_eq_getElem (by simpa using hlt9)] at h5
                    exact Option.some.inj h5
                  rw [h4]
                  exact ho
                · exact HGT.out x (by rw [← HM1.out]; exact hx)
              have hput := hrow2.put m hmR y
              rw [HY.out.2] at hput
              have hb9 : Below w.heap.size w ((wz.setCell ⟨g, m * 2, none⟩ (.int .i64 y.1.pred)).setCell ⟨g, m * 2 + 1, none⟩ (.slice ya y.1.args.length yc)) :=
                ⟨hbz.os, hbz.tape, hbz.output, by simpa [World.setCell] using hbz.size, fun k hk => (Below.heap_setCell _ _ _ _ (show ¬ k = g by omega)).trans ((Below.heap_setCell _ _ _ _ (show ¬ k = g by omega)).trans (hbz.block k hk))⟩
              obtain ⟨r, hr, _⟩ := get_lt (q := R) (i := m) hmR
              obtain ⟨r0, r1⟩ := hrow2.cell hr
              have rf0 := hrow2.frozen (m * 2)
              have rf1 := hrow2.frozen (m * 2 + 1)
              have hmq : m < q.length + 1 := by omega
              have HMM : Hid (m1 < m) := by have := HM1.out; show m1 < m; omega
              clear hrow2 hr hbz HGP HGT
              go_wp2_with fail
              go_roundw
              case rel => exact ⟨m1, R.set m y, by have := HM1.out; omega, by first | rfl | go_num | (simp [*]), hput, HG2.out, HT2.out, hb9⟩
              case measure => have := HMM.out; simp [intOf, *]
            · have HTOP : Hid (m = 0 ∨ ∃ x, (q.map (·.1))[m - 1]? = some x ∧ ¬ Rl.ord x f > 0) := .inr ⟨y.1, by rw [show m - 1 = m1 by have := HM1.out; omega, List.getElem?_map, HY.out.1]; rfl, ho⟩
              clear hz2 hz3
              have HS2 : Hid (Rl.IsSet ((q.take m ++ (f, Value.slice af f.args.length cf) :: q.drop m).map (·.1)) (l.take (k + 1))) := by
                rw [HTK.out, List.map_append, List.map_cons, List.map_take, List.map_drop]
                exact isSet_put HSET.out HNF.out (by rw [List.length_map]; exact hm) HGT.out HTOP.out
              have HQ2 : Hid (∀ p, p ∈ q.take m ++ (f, Value.slice af f.args.length cf) :: q.drop m → FvOk w p) := by
                intro p hp
                rcases List.mem_append.mp hp with hp | hp
                · exact HQO.out p (List.mem_of_mem_take hp)
                · rcases List.mem_cons.mp hp with rfl | hp
                  · exact ⟨HIV.out, HFF.out⟩
                  · exact HQO.out p (List.mem_of_mem_drop hp)
              have hput := hrow2.put m hmR (f, Value.slice af f.args.length cf)
              rw [HGP.out.fin hm] at hput
              have hlen2 : (q.take m ++ (f, Value.slice af f.args.length cf) :: q.drop m).length = q.length + 1 := by simp; omega
              have hb9 : Below w.heap.size w ((wz.setCell ⟨g, m * 2, none⟩ (.int .i64 f.pred)).setCell ⟨g, m * 2 + 1, none⟩ (.slice af f.args.length cf)) :=
                ⟨hbz.os, hbz.tape, hbz.output, by simpa [World.setCell] using hbz.size, fun k hk => (Below.heap_setCell _ _ _ _ (show ¬ k = g by omega)).trans ((Below.heap_setCell _ _ _ _ (show ¬ k = g by omega)).trans (hbz.block k hk))⟩
              obtain ⟨r, hr, _⟩ := get_lt (q := R) (i := m) hmR
              obtain ⟨r0, r1⟩ := hrow2.cell hr
              have rf0 := hrow2.frozen (m * 2)
              have rf1 := hrow2.frozen (m * 2 + 1)
              have d0 := cell_below hbz HP0.out.1
              have d1 := cell_below hbz HP0.out.2
              unfold FRow at hput
              rw [hlen2] at hput
              have HPUT : Hid _ := hput
              have HLN2 : Hid ((q.take m ++ (f, Value.slice af f.args.length cf) :: q.drop m).length = q.length + 1) := hlen2
              clear HTK HSET HNF HGT HGP hrow2 hr hput hlen2 HTOP
              go_wp2_with fail
              go_roundw
              case rel => exact ⟨k + 1, _, by omega, by go_num, by rw [HLN2.out]; exact HPUT.out, HS2.out, HQ2.out, hb9, by rw [HLN2.out]; omega⟩
              case measure => simp [intOf]; omega
      · have HS2 : Hid (Rl.IsSet (q.map (·.1)) (l.take (k + 1))) := by rw [HTK.out]; exact isSet_skip HSET.out (Rl.has_iff.mp hh)
        clear HTK HSET
        go_wp2_with fail
        go_roundw
        case rel => exact ⟨k + 1, q, by omega, by go_num, hown1, HS2.out, HQO.out, hbw1, by omega⟩
        case measure => simp [intOf]; omega
    · have HFS : Hid (FactsS w wo (.slice aos q.length caps) (Rl.set l)) := ⟨q, by rw [Rl.isSet_eq HSET.out, List.take_of_length_le (by omega)], hown, HQO.out⟩
      clear hown HSET HQO
      go_wp2_with fail
      go_ret
      exact ⟨_, rfl, HFS.out, hb⟩
end Go.Proofs.YtmfaodapofamfaaGreat

/- Rows of updates. -/
namespace Go.Proofs.YtmfaodapofamfaaGreat
open Go.RowKit Go.Maps

/-- Cells stand. -/
def Kc (w w' : World) : Prop := ∀ b o v, w.cell? ⟨b, o, none⟩ = some v → w'.cell? ⟨b, o, none⟩ = some v
theorem Kc.trans {a b c : World} (h : Kc a b) (k : Kc b c) : Kc a c := fun _ _ _ e => k _ _ _ (h _ _ _ e)
theorem Kc.below {w w' : World} (h : Below w.heap.size w w') : Kc w w' := fun _ _ _ e => cell_below h e
theorem cell_heap {w w' : World} {b o : Nat} (h : w'.heap[b]? = w.heap[b]?) : w'.cell? ⟨b, o, none⟩ = w.cell? ⟨b, o, none⟩ := by
  unfold World.cell?
  rw [h]
theorem cell_lt {w : World} {b o : Nat} {v : Value} (h : w.cell? ⟨b, o, none⟩ = some v) : b < w.heap.size := by
  by_cases hb : b < w.heap.size
  · exact hb
  · unfold World.cell? at h
    have e : w.heap[b]? = none := Array.getElem?_eq_none (Nat.le_of_not_lt hb)
    dsimp only at h
    rw [e] at h
    cases h
/-- .. where a map alone was written. -/
theorem Kc.map {w w' : World} {B : Nat} {c : List Uv} (h : w.grownBy w' (some B)) (hm : CmAt w B c) : Kc w w' := fun b o v e => by
  have hne : b ≠ B := fun e2 => by
    subst e2
    obtain ⟨D, ⟨es, clock, h1, _⟩, _⟩ := hm
    unfold World.cell? at e
    rw [h1] at e
    cases e
  rw [cell_heap (h.block b (cell_lt e) (fun e2 => hne (by cases e2; rfl)))]
  exact e
theorem Kc.ints {w w' : World} (k : Kc w w') {v : Value} {l : List Int} (h : IntsV w v l) : IntsV w' v l := by
  obtain ⟨ao, cap, rfl, h⟩ := h
  refine ⟨ao, cap, rfl, ?_⟩
  rcases h with h | ⟨b, off, rfl, h⟩
  · exact .inl h
  · exact .inr ⟨b, off, rfl, fun i hi => k _ _ _ (h i hi)⟩
theorem Kc.ids {w w' : World} (k : Kc w w') {v : Value} {l : List Wr.Id} (h : IdsV w v l) : IdsV w' v l := by
  obtain ⟨ao, cap, rfl, hc, h⟩ := h
  refine ⟨ao, cap, rfl, hc, ?_⟩
  rcases h with h | ⟨b, off, rfl, h⟩
  · exact .inl h
  · exact .inr ⟨b, off, rfl, fun i hi => ⟨k _ _ _ (h i hi).1, k _ _ _ (h i hi).2⟩⟩
theorem Kc.fact {w w' : World} (k : Kc w w') {b off : Nat} {f : Rl.Fc} (h : FactIn w b off f) : FactIn w' b off f := by
  obtain ⟨h1, u, h2, h3⟩ := h
  exact ⟨k _ _ _ h1, u, k _ _ _ h2, k.ints h3⟩
theorem Kc.facts {w w' : World} (k : Kc w w') {v : Value} {l : List Rl.Fc} (h : FactsV w v l) : FactsV w' v l := by
  obtain ⟨ao, cap, rfl, hc, h⟩ := h
  refine ⟨ao, cap, rfl, hc, ?_⟩
  rcases h with h | ⟨b, off, rfl, h⟩
  · exact .inl h
  · exact .inr ⟨b, off, rfl, fun i hi => k.fact (h i hi)⟩
theorem UvOk.kc {w w' : World} {x : Uv} (h : UvOk w x) (k : Kc w w') : UvOk w' x := ⟨k.ids h.p, k.facts h.s, k.ids h.t, h.f, h.l⟩

def uvZ : Uv := ⟨⟨⟨0, 0⟩, [], [], []⟩, .slice none 0 0, .slice none 0 0, .slice none 0 0⟩
def uvD (q : List Uv) (i : Nat) : Uv := q.getD i uvZ
def UpIn (w : World) (b o : Nat) (x : Uv) : Prop :=
  w.cell? ⟨b, o, none⟩ = some (.int .i64 x.u.id.a) ∧ w.cell? ⟨b, o + 1, none⟩ = some (.int .i64 x.u.id.n) ∧ w.cell? ⟨b, o + 2, none⟩ = some x.p ∧ w.cell? ⟨b, o + 3, none⟩ = some x.s ∧ w.cell? ⟨b, o + 4, none⟩ = some x.t
theorem Kc.up {w w' : World} (k : Kc w w') {b o : Nat} {x : Uv} (h : UpIn w b o x) : UpIn w' b o x := ⟨k _ _ _ h.1, k _ _ _ h.2.1, k _ _ _ h.2.2.1, k _ _ _ h.2.2.2.1, k _ _ _ h.2.2.2.2⟩
def UpsAt (w : World) (ao : Option Addr) (q : List Uv) : Prop := q = [] ∨ ∃ b off, ao = some ⟨b, off, none⟩ ∧ ∀ i, i < q.length → UpIn w b (off + i * 5) (uvD q i)
def UpsV (w : World) (v : Value) (q : List Uv) : Prop := ∃ ao cap, v = .slice ao q.length cap ∧ (q.length ≤ cap ∧ (ao = none → cap = 0)) ∧ UpsAt w ao q
theorem UpsAt.kc {w w' : World} {ao : Option Addr} {q : List Uv} (h : UpsAt w ao q) (k : Kc w w') : UpsAt w' ao q := by
  rcases h with h | ⟨b, off, rfl, h⟩
  · exact .inl h
  · exact .inr ⟨b, off, rfl, fun i hi => k.up (h i hi)⟩
theorem UpsV.kc {w w' : World} {v : Value} {q : List Uv} (h : UpsV w v q) (k : Kc w w') : UpsV w' v q := by
  obtain ⟨ao, cap, rfl, hc, h⟩ := h
  exact ⟨ao, cap, rfl, hc, h.kc k⟩
theorem ups_at {w : World} {ao : Option Addr} {q : List Uv} (h : UpsAt w ao q) (i : Nat) (hi : i < q.length) : ∃ b off, ao = some ⟨b, off, none⟩ ∧ UpIn w b (off + i * 5) (uvD q i) := by
  rcases h with h | ⟨b, off, ha, hc⟩
  · rw [h] at hi; exact absurd hi (by simp)
  · exact ⟨b, off, ha, hc i hi⟩
theorem uvD_drop (q : List Uv) (k : Nat) (hk : k < q.length) : q.drop k = uvD q k :: q.drop (k + 1) := by
  rw [List.drop_eq_getElem_cons hk]
  simp [uvD, List.getD_eq_getElem?_getD, hk]
theorem uvD_mem (q : List Uv) (k : Nat) (hk : k < q.length) : uvD q k ∈ q := by simp [uvD, hk]
theorem uvD_take (q : List Uv) (k : Nat) (hk : k < q.length) : q.take (k + 1) = q.take k ++ [uvD q k] := by
  rw [List.take_succ_eq_append_getElem hk]
  simp [uvD, List.getD_eq_getElem?_getD, hk]
abbrev URow (w : World) (B : Nat) (v : Value) (q : List Uv) : Prop := w.ownsRow B 30 5 v q.length (q.map uvCells).flatten
theorem up_info : (Tryz.prog.info? 30).map (fun i => (i.zero, i.size, i.bytes)) = some (some (.agg #[.int .i64 0, .int .i64 0, .slice none 0 0, .slice none 0 0, .slice none 0 0]), 5, 88) := by kernel_rfl
theorem flat5_get : ∀ (q : List Uv) (i j : Nat), i < q.length → j < 5 → (q.map uvCells).flatten[i * 5 + j]? = (uvCells (uvD q i))[j]?
  | [], i, j, hi, _ => absurd hi (by simp)
  | x :: r, 0, j, _, hj => by
    show (uvCells x ++ (r.map uvCells).flatten)[0 * 5 + j]? = (uvCells x)[j]?
    rw [List.getElem?_append_left (by show 0 * 5 + j < 5; omega)]
    congr 1
    omega
  | x :: r, i + 1, j, hi, hj => by
    have h := flat5_get r i j (by simpa using hi) hj
    show (uvCells x ++ (r.map uvCells).flatten)[(i + 1) * 5 + j]? = _
    rw [List.getElem?_append_right (by show 5 ≤ _; omega)]
    have e : (i + 1) * 5 + j - (uvCells x).length = i * 5 + j := by show (i + 1) * 5 + j - 5 = _; omega
    rw [e, h]
    rfl
theorem own_ups {W : World} {B : Nat} {v : Value} {q : List Uv} (h : URow W B v q) : UpsV W v q := by
  obtain ⟨ao, cap, rfl, hcap, hc⟩ := own_cells h
  refine ⟨ao, cap, rfl, ⟨hcap, fun e => ?_⟩, ?_⟩
  · rcases ownsRow_forms9 h with ⟨e2, h0⟩ | ⟨g, c2, e2⟩
    · injection e2
    · injection e2 with e3
      rw [e] at e3
      cases e3
  · rcases hc with h0 | ⟨g, rfl, hg⟩
    · exact .inl (List.eq_nil_of_length_eq_zero h0)
    · refine .inr ⟨g, 0, rfl, fun i hi => ?_⟩
      have key : ∀ j, j < 5 → W.cell? ⟨g, 0 + i * 5 + j, none⟩ = (uvCells (uvD q i))[j]? := fun j hj => by
        rw [Nat.zero_add, hg (i * 5 + j) (by omega), flat5_get q i j hi hj]
      exact ⟨by have := key 0 (by omega); simpa using this, by have := key 1 (by omega); simpa using this, by have := key 2 (by omega); simpa using this, by have := key 3 (by omega); simpa using this, by have := key 4 (by omega); simpa using this⟩
theorem grown_alloc (w : World) (o : Obj) (r : Option Nat) : w.grownBy (w.alloc o) r := ⟨rfl, rfl, rfl, by simp, fun k hk _ => Lib.alloc_old w o k hk⟩
theorem grown_refl (w : World) (r : Option Nat) : w.grownBy w r := ⟨rfl, rfl, rfl, Nat.le_refl _, fun _ _ _ => rfl⟩
theorem grown_own {w z z' : World} {r : Option Nat} {v : Value} {n e c : Nat} {xs : List Value} (h : w.grownBy z r) (hg : z.grownBy z' v.ownBlock) (ho : z.ownsRow w.heap.size e c v n xs) : w.grownBy z' r :=
  ⟨hg.os.trans h.os, hg.tape.trans h.tape, hg.output.trans h.output, Nat.le_trans h.size hg.size, fun k hk hn => (hg.block k (Nat.lt_of_lt_of_le hk h.size) (fun e => by have := (ho.lt k e.symm).1; omega)).trans (h.block k hk hn)⟩
theorem grown_trans {w z z' : World} {r : Option Nat} (h : w.grownBy z r) (hg : z.grownBy z' r) : w.grownBy z' r :=
  ⟨hg.os.trans h.os, hg.tape.trans h.tape, hg.output.trans h.output, Nat.le_trans h.size hg.size, fun k hk hn => (hg.block k (Nat.lt_of_lt_of_le hk h.size) hn).trans (h.block k hk hn)⟩
theorem grown_below {w z z' : World} {r : Option Nat} (h : w.grownBy z r) (hg : Below z.heap.size z z') : w.grownBy z' r := grown_trans h (grownBy_of_below hg r)
theorem news5 (w : World) (a b c d f : Value) (e : TypeId) : ∀ j z, [a, b, c, d, f][j]? = some z → (w.alloc (.cells #[a, b, c, d, f] e)).cell? ((⟨w.heap.size, 0, none⟩ : Addr).add j) = some z := by
  intro j z hj
  have hh : (w.alloc (.cells #[a, b, c, d, f] e)).heap[w.heap.size]? = some (.cells #[a, b, c, d, f] e) := rl_new w _
  match j, hj with
  | 0, hj => cases hj; exact (Lib.cell_of_heap hh 0).trans rfl
  | 1, hj => cases hj; exact (Lib.cell_of_heap hh 1).trans rfl
  | 2, hj => cases hj; exact (Lib.cell_of_heap hh 2).trans rfl
  | 3, hj => cases hj; exact (Lib.cell_of_heap hh 3).trans rfl
  | 4, hj => cases hj; exact (Lib.cell_of_heap hh 4).trans rfl
/-- Updates whose ids, and those of what they hang on, are right. -/
structure IdsOk (u : Wr.Up) : Prop where
  id : Wr.isId u.id = true
  ps : ∀ y, y ∈ u.ps → Wr.isId y = true
  ts : ∀ y, y ∈ u.ts → Wr.isId y = true
  lp : u.ps.length ≤ 6
  lt : u.ts.length ≤ 6
theorem idsOk_of {u : Wr.Up} (h : Wr.check u = 0) : IdsOk u := by
  have r := Wr.right_of h
  exact ⟨r.id, r.pid, r.tid, r.ps, r.ts⟩
end Go.Proofs.YtmfaodapofamfaaGreat

/- byIds: updates by their ids. -/
namespace Go.Proofs.YtmfaodapofamfaaGreat
open Go.RowKit Go.Maps

/-- Some map; if no two have one id: of these. -/
def MapOf (w : World) (B n : Nat) (q : List Uv) : Prop := ∃ D : DataW Value, w.ownsMap Tryz.prog 26 uvElem B n D ∧ (((ups q).map Wr.Up.id).Nodup → CmD q D)
theorem MapOf.at_ {w : World} {B : Nat} {q : List Uv} (h : MapOf w B q.length q) (hn : ((ups q).map Wr.Up.id).Nodup) : CmAt w B q := by
  obtain ⟨D, h1, h2⟩ := h
  exact ⟨D, h1, h2 hn⟩
theorem ups_snoc (c : List Uv) (y : Uv) : (ups (c ++ [y])).map Wr.Up.id = (ups c).map Wr.Up.id ++ [y.u.id] := by simp [ups]
theorem new_of_nodup {c : List Uv} {y : Uv} (h : ((ups (c ++ [y])).map Wr.Up.id).Nodup) : ((ups c).map Wr.Up.id).Nodup ∧ Dg.hasU (ups c) y.u.id = false := by
  rw [ups_snoc, List.nodup_append] at h
  refine ⟨h.1, ?_⟩
  cases hx : Dg.hasU (ups c) y.u.id with
  | false => rfl
  | true =>
    obtain ⟨v, hv, e⟩ := Dg.hasU_iff.mp hx
    exact absurd rfl (h.2.2 y.u.id (List.mem_map.mpr ⟨v, hv, e⟩) y.u.id (by simp))
theorem wpList_store_map (w : World) {ops : Array Oper} {rest : List Oper} {o : Oper} {a : Act} {Q : Exit → Act → World → Prop} (hg : o.guard = none) (m x v : Operand) (hop : o.op = Op.mapUpdate 64 m x v) (b n : Nat) (c : List Uv) (y : Uv) (w0 : World)
    (hm : a.eval m = .map (some b)) (hown : MapOf w b n c) (hl : n ≤ 1000000) (hx : a.eval x = idVal y.u.id) (hv : a.eval v = uvVal y) (hy : Wr.isId y.u.id = true) (hok : UvOk w0 y)
    (hK : ∀ w', MapOf w' b (n + 1) (c ++ [y]) → w.grownBy w' (some b) → wpList Tryz.prog ops Q rest (a.put o.dst undef) w') :
    wpList Tryz.prog ops Q (o :: rest) a w := by
  obtain ⟨D, hown, hD⟩ := hown
  refine wpList_mapUpdate_own w hg m x v 64 hop 26 30 idLaw Tryz.underlying64 uvElem b n D hm hown (by unfold maxLen; omega) _ _ _ hx hv (keyOf_id hy) _ _ (uvElem_ok hok) (fun w' h1 h2 => hK w' ⟨_, h1, fun hn => ?_⟩ h2)
  obtain ⟨n1, n2⟩ := new_of_nodup hn
  exact (hD n1).push (hown.tidy idLaw) y hy n2

set_option maxRecDepth 100000 in
set_option maxHeartbeats 1000000 in
theorem byIds_any (q : List Uv) (v : Value) (w : World) (hV : UpsV w v q) (hl : q.length ≤ 1000) (hok : ∀ x, x ∈ q → UvOk w x) (hid : ∀ x, x ∈ q → Wr.isId x.u.id = true) :
    Calls Tryz.prog 30 #[v] w fun e w' => e = .returned (.map (some w.heap.size)) ∧ MapOf w' w.heap.size q.length q ∧ Below w.heap.size w w' := by
  obtain ⟨ao, cap, rfl, _, hA⟩ := hV
  have HA : Hid (∀ z, Below w.heap.size w z → UpsAt z ao q) := fun z hz => hA.kc (Kc.below hz)
  have HK : Hid (∀ k, k < q.length → UvOk w (uvD q k) ∧ Wr.isId (uvD q k).u.id = true) := fun k hk => ⟨hok _ (uvD_mem q k hk), hid _ (uvD_mem q k hk)⟩
  clear hA hok hid
  have hmm := @run_makeMap Tryz.prog
  go_enter Tryz.func30, Tryz.ntmps30
  go_wp2_with fail
  go_loopw [9] (fun iv wr => ∃ k : Nat, k ≤ q.length ∧ iv = .int .i64 k ∧ Hid (MapOf wr w.heap.size k (q.take k)) ∧ Hid (Below w.heap.size w wr)) (fun iv _ => q.length - (intOf iv).toNat)
  case atStart => exact ⟨0, Nat.zero_le _, rfl, ⟨_, World.ownsMap_made _ _ _ _, fun _ => CmD.nil⟩, (Below.refl _ _).alloc (Nat.le_refl _) _⟩
  case round =>
    obtain ⟨k, hk, rfl, HM, HG⟩ := hrel
    by_cases hlt : k < q.length
    · obtain ⟨b, off, rfl, c0, c1, c2, c3, c4⟩ := ups_at (HA.out wr HG.out) k hlt
      obtain ⟨hx, hi⟩ := HK.out k hlt
      have HD : Hid (q.take (k + 1) = q.take k ++ [uvD q k]) := uvD_take q k hlt
      generalize uvD q k = x at *
      obtain ⟨a1, n1, d1, a2, n2, d2, a3, n3, d3, e1, e2, e3⟩ := hx.forms
      have HX : Hid (UvOk w x ∧ Wr.isId x.u.id = true) := ⟨hx, hi⟩
      clear hx hi
      obtain ⟨⟨⟨ua, un⟩, ps, says, ts⟩, vp, vs, vt⟩ := x
      dsimp only at *
      subst e1 e2 e3
      have hsz := HG.out.size
      have hm2 : MapOf (wr.alloc (.cells #[.int .i64 ua, .int .i64 un, .slice a1 n1 d1, .slice a2 n2 d2, .slice a3 n3 d3] 30)) w.heap.size k (q.take k) := by
        obtain ⟨D, h1, h2⟩ := HM.out
        exact ⟨D, h1.alloc _, h2⟩
      have HM2 : Hid (MapOf (wr.alloc (.cells #[.int .i64 ua, .int .i64 un, .slice a1 n1 d1, .slice a2 n2 d2, .slice a3 n3 d3] 30)) w.heap.size k (q.take k)) := hm2
      have HG2 : Hid (Below w.heap.size w (wr.alloc (.cells #[.int .i64 ua, .int .i64 un, .slice a1 n1 d1, .slice a2 n2 d2, .slice a3 n3 d3] 30))) := HG.out.alloc hsz _
      clear hm2 HM
      go_wp2_with (at_mapUpdate; refine wpList_store_map _ rfl _ _ _ rfl w.heap.size k (q.take k) ⟨⟨⟨ua, un⟩, ps, says, ts⟩, .slice a1 n1 d1, .slice a2 n2 d2, .slice a3 n3 d3⟩ w rfl HM2.out (by omega) rfl rfl HX.out.2 HX.out.1 ?_; intro w5 hm5 hg5)
      have HM5 : Hid (MapOf w5 w.heap.size (k + 1) (q.take (k + 1))) := by
        show MapOf _ _ _ _
        rw [HD.out]
        exact hm5
      have HG5 : Hid (Below w.heap.size w w5) := HG2.out.grown hg5 HG2.out.size (fun j e => by cases e; exact Nat.le_refl _)
      clear hm5 hg5 HD
      go_roundw
      case rel => exact ⟨k + 1, hlt, by go_num, HM5.out, HG5.out⟩
      case measure => simp [intOf]; omega
    · have hdd : decide (k < q.length) = false := decide_eq_false hlt
      obtain rfl : k = q.length := by omega
      have HM3 : Hid (MapOf wr w.heap.size q.length q) := by
        have := HM.out
        rw [List.take_length] at this
        exact this
      go_wp2_with fail
      go_ret
      exact ⟨rfl, HM3.out, HG.out⟩
end Go.Proofs.YtmfaodapofamfaaGreat

/- IndexFunc and ContainsFunc of updates; order; Rise. -/
namespace Go.Proofs.YtmfaodapofamfaaGreat
open Go.RowKit Go.Maps

set_option maxRecDepth 100000 in
set_option maxHeartbeats 1000000 in
theorem indexA_any (B : Nat) (P : Wr.Up → Bool) (q : List Uv) (v : Value) (w : World) (hV : UpsV w v q) (hl : q.length ≤ 1000) (hok : ∀ x, x ∈ q → UvOk w x) (hC : ∀ z x, Below w.heap.size w z → x ∈ q → Calls Tryz.prog 89 #[uvVal x, .pointer (some ⟨B, 0, none⟩)] z fun e w' => e = .returned (.bool (P x.u)) ∧ Below z.heap.size z w') :
    Calls Tryz.prog 108 #[v, .func (.func 89) #[] #[.pointer (some ⟨B, 0, none⟩)]] w fun e w' => ∃ r : Int, e = .returned (.int .i64 r) ∧ (decide (0 ≤ r) = (ups q).any P) ∧ Below w.heap.size w w' := by
  obtain ⟨ao, cap, rfl, _, hA⟩ := hV
  have HA : Hid (UpsAt w ao q) := hA
  have HF : Hid (∀ x, x ∈ q → UvOk w x) := hok
  have HC : Hid (∀ z x, Below w.heap.size w z → x ∈ q → Calls Tryz.prog 89 #[uvVal x, .pointer (some ⟨B, 0, none⟩)] z fun e w' => e = .returned (.bool (P x.u)) ∧ Below z.heap.size z w') := hC
  clear hok hC hA
  go_enter Tryz.func108, Tryz.ntmps108
  go_wp2_with fail
  go_loopw [8] (fun iv wr => ∃ k : Nat, k ≤ q.length ∧ iv = .int .i64 k ∧ Hid ((ups q).any P = ((ups (q.drop k)).any P)) ∧ Below w.heap.size w wr) (fun iv _ => q.length - (intOf iv).toNat)
  case atStart => exact ⟨0, Nat.zero_le _, rfl, rfl, Below.refl _ _⟩
  case round =>
    obtain ⟨k, hk, rfl, HR, hbw⟩ := hrel
    by_cases hlt : k < q.length
    · obtain ⟨b, off, rfl, c0, c1, c2, c3, c4⟩ := ups_at (HA.out.kc (Kc.below hbw)) k hlt
      have HD : Hid ((ups q).any P = (P (uvD q k).u || (ups (q.drop (k + 1))).any P)) := by
        show _ = _
        rw [HR.out, uvD_drop q k hlt]
        rfl
      have hm := uvD_mem q k hlt
      have HX : Hid (Calls Tryz.prog 89 #[uvVal (uvD q k), .pointer (some ⟨B, 0, none⟩)] wr fun e w' => e = .returned (.bool (P (uvD q k).u)) ∧ Below wr.heap.size wr w') := HC.out wr _ hbw hm
      obtain ⟨a1, n1, d1, a2, n2, d2, a3, n3, d3, e1, e2, e3⟩ := (HF.out _ hm).forms
      clear HR hm
      generalize uvD q k = x at *
      generalize P x.u = bx at *
      obtain ⟨⟨⟨ua, un⟩, ps, says, ts⟩, vp, vs, vt⟩ := x
      dsimp only at *
      subst e1 e2 e3
      cases bx
      · go_wp2_with (go_at_call 89; refine Calls.mono HX.out ?_; rintro e z1 ⟨rfl, hg1⟩)
        have hb1 := hbw.trans (hg1.mono hbw.size)
        go_roundw
        case rel => exact ⟨k + 1, hlt, by go_num, HD.out.trans (by rw [Bool.false_or]), hb1⟩
        case measure => simp [intOf]; omega
      · go_wp2_with (go_at_call 89; refine Calls.mono HX.out ?_; rintro e z1 ⟨rfl, hg1⟩)
        go_ret
        exact ⟨k, rfl, by rw [HD.out, decide_eq_true (by omega)]; rfl, hbw.trans (hg1.mono hbw.size)⟩
    · have hdd : decide (k < q.length) = false := decide_eq_false hlt
      have HE : Hid ((ups q).any P = false) := by
        show _ = _
        rw [HR.out, List.drop_of_length_le (by omega)]
        rfl
      go_wp2_with fail
      go_ret
      exact ⟨-1, rfl, by rw [HE.out]; rfl, hbw⟩
set_option maxRecDepth 100000 in
set_option maxHeartbeats 1000000 in
theorem containsA_any (B : Nat) (P : Wr.Up → Bool) (q : List Uv) (v : Value) (w : World) (hV : UpsV w v q) (hl : q.length ≤ 1000) (hok : ∀ x, x ∈ q → UvOk w x) (hC : ∀ z x, Below w.heap.size w z → x ∈ q → Calls Tryz.prog 89 #[uvVal x, .pointer (some ⟨B, 0, none⟩)] z fun e w' => e = .returned (.bool (P x.u)) ∧ Below z.heap.size z w') :
    Calls Tryz.prog 88 #[v, .func (.func 89) #[] #[.pointer (some ⟨B, 0, none⟩)]] w fun e w' => e = .returned (.bool ((ups q).any P)) ∧ Below w.heap.size w w' := by
  have HC : Hid _ := indexA_any B P q v w hV hl hok hC
  obtain ⟨ao, cap, rfl, _⟩ := id hV
  generalize (ups q).any P = bb at *
  clear hV hok hC
  go_enter Tryz.func88, Tryz.ntmps88
  go_wp2_with (go_at_call 108; refine Calls.mono HC.out ?_; rintro e z1 ⟨r, rfl, hr, hg1⟩)
  go_ret
  exact ⟨by rw [← hr]; rfl, hg1⟩
set_option maxRecDepth 100000 in
set_option maxHeartbeats 1000000 in
theorem indexB_any (B : Nat) (P : Wr.Up → Bool) (q : List Uv) (v : Value) (w : World) (hV : UpsV w v q) (hl : q.length ≤ 1000) (hok : ∀ x, x ∈ q → UvOk w x) (hC : ∀ z x, Below w.heap.size w z → x ∈ q → Calls Tryz.prog 90 #[uvVal x, .pointer (some ⟨B, 0, none⟩)] z fun e w' => e = .returned (.bool (P x.u)) ∧ Below z.heap.size z w') :
    Calls Tryz.prog 108 #[v, .func (.func 90) #[] #[.pointer (some ⟨B, 0, none⟩)]] w fun e w' => ∃ r : Int, e = .returned (.int .i64 r) ∧ (decide (0 ≤ r) = (ups q).any P) ∧ Below w.heap.size w w' := by
  obtain ⟨ao, cap, rfl, _, hA⟩ := hV
  have HA : Hid (UpsAt w ao q) := hA
  have HF : Hid (∀ x, x ∈ q → UvOk w x) := hok
  have HC : Hid (∀ z x, Below w.heap.size w z → x ∈ q → Calls Tryz.prog 90 #[uvVal x, .pointer (some ⟨B, 0, none⟩)] z fun e w' => e = .returned (.bool (P x.u)) ∧ Below z.heap.size z w') := hC
  clear hok hC hA
  go_enter Tryz.func108, Tryz.ntmps108
  go_wp2_with fail
  go_loopw [8] (fun iv wr => ∃ k : Nat, k ≤ q.length ∧ iv = .int .i64 k ∧ Hid ((ups q).any P = ((ups (q.drop k)).any P)) ∧ Below w.heap.size w wr) (fun iv _ => q.length - (intOf iv).toNat)
  case atStart => exact ⟨0, Nat.zero_le _, rfl, rfl, Below.refl _ _⟩
  case round =>
    obtain ⟨k, hk, rfl, HR, hbw⟩ := hrel
    by_cases hlt : k < q.length
    · obtain ⟨b, off, rfl, c0, c1, c2, c3, c4⟩ := ups_at (HA.out.kc (Kc.below hbw)) k hlt
      have HD : Hid ((ups q).any P = (P (uvD q k).u || (ups (q.drop (k + 1))).any P)) := by
        show _ = _
        rw [HR.out, uvD_drop q k hlt]
        rfl
      have hm := uvD_mem q k hlt
      have HX : Hid (Calls Tryz.prog 90 #[uvVal (uvD q k), .pointer (some ⟨B, 0, none⟩)] wr fun e w' => e = .returned (.bool (P (uvD q k).u)) ∧ Below wr.heap.size wr w') := HC.out wr _ hbw hm
      obtain ⟨a1, n1, d1, a2, n2, d2, a3, n3, d3, e1, e2, e3⟩ := (HF.out _ hm).forms
      clear HR hm
      generalize uvD q k = x at *
      generalize P x.u = bx at *
      obtain ⟨⟨⟨ua, un⟩, ps, says, ts⟩, vp, vs, vt⟩ := x
      dsimp only at *
      subst e1 e2 e3
      cases bx
      · go_wp2_with (go_at_call 90; refine Calls.mono HX.out ?_; rintro e z1 ⟨rfl, hg1⟩)
        have hb1 := hbw.trans (hg1.mono hbw.size)
        go_roundw
        case rel => exact ⟨k + 1, hlt, by go_num, HD.out.trans (by rw [Bool.false_or]), hb1⟩
        case measure => simp [intOf]; omega
      · go_wp2_with (go_at_call 90; refine Calls.mono HX.out ?_; rintro e z1 ⟨rfl, hg1⟩)
        go_ret
        exact ⟨k, rfl, by rw [HD.out, decide_eq_true (by omega)]; rfl, hbw.trans (hg1.mono hbw.size)⟩
    · have hdd : decide (k < q.length) = false := decide_eq_false hlt
      have HE : Hid ((ups q).any P = false) := by
        show _ = _
        rw [HR.out, List.drop_of_length_le (by omega)]
        rfl
      go_wp2_with fail
      go_ret
      exact ⟨-1, rfl, by rw [HE.out]; rfl, hbw⟩
set_option maxRecDepth 100000 in
set_option maxHeartbeats 1000000 in
theorem containsB_any (B : Nat) (P : Wr.Up → Bool) (q : List Uv) (v : Value) (w : World) (hV : UpsV w v q) (hl : q.length ≤ 1000) (hok : ∀ x, x ∈ q → UvOk w x) (hC : ∀ z x, Below w.heap.size w z → x ∈ q → Calls Tryz.prog 90 #[uvVal x, .pointer (some ⟨B, 0, none⟩)] z fun e w' => e = .returned (.bool (P x.u)) ∧ Below z.heap.size z w') :
    Calls Tryz.prog 88 #[v, .func (.func 90) #[] #[.pointer (some ⟨B, 0, none⟩)]] w fun e w' => e = .returned (.bool ((ups q).any P)) ∧ Below w.heap.size w w' := by
  have HC : Hid _ := indexB_any B P q v w hV hl hok hC
  obtain ⟨ao, cap, rfl, _⟩ := id hV
  generalize (ups q).any P = bb at *
  clear hV hok hC
  go_enter Tryz.func88, Tryz.ntmps88
  go_wp2_with (go_at_call 108; refine Calls.mono HC.out ?_; rintro e z1 ⟨r, rfl, hr, hg1⟩)
  go_ret
  exact ⟨by rw [← hr]; rfl, hg1⟩
set_option maxRecDepth 100000 in
set_option maxHeartbeats 1000000 in
theorem indexC_any (B : Nat) (P : Wr.Up → Bool) (q : List Uv) (v : Value) (w : World) (hV : UpsV w v q) (hl : q.length ≤ 1000) (hok : ∀ x, x ∈ q → UvOk w x) (hC : ∀ z x, Below w.heap.size w z → x ∈ q → Calls Tryz.prog 73 #[.map (some B), uvVal x] z fun e w' => e = .returned (.bool (P x.u)) ∧ Below z.heap.size z w') :
    Calls Tryz.prog 108 #[v, .func (.func 73) #[.map (some B)] #[]] w fun e w' => ∃ r : Int, e = .returned (.int .i64 r) ∧ (decide (0 ≤ r) = (ups q).any P) ∧ Below w.heap.size w w' := by
  obtain ⟨ao, cap, rfl, _, hA⟩ := hV
  have HA : Hid (UpsAt w ao q) := hA
  have HF : Hid (∀ x, x ∈ q → UvOk w x) := hok
  have HC : Hid (∀ z x, Below w.heap.size w z → x ∈ q → Calls Tryz.prog 73 #[.map (some B), uvVal x] z fun e w' => e = .returned (.bool (P x.u)) ∧ Below z.heap.size z w') := hC
  clear hok hC hA
  go_enter Tryz.func108, Tryz.ntmps108
  go_wp2_with fail
  go_loopw [8] (fun iv wr => ∃ k : Nat, k ≤ q.length ∧ iv = .int .i64 k ∧ Hid ((ups q).any P = ((ups (q.drop k)).any P)) ∧ Below w.heap.size w wr) (fun iv _ => q.length - (intOf iv).toNat)
  case atStart => exact ⟨0, Nat.zero_le _, rfl, rfl, Below.refl _ _⟩
  case round =>
    obtain ⟨k, hk, rfl, HR, hbw⟩ := hrel
    by_cases hlt : k < q.length
    · obtain ⟨b, off, rfl, c0, c1, c2, c3, c4⟩ := ups_at (HA.out.kc (Kc.below hbw)) k hlt
      have HD : Hid ((ups q).any P = (P (uvD q k).u || (ups (q.drop (k + 1))).any P)) := by
        show _ = _
        rw [HR.out, uvD_drop q k hlt]
        rfl
      have hm := uvD_mem q k hlt
      have HX : Hid (Calls Tryz.prog 73 #[.map (some B), uvVal (uvD q k)] wr fun e w' => e = .returned (.bool (P (uvD q k).u)) ∧ Below wr.heap.size wr w') := HC.out wr _ hbw hm
      obtain ⟨a1, n1, d1, a2, n2, d2, a3, n3, d3, e1, e2, e3⟩ := (HF.out _ hm).forms
      clear HR hm
      generalize uvD q k = x at *
      generalize P x.u = bx at *
      obtain ⟨⟨⟨ua, un⟩, ps, says, ts⟩, vp, vs, vt⟩ := x
      dsimp only at *
      subst e1 e2 e3
      cases bx
      · go_wp2_with (go_at_call 73; refine Calls.mono HX.out ?_; rintro e z1 ⟨rfl, hg1⟩)
        have hb1 := hbw.trans (hg1.mono hbw.size)
        go_roundw
        case rel => exact ⟨k + 1, hlt, by go_num, HD.out.trans (by rw [Bool.false_or]), hb1⟩
        case measure => simp [intOf]; omega
      · go_wp2_with (go_at_call 73; refine Calls.mono HX.out ?_; rintro e z1 ⟨rfl, hg1⟩)
        go_ret
        exact ⟨k, rfl, by rw [HD.out, decide_eq_true (by omega)]; rfl, hbw.trans (hg1.mono hbw.size)⟩
    · have hdd : decide (k < q.length) = false := decide_eq_false hlt
      have HE : Hid ((ups q).any P = false) := by
        show _ = _
        rw [HR.out, List.drop_of_length_le (by omega)]
        rfl
      go_wp2_with fail
      go_ret
      exact ⟨-1, rfl, by rw [HE.out]; rfl, hbw⟩
set_option maxRecDepth 100000 in
set_option maxHeartbeats 1000000 in
theorem containsC_any (B : Nat) (P : Wr.Up → Bool) (q : List Uv) (v : Value) (w : World) (hV : UpsV w v q) (hl : q.length ≤ 1000) (hok : ∀ x, x ∈ q → UvOk w x) (hC : ∀ z x, Below w.heap.size w z → x ∈ q → Calls Tryz.prog 73 #[.map (some B), uvVal x] z fun e w' => e = .returned (.bool (P x.u)) ∧ Below z.heap.size z w') :
    Calls Tryz.prog 88 #[v, .func (.func 73) #[.map (some B)] #[]] w fun e w' => e = .returned (.bool ((ups q).any P)) ∧ Below w.heap.size w w' := by
  have HC : Hid _ := indexC_any B P q v w hV hl hok hC
  obtain ⟨ao, cap, rfl, _⟩ := id hV
  generalize (ups q).any P = bb at *
  clear hV hok hC
  go_enter Tryz.func88, Tryz.ntmps88
  go_wp2_with (go_at_call 108; refine Calls.mono HC.out ?_; rintro e z1 ⟨r, rfl, hr, hg1⟩)
  go_ret
  exact ⟨by rw [← hr]; rfl, hg1⟩
end Go.Proofs.YtmfaodapofamfaaGreat

