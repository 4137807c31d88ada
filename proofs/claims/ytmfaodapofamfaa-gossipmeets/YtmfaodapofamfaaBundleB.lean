/- Own texts, one behind the other (part 2). -/
import Derived.Test.YtmfaodapofamfaaBundleA
import Derived.Test.YtmfaodapofamfaaRows
import Derived.Maps.RangeWalk
import Derived.Maps.OwnSet
import Derived.DeepKeys4
import Derived.WalkKit
import Derived.WalkSpells
import Derived.WalkLawsBesides
import Derived.Deep.QuietTactic
import Derived.BigQuiet
import Derived.Shelf.SlSortCmp.WholeK
import Derived.Ground.SlsfProg
import Derived.RegionTactic
import Derived.BigRegion
import Derived.Lib.SliceRun
import Derived.Lib.LazyBuf
import Derived.Shelf.SlSortCmp.NoneTotal
import Derived.Laws.AppendOwnNone
import Derived.Lib.AppendZeros
/- Updates that hang on others, plain: who is come to, what is left, and that it hangs on no order; nothing of the program stands here. -/
namespace Go.Proofs.Ytmfaodapofamfaa
namespace Dg
open Wr

def uOrd (a b : Up) : Int := idOrd a.id b.id
def hasU (l : List Up) (x : Wr.Id) : Bool := l.any fun u => decide (u.id = x)
def under (u : Up) : List Wr.Id := u.ps ++ u.ts
def carry (l : List Up) (u : Up) : Bool := (under u).all (hasU l)
theorem hasU_iff {l : List Up} {x : Wr.Id} : hasU l x = true ↔ ∃ u, u ∈ l ∧ u.id = x := by
  unfold hasU
  rw [List.any_eq_true]
  constructor
  · rintro ⟨u, h, e⟩; exact ⟨u, h, of_decide_eq_true e⟩
  · rintro ⟨u, h, e⟩; exact ⟨u, h, decide_eq_true e⟩
theorem carry_iff {l : List Up} {u : Up} : carry l u = true ↔ ∀ x, x ∈ under u → hasU l x = true := by
  unfold carry
  rw [List.all_eq_true]
/-- Who is come to. -/
inductive Cm (l : List Up) : Wr.Id → Prop
  | mk (u : Up) (hu : u ∈ l) (h : ∀ x, x ∈ under u → Cm l x) : Cm l u.id
theorem Cm.mono {l m : List Up} (h : ∀ u, u ∈ l → u ∈ m) {x : Wr.Id} (hx : Cm l x) : Cm m x := by
  induction hx with
  | mk u hu _ ih => exact .mk u (h u hu) ih
theorem Cm.has {l : List Up} {x : Wr.Id} (h : Cm l x) : hasU l x = true := by
  cases h with
  | mk u hu _ => exact hasU_iff.mpr ⟨u, hu, rfl⟩
/-- No two have one id. -/
def Apart (l : List Up) : Prop := ∀ u v, u ∈ l → v ∈ l → u.id = v.id → u = v
theorem Cm.under {l : List Up} (hA : Apart l) {u : Up} (hu : u ∈ l) (h : Cm l u.id) : ∀ x, x ∈ Dg.under u → Cm l x := by
  generalize e : u.id = y at h
  cases h with
  | mk v hv hx =>
    have := hA u v hu hv e
    subst this
    exact hx

/-- Each of some updates goes to those that have come, if all that it hangs on is among them. f: where it is put. -/
def pass (f : List Up → Up → List Up) : List Up → List Up → List Up × List Up
  | c, [] => (c, [])
  | c, u :: r => if carry c u then pass f (f c u) r else ((pass f c r).1, u :: (pass f c r).2)
theorem pass_len (f : List Up → Up → List Up) : ∀ (l c : List Up), (pass f c l).2.length ≤ l.length
  | [], _ => Nat.le_refl _
  | u :: r, c => by
    unfold pass
    split
    · exact Nat.le_succ_of_le (pass_len f r _)
    · exact Nat.succ_le_succ (pass_len f r c)
/-- Again and again. -/
def settle (f : List Up → Up → List Up) (c l : List Up) : List Up × List Up :=
  if (pass f c l).2.length = l.length then pass f c l
  else settle f (pass f c l).1 (pass f c l).2
termination_by l.length
decreasing_by
  have := pass_len f l c
  omega
theorem settle_end {f : List Up → Up → List Up} {c l : List Up} (h : (pass f c l).2.length = l.length) : settle f c l = pass f c l := by
  rw [settle, if_pos h]
theorem settle_on {f : List Up → Up → List Up} {c l : List Up} (h : ¬ (pass f c l).2.length = l.length) : settle f c l = settle f (pass f c l).1 (pass f c l).2 := by
  rw [settle, if_neg h]
def Puts (f : List Up → Up → List Up) : Prop := ∀ c u, (f c u).Perm (u :: c)
theorem pass_perm {f : List Up → Up → List Up} (hf : Puts f) : ∀ (l c : List Up), ((pass f c l).1 ++ (pass f c l).2).Perm (c ++ l)
  | [], c => by simp [pass]
  | u :: r, c => by
    unfold pass
    split
    · refine (pass_perm hf r _).trans ?_
      refine ((hf c u).append_right r).trans ?_
      exact List.perm_middle.symm
    · refine List.perm_middle.trans ?_
      refine ((pass_perm hf r c).cons u).trans ?_
      exact List.perm_middle.symm
theorem pass_same {f : List Up → Up → List Up} : ∀ (l c : List Up), (pass f c l).2.length = l.length → (pass f c l).1 = c ∧ (pass f c l).2 = l ∧ ∀ u, u ∈ l → carry c u = false
  | [], c, _ => ⟨rfl, rfl, by simp⟩
  | u :: r, c, h => by
    unfold pass at h ⊢
    split at h
    · have := pass_len f r (f c u)
      simp only [List.length_cons] at h
      omega
    · rename_i hc
      rw [if_neg hc]
      simp only [List.length_cons, Nat.add_right_cancel_iff] at h
      obtain ⟨h1, h2, h3⟩ := pass_same r c h
      refine ⟨h1, by rw [h2], ?_⟩
      intro v hv
      rcases List.mem_cons.mp hv with rfl | hv
      · simpa using hc
      · exact h3 v hv
theorem pass_cm {f : List Up → Up → List Up} (hf : Puts f) (all : List Up) : ∀ (l c : List Up), (∀ u, u ∈ l → u ∈ all) → (∀ u, u ∈ c → Cm all u.id) → ∀ u, u ∈ (pass f c l).1 → Cm all u.id
  | [], c, _, hc => by simpa [pass] using hc
  | v :: r, c, hl, hc => by
    unfold pass
    split
    · rename_i hv
      refine pass_cm hf all r _ (fun u hu => hl u (by simp [hu])) (fun u hu => ?_)
      rcases List.mem_cons.mp ((hf c v).mem_iff.mp hu) with rfl | hu
      · refine .mk u (hl u (by simp)) (fun x hx => ?_)
        obtain ⟨y, hy, rfl⟩ := hasU_iff.mp (carry_iff.mp hv x hx)
        exact hc y hy
      · exact hc u hu
    · exact pass_cm hf all r c (fun u hu => hl u (by simp [hu])) hc
theorem pass_yes {f : List Up → Up → List Up} {c r : List Up} {u : Up} (h : carry c u = true) : pass f c (u :: r) = pass f (f c u) r := by
  rw [pass, if_pos h]
theorem pass_no {f : List Up → Up → List Up} {c r : List Up} {u : Up} (h : carry c u = false) : pass f c (u :: r) = ((pass f c r).1, u :: (pass f c r).2) := by
  rw [pass, if_neg (by simp [h])]

/-- What it all ends in. -/
structure Ends (all c l : List Up) : Prop where
  perm : (c ++ l).Perm all
  come : ∀ u, u ∈ c → Cm all u.id
  left : ∀ u, u ∈ l → carry c u = false
theorem settle_ends {f : List Up → Up → List Up} (hf : Puts f) (all : List Up) : ∀ (n : Nat) (l c : List Up), l.length = n → (c ++ l).Perm all → (∀ u, u ∈ c → Cm all u.id) → Ends all (settle f c l).1 (settle f c l).2 := by
  intro n
  induction n using Nat.strongRecOn with
  | ind n ih =>
    intro l c hn hp hc
    have hl : ∀ u, u ∈ l → u ∈ all := fun u hu => hp.mem_iff.mp (List.mem_append_right _ hu)
    by_cases h : (pass f c l).2.length = l.length
    · rw [settle_end h]
      obtain ⟨h1, h2, h3⟩ := pass_same l c h
      rw [h1, h2]
      exact ⟨hp, hc, h3⟩
    · rw [settle_on h]
      have := pass_len f l c
      exact ih _ (by omega) _ _ rfl ((pass_perm hf l c).trans hp) (pass_cm hf all l c hl hc)
/-- Those that are come to, and those that are not. -/
structure Parts (all h w : List Up) : Prop where
  has : ∀ u, u ∈ h ↔ u ∈ all ∧ Cm all u.id
  waits : ∀ u, u ∈ w ↔ u ∈ all ∧ ¬ Cm all u.id
theorem Ends.parts {all c l : List Up} (h : Ends all c l) (hA : Apart all) : Parts all c l := by
  have key : ∀ x, Cm all x → hasU c x = true := by
    intro x hx
    induction hx with
    | mk u hu _ ih =>
      rcases List.mem_append.mp (h.perm.mem_iff.mpr hu) with hc | hl
      · exact hasU_iff.mpr ⟨u, hc, rfl⟩
      · have := h.left u hl
        rw [carry_iff.mpr ih] at this
        cases this
  have hin : ∀ u, u ∈ all → Cm all u.id → u ∈ c := fun u hu hx => by
    obtain ⟨v, hv, e⟩ := hasU_iff.mp (key _ hx)
    have := hA v u (h.perm.mem_iff.mp (List.mem_append_left _ hv)) hu e
    exact this ▸ hv
  have hno : ∀ u, u ∈ l → ¬ Cm all u.id := fun u hu hx => by
    have hua := h.perm.mem_iff.mp (List.mem_append_right _ hu)
    have h1 := h.left u hu
    rw [carry_iff.mpr (fun x hxu => key x (Cm.under hA hua hx x hxu))] at h1
    cases h1
  refine ⟨fun u => ⟨fun hu => ⟨h.perm.mem_iff.mp (List.mem_append_left _ hu), h.come u hu⟩, fun hu => hin u hu.1 hu.2⟩, fun u => ⟨fun hu => ⟨h.perm.mem_iff.mp (List.mem_append_right _ hu), hno u hu⟩, fun hu => ?_⟩⟩
  rcases List.mem_append.mp (h.perm.mem_iff.mpr hu.1) with hc | hl
  · exact absurd (h.come u hc) hu.2
  · exact hl
theorem Parts.congr {all all' h w : List Up} (hp : Parts all h w) (he : ∀ u, u ∈ all ↔ u ∈ all') : Parts all' h w := by
  have hc : ∀ x, Cm all x ↔ Cm all' x := fun x => ⟨Cm.mono fun u => (he u).mp, Cm.mono fun u => (he u).mpr⟩
  refine ⟨fun u => ?_, fun u => ?_⟩
  · rw [hp.has, he, hc]
  · rw [hp.waits, he, hc]
theorem Parts.mem {all h w : List Up} (hp : Parts all h w) (u : Up) : u ∈ h ∨ u ∈ w ↔ u ∈ all := by
  rw [hp.has, hp.waits]
  constructor
  · rintro (h | h) <;> exact h.1
  · intro hu
    by_cases hc : Cm all u.id
    · exact .inl ⟨hu, hc⟩
    · exact .inr ⟨hu, hc⟩
/-- Those that are come to carry themselves. -/
theorem Parts.carry {all h w : List Up} (hp : Parts all h w) (hA : Apart all) : ∀ u, u ∈ h → Dg.carry h u = true := fun u hu => by
  obtain ⟨h1, h2⟩ := (hp.has u).mp hu
  refine carry_iff.mpr fun x hx => ?_
  have hc := Cm.under hA h1 h2 x hx
  obtain ⟨v, hv, e⟩ := hasU_iff.mp hc.has
  exact hasU_iff.mpr ⟨v, (hp.has v).mpr ⟨hv, e ▸ hc⟩, e⟩
theorem Parts.come {all h w : List Up} (hp : Parts all h w) : ∀ x, Cm all x → Cm h x := by
  intro x hx
  induction hx with
  | mk u hu hx ih => exact .mk u ((hp.has u).mpr ⟨hu, .mk u hu hx⟩) ih
theorem Parts.wait {all h w : List Up} (hp : Parts all h w) : ∀ u, u ∈ w → Dg.carry h u = false := fun u hu => by
  obtain ⟨h1, h2⟩ := (hp.waits u).mp hu
  cases hc : Dg.carry h u with
  | false => rfl
  | true =>
    refine absurd (Cm.mk u h1 fun x hx => ?_) h2
    obtain ⟨v, hv, e⟩ := hasU_iff.mp (carry_iff.mp hc x hx)
    exact e ▸ ((hp.has v).mp hv).2

/-! Order. -/
theorem cmpI_neg {a b : Int} : Rl.cmpI a b < 0 ↔ a < b := by
  unfold Rl.cmpI
  split
  · simp [*]
  · split <;> simp [*]
theorem cmpI_nul {a b : Int} : Rl.cmpI a b = 0 ↔ a = b := by
  unfold Rl.cmpI
  split
  · constructor
    · intro h; cases h
    · intro h; omega
  · split
    · constructor
      · intro h; cases h
      · intro h; omega
    · constructor
      · intro _; omega
      · intro _; rfl
theorem idOrd_neg {x y : Wr.Id} : idOrd x y < 0 ↔ x.a < y.a ∨ (x.a = y.a ∧ x.n < y.n) := by
  unfold idOrd
  by_cases h : x.a = y.a
  · rw [if_pos (cmpI_nul.mpr h), cmpI_neg]
    constructor
    · intro h2; exact .inr ⟨h, h2⟩
    · rintro (h2 | h2)
      · omega
      · exact h2.2
  · rw [if_neg (fun e => h (cmpI_nul.mp e)), cmpI_neg]
    constructor
    · intro h2; exact .inl h2
    · rintro (h2 | h2)
      · exact h2
      · exact absurd h2.1 h
theorem idOrd_nul {x y : Wr.Id} : idOrd x y = 0 ↔ x = y := by
  obtain ⟨a, n⟩ := x
  obtain ⟨b, m⟩ := y
  unfold idOrd
  by_cases h : a = b
  · rw [if_pos (cmpI_nul.mpr h), cmpI_nul]
    simp [h]
  · rw [if_neg (fun e => h (cmpI_nul.mp e)), cmpI_nul]
    simp [h]
theorem uOrd_trans {a b c : Up} (h : uOrd a b < 0) (k : uOrd b c < 0) : uOrd a c < 0 := by
  unfold uOrd at *
  rw [idOrd_neg] at *
  omega
theorem uOrd_total {a b : Up} (h : ¬ uOrd a b < 0) (hne : a.id ≠ b.id) : uOrd b a < 0 := by
  unfold uOrd at *
  rw [idOrd_neg] at *
  have : ¬ (a.id.a = b.id.a ∧ a.id.n = b.id.n) := fun e => hne (by cases h1 : a.id; cases h2 : b.id; simp [h1, h2] at e ⊢; exact e)
  omega
theorem uOrd_ne {a b : Up} (h : uOrd a b < 0) : a.id ≠ b.id := fun e => by
  unfold uOrd at h
  rw [idOrd_nul.mpr e] at h
  omega
theorem rise_cons {u : Up} {l : List Up} : rise uOrd (u :: l) = true ↔ (∀ v, v ∈ l → uOrd u v < 0) ∧ rise uOrd l = true := by
  induction l generalizing u with
  | nil => simp [rise]
  | cons a r ih =>
    show (decide (uOrd u a < 0) && rise uOrd (a :: r)) = true ↔ _
    rw [Bool.and_eq_true, decide_eq_true_eq, ih]
    constructor
    · rintro ⟨h1, h2, h3⟩
      refine ⟨fun v hv => ?_, h2, h3⟩
      rcases List.mem_cons.mp hv with rfl | hv
      · exact h1
      · exact uOrd_trans h1 (h2 v hv)
    · rintro ⟨h1, h2, h3⟩
      exact ⟨h1 a (by simp), h2, h3⟩
theorem rise_apart : ∀ {l : List Up}, rise uOrd l = true → Apart l
  | [], _ => by intro u v hu; simp at hu
  | a :: r, h => by
    obtain ⟨h1, h2⟩ := rise_cons.mp h
    intro u v hu hv e
    rcases List.mem_cons.mp hu with e1 | hu' <;> rcases List.mem_cons.mp hv with e2 | hv'
    · rw [e1, e2]
    · exact absurd e (uOrd_ne (e1 ▸ h1 v hv'))
    · exact absurd e.symm (uOrd_ne (e2 ▸ h1 u hu'))
    · exact rise_apart h2 u v hu' hv' e
theorem rise_one : ∀ {l m : List Up}, rise uOrd l = true → rise uOrd m = true → (∀ u, u ∈ l ↔ u ∈ m) → l = m
  | [], [], _, _, _ => rfl
  | [], b :: s, _, _, h => absurd ((h b).mpr (by simp)) (by simp)
  | a :: r, [], _, _, h => absurd ((h a).mp (by simp)) (by simp)
  | a :: r, b :: s, hl, hm, h => by
    obtain ⟨l1, l2⟩ := rise_cons.mp hl
    obtain ⟨m1, m2⟩ := rise_cons.mp hm
    have irr : ∀ x : Up, ¬ uOrd x x < 0 := fun x hx => uOrd_ne hx rfl
    have hab : a = b := by
      rcases List.mem_cons.mp ((h a).mp (by simp)) with e | ha
      · exact e
      · rcases List.mem_cons.mp ((h b).mpr (by simp)) with e | hb
        · exact e.symm
        · exact absurd (uOrd_trans (l1 b hb) (m1 a ha)) (irr a)
    subst hab
    have : r = s := rise_one l2 m2 (fun u => ?_)
    · rw [this]
    · constructor
      · intro hu
        rcases List.mem_cons.mp ((h u).mp (by simp [hu])) with rfl | hu2
        · exact absurd (l1 _ hu) (irr _)
        · exact hu2
      · intro hu
        rcases List.mem_cons.mp ((h u).mpr (by simp [hu])) with rfl | hu2
        · exact absurd (m1 _ hu) (irr _)
        · exact hu2
theorem rise_nodup : ∀ {l : List Up}, rise uOrd l = true → (l.map Up.id).Nodup
  | [], _ => by simp
  | a :: r, h => by
    obtain ⟨h1, h2⟩ := rise_cons.mp h
    rw [List.map_cons, List.nodup_cons]
    refine ⟨fun hm => ?_, rise_nodup h2⟩
    obtain ⟨v, hv, e⟩ := List.mem_map.mp hm
    exact uOrd_ne (h1 v hv) e.symm
theorem apart_of_nodup : ∀ {l : List Up}, (l.map Up.id).Nodup → Apart l
  | [], _ => by intro u v hu; simp at hu
  | a :: r, h => by
    rw [List.map_cons, List.nodup_cons] at h
    intro u v hu hv e
    rcases List.mem_cons.mp hu with e1 | hu' <;> rcases List.mem_cons.mp hv with e2 | hv'
    · rw [e1, e2]
    · exact absurd (List.mem_map.mpr ⟨v, hv', e1 ▸ e.symm⟩) h.1
    · exact absurd (List.mem_map.mpr ⟨u, hu', e2 ▸ e⟩) h.1
    · exact apart_of_nodup h.2 u v hu' hv' e

/-! Check. -/
def snoc (c : List Up) (u : Up) : List Up := c ++ [u]
theorem puts_snoc : Puts snoc := fun c u => by
  unfold snoc
  exact List.perm_append_comm
def bad (u : Up) : Bool := decide (Wr.check u ≠ 0)
def first (l : List Up) : Int := match l.find? bad with | some u => Wr.check u | none => 0
def together (h w : List Up) : Int :=
  if (rise uOrd h && rise uOrd w && !(w.any fun u => hasU h u.id)) = false then 4
  else if (h.any fun u => !carry h u) = true then 5
  else if ((settle snoc [] h).2.length != 0 || w.any (carry h)) = true then 4 else 0
def check (h w : List Up) : Int :=
  if 200 < h.length + w.length then 2
  else if first (h ++ w) ≠ 0 then first (h ++ w)
  else together h w
theorem first_ok {l : List Up} : first l = 0 ↔ ∀ u, u ∈ l → Wr.check u = 0 := by
  unfold first
  cases h : l.find? bad with
  | none =>
    simp only [true_iff]
    intro u hu
    have := List.find?_eq_none.mp h u hu
    simpa [bad] using this
  | some u =>
    have h1 := List.find?_some h
    have h2 := List.mem_of_find?_eq_some h
    have h3 : Wr.check u ≠ 0 := by simpa [bad] using h1
    exact ⟨fun e => absurd e h3, fun e => absurd (e u h2) h3⟩
/-- A replica that is right. -/
structure Ok (h w : List Up) : Prop where
  few : h.length + w.length ≤ 200
  each : ∀ u, u ∈ h ++ w → Wr.check u = 0
  rh : rise uOrd h = true
  rw_ : rise uOrd w = true
  apart : ∀ u, u ∈ w → hasU h u.id = false
  parts : Parts (h ++ w) h w
theorem apart_app {h w : List Up} (h1 : rise uOrd h = true) (h2 : rise uOrd w = true) (h3 : ∀ u, u ∈ w → hasU h u.id = false) : Apart (h ++ w) := by
  intro u v hu hv e
  have no : ∀ a b, a ∈ h → b ∈ w → a.id ≠ b.id := fun a b ha hb e => by
    have := h3 b hb
    rw [hasU_iff.mpr ⟨a, ha, e⟩] at this
    cases this
  rcases List.mem_append.mp hu with hu | hu <;> rcases List.mem_append.mp hv with hv | hv
  · exact rise_apart h1 u v hu hv e
  · exact absurd e (no u v hu hv)
  · exact absurd e.symm (no v u hv hu)
  · exact rise_apart h2 u v hu hv e
theorem nodup_app {h w : List Up} (h1 : rise uOrd h = true) (h2 : rise uOrd w = true) (h3 : ∀ u, u ∈ w → hasU h u.id = false) : ((h ++ w).map Up.id).Nodup := by
  rw [List.map_append, List.nodup_append]
  refine ⟨rise_nodup h1, rise_nodup h2, fun a ha b hb e => ?_⟩
  obtain ⟨x, hx, rfl⟩ := List.mem_map.mp ha
  obtain ⟨y, hy, rfl⟩ := List.mem_map.mp hb
  have := h3 y hy
  rw [hasU_iff.mpr ⟨x, hx, e⟩] at this
  cases this
theorem round_iff {h : List Up} (hA : Apart h) : (settle snoc [] h).2 = [] ↔ ∀ u, u ∈ h → Cm h u.id := by
  have hE := settle_ends puts_snoc h h.length h [] rfl (by simp) (by simp)
  have hP := hE.parts hA
  constructor
  · intro e u hu
    have h1 := (hP.mem u).mpr hu
    rw [e] at h1
    rcases h1 with h1 | h1
    · exact hE.come u h1
    · simp at h1
  · intro hc
    cases e : (settle snoc [] h).2 with
    | nil => rfl
    | cons a r =>
      have := (hP.waits a).mp (by rw [e]; simp)
      exact absurd (hc a this.1) this.2
theorem together_ok {h w : List Up} (hl : h.length + w.length ≤ 200) (he : ∀ u, u ∈ h ++ w → Wr.check u = 0) : together h w = 0 ↔ Ok h w := by
  unfold together
  constructor
  · intro ht
    split at ht
    · cases ht
    · rename_i h1
      split at ht
      · cases ht
      · rename_i h2
        split at ht
        · cases ht
        · rename_i h3
          simp only [Bool.not_eq_false, Bool.and_eq_true, Bool.not_eq_true', List.any_eq_false, Bool.not_eq_true] at h1
          have hap := apart_app h1.1.1 h1.1.2 h1.2
          simp only [Bool.not_eq_true, Bool.or_eq_false_iff, bne_eq_false_iff_eq] at h3
          have h4 := (round_iff (rise_apart h1.1.1)).mp (List.eq_nil_of_length_eq_zero h3.1)
          have h5 : ∀ u, u ∈ w → carry h u = false := fun u hu => by
            have := List.any_eq_false.mp h3.2 u hu
            simpa using this
          refine ⟨hl, he, h1.1.1, h1.1.2, h1.2, Ends.parts ⟨.refl _, fun u hu => (h4 u hu).mono (fun v hv => List.mem_append_left _ hv), h5⟩ hap⟩
  · intro o
    have hap := apart_app o.rh o.rw_ o.apart
    have h1 : (rise uOrd h && rise uOrd w && !(w.any fun u => hasU h u.id)) = true := by
      rw [o.rh, o.rw_]
      simp only [Bool.and_self, Bool.true_and, Bool.not_eq_true', List.any_eq_false]
      intro u hu
      rw [o.apart u hu]
      simp
    rw [if_neg (by rw [h1]; simp)]
    have h2 : (h.any fun u => !carry h u) = false := by
      rw [List.any_eq_false]
      intro u hu
      rw [o.parts.carry hap u hu]
      simp
    rw [if_neg (by rw [h2]; simp)]
    have h3 : (settle snoc [] h).2 = [] := (round_iff (rise_apart o.rh)).mpr (fun u hu => o.parts.come _ ((o.parts.has u).mp hu).2)
    have h4 : w.any (carry h) = false := by
      rw [List.any_eq_false]
      intro u hu
      rw [o.parts.wait u hu]
      simp
    rw [h3, h4]
    rfl
theorem check_ok {h w : List Up} : check h w = 0 ↔ Ok h w := by
  unfold check
  constructor
  · intro hc
    split at hc
    · cases hc
    · split at hc
      · rename_i h2
        exact absurd hc h2
      · rename_i h1 h2
        exact (together_ok (by omega) (first_ok.mp (by simpa using h2))).mp hc
  · intro o
    rw [if_neg (by have := o.few; omega), if_neg (by rw [first_ok.mpr o.each]; simp)]
    exact (together_ok o.few o.each).mpr o

/-! Add. -/
/-- All there are with one more. -/
def more (l : List Up) (u : Up) : List Up := if hasU l u.id then l else l ++ [u]
/-- What a replica of some updates is. -/
structure Is (all h w : List Up) : Prop where
  parts : Parts all h w
  rh : rise uOrd h = true
  rw_ : rise uOrd w = true
theorem Is.one {all h w h' w' : List Up} (a : Is all h w) (b : Is all h' w') : h = h' ∧ w = w' :=
  ⟨rise_one a.rh b.rh fun u => by rw [a.parts.has, b.parts.has], rise_one a.rw_ b.rw_ fun u => by rw [a.parts.waits, b.parts.waits]⟩
theorem Is.congr {all all' h w : List Up} (a : Is all h w) (he : ∀ u, u ∈ all ↔ u ∈ all') : Is all' h w := ⟨a.parts.congr he, a.rh, a.rw_⟩
theorem Ok.is {h w : List Up} (o : Ok h w) : Is (h ++ w) h w := ⟨o.parts, o.rh, o.rw_⟩
theorem Ok.ap {h w : List Up} (o : Ok h w) : Apart (h ++ w) := apart_app o.rh o.rw_ o.apart
theorem Ok.nd {h w : List Up} (o : Ok h w) : ((h ++ w).map Up.id).Nodup := nodup_app o.rh o.rw_ o.apart
theorem Is.ok {all h w : List Up} (a : Is all h w) (hA : Apart all) (he : ∀ u, u ∈ all → Wr.check u = 0) (hl : h.length + w.length ≤ 200) : Ok h w := by
  refine ⟨hl, fun u hu => he u ((a.parts.mem u).mp (List.mem_append.mp hu)), a.rh, a.rw_, fun u hu => ?_, a.parts.congr fun u => by rw [← a.parts.mem u, List.mem_append]⟩
  cases hx : hasU h u.id with
  | false => rfl
  | true =>
    obtain ⟨v, hv, e⟩ := hasU_iff.mp hx
    obtain ⟨v1, v2⟩ := (a.parts.has v).mp hv
    obtain ⟨u1, u2⟩ := (a.parts.waits u).mp hu
    have := hA v u v1 u1 e
    subst this
    exact absurd v2 u2
theorem more_nodup {l : List Up} {u : Up} (h : (l.map Up.id).Nodup) : ((more l u).map Up.id).Nodup := by
  unfold more
  split
  · exact h
  · rename_i hn
    rw [List.map_append, List.nodup_append]
    refine ⟨h, by simp, fun a ha b hb e => ?_⟩
    obtain ⟨x, hx, rfl⟩ := List.mem_map.mp ha
    simp only [List.map_cons, List.map_nil, List.mem_singleton] at hb
    exact hn (hasU_iff.mpr ⟨x, hx, e.trans hb⟩)
theorem more_mem {l : List Up} {u v : Up} : v ∈ more l u ↔ v ∈ l ∨ (hasU l u.id = false ∧ v = u) := by
  unfold more
  cases h : hasU l u.id <;> simp
/-- What the program does: all of them, from the beginning, sorted. -/
theorem is_settle {l h w : List Up} (hn : (l.map Up.id).Nodup) (h1 : ∀ u, u ∈ h ↔ u ∈ (settle snoc [] l).1) (h2 : ∀ u, u ∈ w ↔ u ∈ (settle snoc [] l).2) (r1 : rise uOrd h = true) (r2 : rise uOrd w = true) : Is l h w := by
  have hE := (settle_ends puts_snoc l l.length l [] rfl (by simp) (by simp)).parts (apart_of_nodup hn)
  exact ⟨⟨fun u => (h1 u).trans (hE.has u), fun u => (h2 u).trans (hE.waits u)⟩, r1, r2⟩
end Dg
end Go.Proofs.Ytmfaodapofamfaa

/- Maps of ids: those that have come, by their ids. -/
set_option maxRecDepth 100000
namespace Go.Proofs.Ytmfaodapofamfaa
open Go.RowKit Go.Maps

/-- An update, with the values that lie in its cells. -/
structure Uv where
  u : Wr.Up
  p : Value
  s : Value
  t : Value
abbrev uvCells (x : Uv) : List Value := [.int .i64 x.u.id.a, .int .i64 x.u.id.n, x.p, x.s, x.t]
abbrev uvVal (x : Uv) : Value := .agg #[.int .i64 x.u.id.a, .int .i64 x.u.id.n, x.p, x.s, x.t]
/-- It can be read. -/
structure UvOk (w : World) (x : Uv) : Prop where
  p : IdsV w x.p x.u.ps
  s : FactsV w x.s x.u.says
  t : IdsV w x.t x.u.ts
  f : ∀ f, f ∈ x.u.says → FFit f
  l : x.u.ps.length ≤ 9223372036854775807 ∧ x.u.says.length ≤ 9223372036854775807 ∧ x.u.ts.length ≤ 9223372036854775807
theorem UvOk.below {w w' : World} {x : Uv} (h : UvOk w x) (hb : Below w.heap.size w w') : UvOk w' x := ⟨idsV_below h.p hb, factsV_below h.s hb, idsV_below h.t hb, h.f, h.l⟩
theorem UvOk.forms {w : World} {x : Uv} (h : UvOk w x) : ∃ a1 n1 c1 a2 n2 c2 a3 n3 c3, x.p = .slice a1 n1 c1 ∧ x.s = .slice a2 n2 c2 ∧ x.t = .slice a3 n3 c3 := by
  obtain ⟨a1, c1, e1, _⟩ := h.p
  obtain ⟨a2, c2, e2, _⟩ := h.s
  obtain ⟨a3, c3, e3, _⟩ := h.t
  exact ⟨_, _, _, _, _, _, _, _, _, e1, e2, e3⟩
def ups (q : List Uv) : List Wr.Up := q.map (·.u)

def keyLit (x : Wr.Id) : Lit := .string (keyBytes [.int .i64 x.a, .int .i64 x.n])
theorem idLaid : laidOutB Try.prog = true := by kernel_rfl
theorem idLaw : Keyed Try.prog 30 := Keyed.of_law (deep_law_laid idLaid (m := 5) (by decide) (by decide) (by kernel_rfl) (by rw [Try.underlying30]))
theorem idKeyType : Try.prog.keyType 30 = true := by kernel_rfl
theorem idCellsOf : Try.prog.cellsOf 30 = 2 := by kernel_rfl
theorem intCells : Try.prog.cellsOf 3 = 1 := by kernel_rfl
theorem idDepth : Try.prog.types.size + 1 = 153 + 1 + 1 := by kernel_rfl
theorem wf_small {a : Int} (h : 0 ≤ a ∧ a ≤ 200) : (Lit.int .i64 a).wf = true := WalkArith.wf_i64 (by omega)
theorem isId_wf {x : Wr.Id} (h : Wr.isId x = true) : (Lit.int .i64 x.a).wf = true ∧ (Lit.int .i64 x.n).wf = true := by
  have h := of_decide_eq_true h
  exact ⟨wf_small (by omega), wf_small (by omega)⟩
theorem keyOf_id {x : Wr.Id} (h : Wr.isId x = true) : keyOf Try.prog 30 (idVal x) = some (keyLit x) := by
  obtain ⟨h1, h2⟩ := isId_wf h
  have e1 : ∀ d, Try.prog.keyLits (d + 1) 3 [.int .i64 x.a] = some [.int .i64 x.a] := fun d => by
    simp only [Program.keyLits, Try.underlying3, h1, and_self, if_true]
  have e2 : ∀ d, Try.prog.keyLits (d + 1) 3 [.int .i64 x.n] = some [.int .i64 x.n] := fun d => by
    simp only [Program.keyLits, Try.underlying3, h2, and_self, if_true]
  have e3 : ∀ d, Try.prog.keyLits (d + 1 + 1) 30 [.int .i64 x.a, .int .i64 x.n] = some [.int .i64 x.a, .int .i64 x.n] := fun d => by
    unfold Program.keyLits
    rw [Try.underlying30]
    dsimp only
    rw [if_pos ⟨by rw [idCellsOf]; rfl, by simp⟩]
    rw [List.mapM_cons, List.mapM_cons, List.mapM_nil]
    simp only [intCells]
    have q1 : (([.int .i64 x.a, .int .i64 x.n] : List Value).drop 0).take 1 = [.int .i64 x.a] := rfl
    have q2 : (([.int .i64 x.a, .int .i64 x.n] : List Value).drop 1).take 1 = [.int .i64 x.n] := rfl
    rw [q1, q2, e1, e2]
    rfl
  have hf : (idVal x).formed Try.prog 30 = true := by
    unfold idVal Value.formed
    rw [Try.underlying30]
    dsimp only
    rw [idCellsOf]
    rfl
  unfold keyOf
  rw [Try.underlying30]
  dsimp only
  rw [if_pos (by rw [idKeyType, hf]; rfl), idDepth]
  show Option.map _ (Try.prog.keyLits (153 + 1 + 1) 30 [.int .i64 x.a, .int .i64 x.n]) = _
  rw [e3]
  rfl
theorem keyLit_inj {x y : Wr.Id} (hx : Wr.isId x = true) (hy : Wr.isId y = true) (h : keyLit x = keyLit y) : x = y := by
  have h1 := keyOf_id hx
  have h2 := keyOf_id hy
  rw [← h] at h2
  have := idLaw.inj h1 h2
  cases x; cases y
  simp only [Value.agg.injEq, Array.mk.injEq, List.cons.injEq, Value.int.injEq, true_and, and_true] at this
  rw [this.1, this.2]
theorem keyLit_is (x : Wr.Id) : WideAt.IsKeyLit (keyLit x) := trivial

/-- How an update's value reads in a map: as itself. -/
def isI : Value → Bool
  | .int .i64 _ => true
  | _ => false
def isSl : Value → Bool
  | .slice _ _ _ => true
  | _ => false
def shape5 : List Value → Bool
  | [x0, x1, x2, x3, x4] => isI x0 && isI x1 && isSl x2 && isSl x3 && isSl x4
  | _ => false
def uvElem : Value → Option (DataW Value × List MemPlace)
  | .agg cs => if shape5 cs.toList = true then some (.held (.agg cs), []) else none
  | _ => none
theorem isI_of {v : Value} (h : isI v = true) : ∃ n, v = .int .i64 n := by
  unfold isI at h
  split at h
  · exact ⟨_, rfl⟩
  · cases h
theorem isSl_of {v : Value} (h : isSl v = true) : ∃ a n c, v = .slice a n c := by
  unfold isSl at h
  split at h
  · exact ⟨_, _, _, rfl⟩
  · cases h
theorem shape5_of {l : List Value} (h : shape5 l = true) : ∃ a n a1 n1 c1 a2 n2 c2 a3 n3 c3, l = [.int .i64 a, .int .i64 n, .slice a1 n1 c1, .slice a2 n2 c2, .slice a3 n3 c3] := by
  unfold shape5 at h
  split at h
  · simp only [Bool.and_eq_true] at h
    obtain ⟨⟨⟨⟨h0, h1⟩, h2⟩, h3⟩, h4⟩ := h
    obtain ⟨a, rfl⟩ := isI_of h0
    obtain ⟨n, rfl⟩ := isI_of h1
    obtain ⟨a1, n1, c1, rfl⟩ := isSl_of h2
    obtain ⟨a2, n2, c2, rfl⟩ := isSl_of h3
    obtain ⟨a3, n3, c3, rfl⟩ := isSl_of h4
    exact ⟨_, _, _, _, _, _, _, _, _, _, _, rfl⟩
  · cases h
theorem uvElem_mk (a n : Int) (a1 : Option Addr) (n1 c1 : Nat) (a2 : Option Addr) (n2 c2 : Nat) (a3 : Option Addr) (n3 c3 : Nat) : uvElem (.agg #[.int .i64 a, .int .i64 n, .slice a1 n1 c1, .slice a2 n2 c2, .slice a3 n3 c3]) = some (.held (.agg #[.int .i64 a, .int .i64 n, .slice a1 n1 c1, .slice a2 n2 c2, .slice a3 n3 c3]), []) := rfl
structure Five where
  a : Int
  n : Int
  a1 : Option Addr
  n1 : Nat
  c1 : Nat
  a2 : Option Addr
  n2 : Nat
  c2 : Nat
  a3 : Option Addr
  n3 : Nat
  c3 : Nat
abbrev fiveVal (x : Five) : Value := .agg #[.int .i64 x.a, .int .i64 x.n, .slice x.a1 x.n1 x.c1, .slice x.a2 x.n2 x.c2, .slice x.a3 x.n3 x.c3]
theorem uvElem_inv {v : Value} {y : DataW Value × List MemPlace} (h : uvElem v = some y) : (∃ x : Five, v = fiveVal x) ∧ y = (.held v, []) := by
  cases v with
  | agg cs =>
    unfold uvElem at h
    dsimp only at h
    by_cases hs : shape5 cs.toList = true
    · rw [if_pos hs] at h
      obtain ⟨a, n, a1, n1, c1, a2, n2, c2, a3, n3, c3, e⟩ := shape5_of hs
      have e2 : cs = #[.int .i64 a, .int .i64 n, .slice a1 n1 c1, .slice a2 n2 c2, .slice a3 n3 c3] := by
        rw [← Array.toArray_toList (xs := cs), e]
      refine ⟨⟨⟨a, n, a1, n1, c1, a2, n2, c2, a3, n3, c3⟩, by rw [e2]⟩, ?_⟩
      cases h
      rfl
    · rw [if_neg hs] at h
      cases h
  | _ => cases h
theorem uvElem_ok {w : World} {x : Uv} (h : UvOk w x) : uvElem (uvVal x) = some (.held (uvVal x), []) := by
  obtain ⟨a1, n1, c1, a2, n2, c2, a3, n3, c3, e1, e2, e3⟩ := h.forms
  unfold uvVal
  rw [e1, e2, e3]
  rfl
/-- A map's datum that holds these updates by their ids. -/
structure CmD (c : List Uv) (D : DataW Value) : Prop where
  size : Maps.size D = c.length
  has : ∀ x, Wr.isId x = true → Maps.has D (keyLit x) = Dg.hasU (ups c) x
  at_ : ∀ y, y ∈ c → ∀ z, D.atKey (keyLit y.u.id) z = .held (uvVal y)
  ok : ∀ y, y ∈ c → Wr.isId y.u.id = true
  apart : ((ups c).map Wr.Up.id).Nodup
  only : ∀ kl, Maps.has D kl = true → ∃ y, y ∈ c ∧ kl = keyLit y.u.id
def CmAt (w : World) (B : Nat) (c : List Uv) : Prop := ∃ D : DataW Value, w.ownsMap Try.prog 30 uvElem B c.length D ∧ CmD c D
theorem CmD.nil : CmD [] (.map []) := ⟨rfl, fun _ _ => rfl, fun _ h => absurd h (by simp), fun _ h => absurd h (by simp), by simp [ups], fun _ h => by cases h⟩
theorem CmD.push {c : List Uv} {D : DataW Value} (h : CmD c D) (hT : Tidy D) (y : Uv) (hy : Wr.isId y.u.id = true) (hn : Dg.hasU (ups c) y.u.id = false) : CmD (c ++ [y]) (D.put (keyLit y.u.id) (.held (uvVal y))) := by
  have hk := keyLit_is y.u.id
  have hne : ∀ x, Wr.isId x = true → x ≠ y.u.id → keyLit x ≠ keyLit y.u.id := fun x hx hd e => hd (keyLit_inj hx hy e)
  refine ⟨?_, fun x hx => ?_, fun x hx z => ?_, fun x hx => ?_, ?_, fun kl hkl => ?_⟩
  rotate_right
  · by_cases e : kl = keyLit y.u.id
    · exact ⟨y, by simp, e⟩
    · rw [has_put_other e] at hkl
      obtain ⟨z, hz, e2⟩ := h.only kl hkl
      exact ⟨z, by simp [hz], e2⟩
  · rw [size_put hT, h.has _ hy, hn, h.size]
    simp
  · by_cases e : x = y.u.id
    · subst e
      rw [has_put_same hT.isMap hk]
      refine (Dg.hasU_iff.mpr ⟨y.u, ?_, rfl⟩).symm
      simp [ups]
    · rw [has_put_other (hne x hx e), h.has x hx]
      unfold ups Dg.hasU
      rw [List.map_append, List.any_append]
      simp only [List.map_cons, List.map_nil, List.any_cons, List.any_nil, Bool.or_false]
      rw [decide_eq_false (fun e2 => e e2.symm), Bool.or_false]
  · by_cases e : x.u.id = y.u.id
    · have hxy : x = y := by
        rcases List.mem_append.mp hx with h1 | h1
        · exfalso
          have : Dg.hasU (ups c) y.u.id = true := Dg.hasU_iff.mpr ⟨x.u, List.mem_map.mpr ⟨x, h1, rfl⟩, e⟩
          rw [hn] at this
          cases this
        · simpa using h1
      subst hxy
      exact atKey_put_same hT.isMap hk _ _
    · have hxm : x ∈ c := by
        rcases List.mem_append.mp hx with h1 | h1
        · exact h1
        · exact absurd (by rw [List.mem_singleton.mp h1]) e
      rw [atKey_put_other (hne _ (h.ok x hxm) e), h.at_ x hxm]
  · rcases List.mem_append.mp hx with h1 | h1
    · exact h.ok x h1
    · rw [List.mem_singleton.mp h1]; exact hy
  · unfold ups
    rw [List.map_append, List.map_append, List.nodup_append]
    refine ⟨h.apart, by simp, fun a ha b hb e => ?_⟩
    obtain ⟨v, hv, rfl⟩ := List.mem_map.mp ha
    simp only [List.map_cons, List.map_nil, List.mem_singleton] at hb
    have : Dg.hasU (ups c) y.u.id = true := Dg.hasU_iff.mpr ⟨v, hv, e.trans hb⟩
    rw [hn] at this
    cases this
theorem CmAt.below {w w' : World} {B : Nat} {c : List Uv} (h : CmAt w B c) (hb : Below w.heap.size w w') : CmAt w' B c := by
  obtain ⟨D, ⟨es, clock, h1, h2, h3, h4⟩, hN⟩ := h
  exact ⟨D, ⟨es, clock, (hb.block _ (Array.getElem?_eq_some_iff.mp h1).1).trans h1, h2, h3, h4⟩, hN⟩
theorem CmAt.lt {w : World} {B : Nat} {c : List Uv} (h : CmAt w B c) : B < w.heap.size := by
  obtain ⟨D, ⟨es, clock, h1, h2, h3, h4⟩, hN⟩ := h
  exact (Array.getElem?_eq_some_iff.mp h1).1
theorem cmAt_made (w : World) : CmAt (w.alloc (.map #[] 0)) w.heap.size [] := ⟨_, World.ownsMap_made _ _ _ _, CmD.nil⟩
theorem uvZero (w : World) : (zeroValue 34).run Try.prog w = .ok (.agg #[.int .i64 0, .int .i64 0, .slice none 0 0, .slice none 0 0, .slice none 0 0]) w := by kernel_rfl

section
variable (w : World) {ops : Array Oper} {rest : List Oper} {o : Oper} {a : Act} {Q : Exit → Act → World → Prop}
theorem wpList_lookup_ids (hg : o.guard = none) (m x : Operand) (hop : o.op = Op.lookup 82 m x true) (b : Nat) (c : List Uv) (y : Wr.Id)
    (hm : a.eval m = .map (some b)) (hown : CmAt w b c) (hx : a.eval x = idVal y) (hy : Wr.isId y = true)
    (hK : ∀ f : Five, wpList Try.prog ops Q rest (a.put o.dst (.tuple #[fiveVal f, .bool (Dg.hasU (ups c) y)])) w) :
    wpList Try.prog ops Q (o :: rest) a w := by
  obtain ⟨D, hown, hD⟩ := hown
  refine wpList_lookup_own_ok w hg m x 82 hop 30 34 idLaw Try.underlying82 uvElem (uvZero w) _ _ (uvElem_mk _ _ _ _ _ _ _ _ _ _ _) b c.length D hm hown _ _ hx (keyOf_id hy) (fun v ps hv => ?_)
  obtain ⟨⟨f, rfl⟩, _⟩ := uvElem_inv hv
  rw [hD.has y hy]
  exact hK f
theorem wpList_store_ids (hg : o.guard = none) (m x v : Operand) (hop : o.op = Op.mapUpdate 82 m x v) (b : Nat) (c : List Uv) (y : Uv) (w0 : World)
    (hm : a.eval m = .map (some b)) (hown : CmAt w b c) (hl : c.length ≤ 1000000) (hx : a.eval x = idVal y.u.id) (hv : a.eval v = uvVal y) (hy : Wr.isId y.u.id = true) (hok : UvOk w0 y) (hn : Dg.hasU (ups c) y.u.id = false)
    (hK : ∀ w', CmAt w' b (c ++ [y]) → w.grownBy w' (some b) → wpList Try.prog ops Q rest (a.put o.dst undef) w') :
    wpList Try.prog ops Q (o :: rest) a w := by
  obtain ⟨D, hown, hD⟩ := hown
  refine wpList_mapUpdate_own w hg m x v 82 hop 30 34 idLaw Try.underlying82 uvElem b c.length D hm hown (by unfold maxLen; omega) _ _ _ hx hv (keyOf_id hy) _ _ (uvElem_ok hok) (fun w' h1 h2 => hK w' ⟨_, ?_, hD.push (hown.tidy idLaw) y hy hn⟩ h2)
  rw [List.length_append]
  exact h1
end
end Go.Proofs.Ytmfaodapofamfaa

/- hold and carry: are all of these ids theirs? -/
namespace Go.Proofs.Ytmfaodapofamfaa
open Go.RowKit Go.Maps

set_option maxRecDepth 100000 in
set_option maxHeartbeats 1000000 in
theorem hold_any (B : Nat) (c : List Uv) (l : List Wr.Id) (v : Value) (w : World) (hM : CmAt w B c) (hV : IdsV w v l) (hl : l.length ≤ 1000000) (hi : ∀ x, x ∈ l → Wr.isId x = true) :
    Calls Try.prog 50 #[.map (some B), v] w fun e w' => e = .returned (.bool (l.all (Dg.hasU (ups c)))) ∧ Below w.heap.size w w' := by
  obtain ⟨ao, cap, rfl, _, hA⟩ := hV
  have HA : Hid (∀ z, Below w.heap.size w z → IdsAt z ao l) := fun z hz => by
    rcases hA with h | ⟨b, off, rfl, h⟩
    · exact .inl h
    · exact .inr ⟨b, off, rfl, fun i hi => ⟨cell_below hz (h i hi).1, cell_below hz (h i hi).2⟩⟩
  have HM : Hid (∀ z, Below w.heap.size w z → CmAt z B c) := fun z hz => hM.below hz
  have HI : Hid (∀ k, k < l.length → Wr.isId (idD l k) = true) := fun k hk => hi _ (by simp [idD, hk])
  clear hA hM hi
  go_enter Try.func50, Try.ntmps50
  go_wp2_with fail
  go_loopw [11] (fun iv wr => ∃ k : Nat, k ≤ l.length ∧ iv = .int .i64 k ∧ Hid (l.all (Dg.hasU (ups c)) = (l.drop k).all (Dg.hasU (ups c))) ∧ Hid (Below w.heap.size w wr)) (fun iv _ => l.length - (intOf iv).toNat)
  case atStart => exact ⟨0, Nat.zero_le _, rfl, rfl, Below.refl _ _⟩
  case round =>
    obtain ⟨k, hk, rfl, HR, HG⟩ := hrel
    by_cases hlt : k < l.length
    · obtain ⟨b, off, rfl, c0, c1⟩ := ids_at (HA.out wr HG.out) k hlt
      have hid := HI.out k hlt
      have HD : Hid (l.all (Dg.hasU (ups c)) = (Dg.hasU (ups c) (idD l k) && (l.drop (k + 1)).all (Dg.hasU (ups c)))) := by
        show _ = _
        rw [HR.out, idD_drop l k hlt, List.all_cons]
      generalize idD l k = x at *
      obtain ⟨xa, xn⟩ := x
      have HM2 : Hid (CmAt (wr.alloc (.cells #[.int .i64 xa, .int .i64 xn] 30)) B c) := HM.out _ (HG.out.alloc HG.out.size _)
      have HB2 : Hid (∀ f : Five, Below w.heap.size w ((wr.alloc (.cells #[.int .i64 xa, .int .i64 xn] 30)).alloc (.cells #[.int .i64 f.a, .int .i64 f.n, .slice f.a1 f.n1 f.c1, .slice f.a2 f.n2 f.c2, .slice f.a3 f.n3 f.c3] 34))) := fun f => (HG.out.alloc HG.out.size _).alloc (by have := HG.out.size; simp; omega) _
      clear HR
      cases hx : Dg.hasU (ups c) ⟨xa, xn⟩
      · go_wp2_with (at_lookup; refine wpList_lookup_ids _ rfl _ _ rfl B c ⟨xa, xn⟩ rfl HM2.out rfl hid ?_; intro f; rw [hx])
        go_ret
        exact ⟨by rw [HD.out, hx]; rfl, HB2.out f⟩
      · go_wp2_with (at_lookup; refine wpList_lookup_ids _ rfl _ _ rfl B c ⟨xa, xn⟩ rfl HM2.out rfl hid ?_; intro f; rw [hx])
        go_roundw
        case rel => exact ⟨k + 1, hlt, by go_num, HD.out.trans (by rw [hx, Bool.true_and]), HB2.out f⟩
        case measure => simp [intOf]; omega
    · have hdd : decide (k < l.length) = false := decide_eq_false hlt
      have HE : Hid (l.all (Dg.hasU (ups c)) = true) := by
        show _ = _
        rw [HR.out, List.drop_of_length_le (by omega)]
        rfl
      go_wp2_with fail
      go_ret
      exact ⟨by rw [HE.out]; rfl, HG.out⟩
theorem carry_and (l : List Wr.Up) (u : Wr.Up) : Dg.carry l u = (u.ps.all (Dg.hasU l) && u.ts.all (Dg.hasU l)) := by
  unfold Dg.carry Dg.under
  rw [List.all_append]
set_option maxRecDepth 100000 in
set_option maxHeartbeats 1000000 in
theorem carry_any (B : Nat) (c : List Uv) (x : Uv) (w : World) (hM : CmAt w B c) (hx : UvOk w x) (hl : x.u.ps.length ≤ 1000000 ∧ x.u.ts.length ≤ 1000000) (hp : ∀ y, y ∈ x.u.ps → Wr.isId y = true) (ht : ∀ y, y ∈ x.u.ts → Wr.isId y = true) :
    Calls Try.prog 52 #[.map (some B), uvVal x] w fun e w' => e = .returned (.bool (Dg.carry (ups c) x.u)) ∧ Below w.heap.size w w' := by
  have HC := carry_and (ups c) x.u
  have HP : Hid (∀ z, Below w.heap.size w z → Calls Try.prog 50 #[.map (some B), x.p] z fun e w' => e = .returned (.bool (x.u.ps.all (Dg.hasU (ups c)))) ∧ Below z.heap.size z w') := fun z hz => hold_any B c x.u.ps x.p z (hM.below hz) (idsV_below hx.p hz) hl.1 hp
  have HT : Hid (∀ z, Below w.heap.size w z → Calls Try.prog 50 #[.map (some B), x.t] z fun e w' => e = .returned (.bool (x.u.ts.all (Dg.hasU (ups c)))) ∧ Below z.heap.size z w') := fun z hz => hold_any B c x.u.ts x.t z (hM.below hz) (idsV_below hx.t hz) hl.2 ht
  obtain ⟨a1, n1, c1, a2, n2, c2, a3, n3, c3, e1, e2, e3⟩ := hx.forms
  obtain ⟨⟨⟨ua, un⟩, ps, says, ts⟩, vp, vs, vt⟩ := x
  dsimp only at *
  subst e1 e2 e3
  clear hx hM hl hp ht
  generalize ps.all (Dg.hasU (ups c)) = b1 at *
  generalize ts.all (Dg.hasU (ups c)) = b2 at *
  have HB : Hid (Below w.heap.size w (w.alloc (.cells #[.int .i64 ua, .int .i64 un, .slice a1 n1 c1, .slice a2 n2 c2, .slice a3 n3 c3] 34))) := (Below.refl _ _).alloc (Nat.le_refl _) _
  have HH : Hid ((w.alloc (.cells #[.int .i64 ua, .int .i64 un, .slice a1 n1 c1, .slice a2 n2 c2, .slice a3 n3 c3] 34)).heap[w.heap.size]? = _) := heap_alloc_new w (.cells #[.int .i64 ua, .int .i64 un, .slice a1 n1 c1, .slice a2 n2 c2, .slice a3 n3 c3] 34)
  go_enter Try.func52, Try.ntmps52
  go_upto_region 1 with fail
  generalize w.alloc (.cells #[.int .i64 ua, .int .i64 un, .slice a1 n1 c1, .slice a2 n2 c2, .slice a3 n3 c3] 34) = w2 at *
  have d2 : w2.cell? ⟨w.heap.size, 2, none⟩ = some (.slice a1 n1 c1) := by rw [Lib.cell_of_heap HH.out]; rfl
  have HD : Hid (∀ z, Below w2.heap.size w2 z → z.cell? ⟨w.heap.size, 4, none⟩ = some (.slice a3 n3 c3)) := fun z hz => cell_below hz (by rw [Lib.cell_of_heap HH.out]; rfl)
  have d4 := HD.out w2 (Below.refl _ _)
  cases b1
  · go_wp2_with (go_at_call 50; refine Calls.mono (HP.out _ HB.out) ?_; rintro e z1 ⟨rfl, hg1⟩)
    go_ret
    exact ⟨by rw [HC]; rfl, HB.out.trans (hg1.mono HB.out.size)⟩
  · go_wp2_with (first
      | (go_at_call 50; (with_reducible refine Calls.mono (HP.out _ HB.out) ?_); rintro e z1 ⟨rfl, hg1⟩; have d4 := HD.out z1 hg1; have HB1 : Hid (Below w.heap.size w z1) := HB.out.trans (hg1.mono HB.out.size))
      | (go_at_call 50; (with_reducible refine Calls.mono (HT.out _ HB1.out) ?_); rintro e z2 ⟨rfl, hg2⟩))
    go_ret
    exact ⟨by rw [HC]; rfl, HB1.out.trans (hg2.mono HB1.out.size)⟩
end Go.Proofs.Ytmfaodapofamfaa

/- What rows, facts and their order lean on. -/
/- of RlPlain -/
namespace Go.Proofs.Ytmfaodapofamfaa
namespace Rl
end Rl
end Go.Proofs.Ytmfaodapofamfaa
/- of Leaf -/
namespace Go.Proofs.Ytmfaodapofamfaa
open Go.RowKit
/-- A call of a function value enters the function. -/
def Enters (g : Nat) : Prop := ∀ (a : Array Value) (w : World), (callFunc g a).run Try.prog w = .ok (.enter g a) w
theorem enters_of {f : FuncId} {fn : Func} {c : Code} (hf : Try.prog.funcs[f]? = some fn) (hname : (fn.name == "runtime.NumGoroutine") = false) (hb : fn.body = some c) : Enters f := by
  intro a w
  have h1 : fn.name ≠ "runtime.NumGoroutine" := by simpa using hname
  simp [callFunc, hf, h1, hb]
end Go.Proofs.Ytmfaodapofamfaa
/- of RlOrder -/
namespace Go.Proofs.Ytmfaodapofamfaa
open Go.RowKit
end Go.Proofs.Ytmfaodapofamfaa
/- of Sort -/
namespace Go.Proofs
open Go.Shelf
end Go.Proofs
/- of ParMem -/
namespace Go.Proofs.Ytmfaodapofamfaa
open Go.RowKit
theorem grownBy_of_below {w w' : World} (h : Below w.heap.size w w') (row : Option Nat) : w.grownBy w' row :=
  ⟨h.os, h.tape, h.output, h.size, fun k hk _ => h.block k hk⟩
end Go.Proofs.Ytmfaodapofamfaa
/- of ParRows -/
namespace Go.Proofs.Ytmfaodapofamfaa
open Go.RowKit
theorem flat_length (k : Nat) : ∀ cs : List (List Value), (∀ c, c ∈ cs → c.length = k) → cs.flatten.length = cs.length * k := by
  intro cs
  induction cs with
  | nil => intro _; simp
  | cons c r ih =>
    intro h
    rw [List.flatten_cons, List.length_append, ih (fun c hc => h c (List.mem_cons_of_mem _ hc)), h c List.mem_cons_self, List.length_cons, Nat.add_mul]
    omega
theorem flat_get (k : Nat) : ∀ (cs : List (List Value)), (∀ c, c ∈ cs → c.length = k) → ∀ i c j u, cs[i]? = some c → c[j]? = some u → cs.flatten[i * k + j]? = some u := by
  intro cs
  induction cs with
  | nil => intro _ i c j u h; simp at h
  | cons a r ih =>
    intro h i c j u hi hj
    have ha := h a List.mem_cons_self
    have hjk : j < c.length := by
      rcases Nat.lt_or_ge j c.length with h | h
      · exact h
      · rw [List.getElem?_eq_none h] at hj; cases hj
    rw [List.flatten_cons]
    cases i with
    | zero =>
      have hac : a = c := by simpa using hi
      subst hac
      rw [Nat.zero_mul, Nat.zero_add, List.getElem?_append_left hjk]
      exact hj
    | succ i =>
      rw [List.getElem?_append_right (by rw [ha, Nat.add_mul]; omega), ha, show (i + 1) * k + j - k = i * k + j from by rw [Nat.add_mul]; omega]
      exact ih (fun c hc => h c (List.mem_cons_of_mem _ hc)) i c j u (by simpa using hi) hj
end Go.Proofs.Ytmfaodapofamfaa
/- of RlKit -/
namespace Go.Proofs.Ytmfaodapofamfaa
open Go.RowKit
theorem rl_own_alone {w w' : World} {B k n : Nat} {e : TypeId} {v : Value} {xs : List Value} (h : w.ownsRow B e k v n xs) (hk : ∀ g, v.ownBlock = some g → w'.heap[g]? = w.heap[g]?) : w'.ownsRow B e k v n xs := by
  obtain ⟨h1, h2⟩ := h
  refine ⟨h1, ?_⟩
  rcases h2 with h2 | ⟨g, cap, cur, rfl, hb, hh, r⟩
  · exact .inl h2
  · exact .inr ⟨g, cap, cur, rfl, hb, (hk g rfl).trans hh, r⟩
theorem fc_len (q : List Fv) : ∀ c, c ∈ q.map fcCells → c.length = 2 := by
  intro c hc
  obtain ⟨t, _, rfl⟩ := List.mem_map.mp hc
  rfl
theorem fc_at (q : List Fv) (t : Nat) (ht : t < q.length * 2) : ∃ x, q[t / 2]? = some x ∧ ((q.map fcCells).flatten)[t]? = (fcCells x)[t % 2]? := by
  have h1 : t / 2 < q.length := by omega
  refine ⟨q[t / 2], List.getElem?_eq_getElem h1, ?_⟩
  have h2 : (fcCells q[t / 2])[t % 2]? = some ((fcCells q[t / 2])[t % 2]'(by show _ < 2; omega)) := List.getElem?_eq_getElem _
  have := flat_get 2 (q.map fcCells) (fc_len q) (t / 2) (fcCells q[t / 2]) (t % 2) _ (by rw [List.getElem?_map, List.getElem?_eq_getElem h1]; rfl) h2
  rw [h2, ← this]
  congr 1
  omega
theorem fc_length (q : List Fv) : ((q.map fcCells).flatten).length = q.length * 2 := by
  rw [flat_length 2 _ (fc_len q), List.length_map]
section
variable {w w' : World} {B g cap : Nat} {q : List Fv}
theorem FRow.cell (h : FRow w B g cap q) {i : Nat} {x : Fv} (hi : q[i]? = some x) : w.cell? ⟨g, i * 2, none⟩ = some (.int .i64 x.1.pred) ∧ w.cell? ⟨g, i * 2 + 1, none⟩ = some x.2 := by
  have hl : i < q.length := by
    rcases Nat.lt_or_ge i q.length with h2 | h2
    · exact h2
    · rw [List.getElem?_eq_none h2] at hi; cases hi
  have hm : (q.map fcCells)[i]? = some (fcCells x) := by rw [List.getElem?_map, hi]; rfl
  have c0 := flat_get 2 (q.map fcCells) (fc_len q) i (fcCells x) 0 (.int .i64 x.1.pred) hm rfl
  have c1 := flat_get 2 (q.map fcCells) (fc_len q) i (fcCells x) 1 x.2 hm rfl
  exact ⟨(World.ownsRow.cellAt h (i * 2) (by omega)).trans c0, (World.ownsRow.cellAt h (i * 2 + 1) (by omega)).trans c1⟩
theorem FRow.frozen (h : FRow w B g cap q) (j : Nat) : w.frozen? ⟨g, j, none⟩ = false := World.ownsRow.frozenAt h j
theorem FRow.lt (h : FRow w B g cap q) : B ≤ g ∧ g < w.heap.size := World.ownsRow.lt h g rfl
theorem FRow.keep (h : FRow w B g cap q) (hk : w'.heap[g]? = w.heap[g]?) : FRow w' B g cap q := rl_own_alone h fun g' hg => by
  have : g = g' := by simpa [Value.ownBlock] using hg
  subst this
  exact hk
theorem fc_set (q : List Fv) (i : Nat) (hi : i < q.length) (y : Fv) : ((((q.map fcCells).flatten).set (i * 2) (.int .i64 y.1.pred)).set (i * 2 + 1) y.2) = (((q.set i y).map fcCells).flatten) := by
  apply List.ext_getElem?
  intro t
  by_cases ht : t < q.length * 2
  · obtain ⟨x, hx, hx2⟩ := fc_at q t ht
    obtain ⟨z, hz, hz2⟩ := fc_at (q.set i y) t (by rw [List.length_set]; exact ht)
    rw [hz2]
    rw [List.getElem?_set] at hz
    rw [List.getElem?_set, List.getElem?_set, List.length_set, fc_length]
    by_cases hti : i = t / 2
    · rw [if_pos hti, if_pos (by omega)] at hz
      obtain rfl : y = z := by simpa using hz
      by_cases h0 : t % 2 = 0
      · have e1 : ¬ i * 2 + 1 = t := by omega
        have e2 : i * 2 = t := by omega
        rw [if_neg e1, if_pos e2, if_pos (by omega), h0]
        rfl
      · have h1 : t % 2 = 1 := by omega
        have e1 : i * 2 + 1 = t := by omega
        rw [if_pos e1, if_pos (by omega), h1]
        rfl
    · rw [if_neg hti, hx] at hz
      obtain rfl : x = z := by simpa using hz
      rw [if_neg (by omega), if_neg (by omega), hx2]
  · rw [List.getElem?_eq_none, List.getElem?_eq_none]
    · rw [fc_length, List.length_set]; omega
    · rw [List.length_set, List.length_set, fc_length]; omega
end
end Go.Proofs.Ytmfaodapofamfaa
/- of RlSort -/
namespace Go.Proofs.Ytmfaodapofamfaa
open Go.Shelf Go.RowKit Go.Lib Go.Sort
/-- A fact whose numbers can be read. -/
def FvOk (w : World) (x : Fv) : Prop := IntsV w x.2 x.1.args ∧ FFit x.1
abbrev FvS (w : World) := { x : Fv // FvOk w x }
theorem fvOk_nil (w : World) : FvOk w (⟨0, []⟩, .slice none 0 0) := ⟨⟨none, 0, rfl, .inl rfl⟩, by show ([] : List Int).length ≤ _; decide⟩
abbrev fvInh (w : World) : Inhabited (FvS w) := ⟨⟨_, fvOk_nil w⟩⟩
theorem sortWorldK_block {α : Type} [Inhabited α] (enc : α → List Value) (k : Nat) (w : World) (g m : Nat) (d : Array α) (os : Array Obj) (i : Nat) (hi : i < w.heap.size) (hne : ¬ i = g) : (sortWorldK enc k w g 0 m d os).heap[i]? = w.heap[i]? := by
  unfold sortWorldK putRowK putRow mapBlock Sort.ahead grow
  show ((w.heap.modify g _) ++ os)[i]? = _
  rw [Array.getElem?_append_left (by simpa using hi), Array.getElem?_modify, if_neg (fun e => hne e.symm)]
theorem sortWorldK_size {α : Type} [Inhabited α] (enc : α → List Value) (k : Nat) (w : World) (g m : Nat) (d : Array α) (os : Array Obj) : w.heap.size ≤ (sortWorldK enc k w g 0 m d os).heap.size := by
  unfold sortWorldK putRowK putRow mapBlock Sort.ahead grow
  show _ ≤ ((w.heap.modify g _) ++ os).size
  simp
end Go.Proofs.Ytmfaodapofamfaa
/- of RlDd -/
namespace Go.Proofs.Ytmfaodapofamfaa
namespace Rl
end Rl
end Go.Proofs.Ytmfaodapofamfaa
/- of RlCompact -/
namespace Go.Proofs.Ytmfaodapofamfaa
open Go.RowKit Go.Lib
theorem own_sets {B e k n g cap : Nat} : ∀ (vs : List Value) (o : Nat) (w : World) (xs : List Value), w.ownsRow B e k (.slice (some ⟨g, 0, none⟩) n cap) n xs →
    ∃ ys, ys.length = xs.length ∧ (∀ j, j < o → ys[j]? = xs[j]?) ∧ (w.setCells g o vs).ownsRow B e k (.slice (some ⟨g, 0, none⟩) n cap) n ys ∧ w.grownBy (w.setCells g o vs) (some g) := by
  intro vs
  induction vs with
  | nil => intro o w xs h; exact ⟨xs, rfl, fun _ _ => rfl, h, rfl, rfl, rfl, Nat.le_refl _, fun _ _ _ => rfl⟩
  | cons v r ih =>
    intro o w xs h
    obtain ⟨h1, h2⟩ := World.ownsRow.stored h o v
    obtain ⟨ys, a1, a2, a3, a4⟩ := ih (o + 1) _ _ h1
    refine ⟨ys, by rw [a1, List.length_set], fun j hj => ?_, a3, ⟨a4.os.trans h2.os, a4.tape.trans h2.tape, a4.output.trans h2.output, Nat.le_trans h2.size a4.size, fun i hi hne => (a4.block i (Nat.lt_of_lt_of_le hi h2.size) hne).trans (h2.block i hi hne)⟩⟩
    rw [a2 j (by omega), List.getElem?_set, if_neg (by omega)]
end Go.Proofs.Ytmfaodapofamfaa
/- of RlClone -/
namespace Go.Proofs.Ytmfaodapofamfaa
open Go.RowKit
theorem rl_info3 : (Try.prog.info? 3).map (fun i => (i.zero, i.size, i.bytes)) = some (some (.int .i64 0), 1, 8) := by kernel_rfl
set_option maxRecDepth 100000 in
set_option maxHeartbeats 1000000 in
theorem cloneI_any (l : List Int) (v : Value) (w : World) (hV : IntsV w v l) (hl : l.length ≤ 1048576) :
    Calls Try.prog 34 #[v] w fun e w' => ∃ v', e = .returned v' ∧ w'.ownsRow w.heap.size 3 1 v' l.length (l.map (Value.int .i64)) ∧ Below w.heap.size w w' := by
  obtain ⟨i0, hi, hz0, hz1, hz2⟩ := info_parts rl_info3
  obtain ⟨ao, cap, rfl, hA⟩ := hV
  have q22 : ∀ (w : World) (a : Option Addr) (n c : Nat), (binOp .eql 49 (.slice a n c) (.slice none 0 0)).run Try.prog w = .ok (.bool a.isNone) w := fun w a n c => Lib.run_eql_slice_nil w 49 3 a n c 0 0 Try.underlying49
  have u22 : ∀ w, Sem.run Try.prog (underlying 49) w = .ok (TypeDesc.slice 3) w := run_underlying Try.underlying49
  have HA : Hid (IntsAt w ao l) := hA
  clear hA
  cases ao with
  | none =>
    have hl0 : l = [] := by
      rcases HA.out with h | ⟨b, off, h, _⟩
      · exact h
      · cases h
    subst hl0
    go_enter Try.func34, Try.ntmps34
    go_wp2_with fail
    go_ret
    exact ⟨_, rfl, World.ownsRow_nil _ _ _ _, Below.refl _ _⟩
  | some a =>
    obtain ⟨b, off, hao⟩ : ∃ b off, l = [] ∨ a = ⟨b, off, none⟩ := by
      rcases HA.out with h | ⟨b, off, h, _⟩
      · exact ⟨0, 0, .inl h⟩
      · exact ⟨b, off, .inr (Option.some.inj h)⟩
    have HC : Hid (∀ j u, (l.map (Value.int .i64))[j]? = some u → w.cell? (a.add j) = some u) := by
      intro j u hj
      rcases HA.out with h | ⟨b, off, h, hc⟩
      · rw [h] at hj; simp at hj
      · have ha := Option.some.inj h
        have hjl : j < l.length := by
          rcases Nat.lt_or_ge j l.length with h2 | h2
          · exact h2
          · rw [List.getElem?_eq_none (by simpa using h2)] at hj; cases hj
        rw [List.getElem?_map, List.getElem?_eq_getElem hjl] at hj
        have hu : Value.int .i64 l[j] = u := by simpa using hj
        rw [← hu, ha]
        have h3 := hc j hjl
        have h4 : Sc.intD l j = l[j] := by simp [Sc.intD, hjl]
        rw [h4] at h3
        rw [Addr.add_lit]
        exact h3
    clear HA
    go_enter Try.func34, Try.ntmps34
    go_wp2_with (at_builtin; refine wpList_append_own _ rfl _ _ 49 rfl w.heap.size 3 i0 _ 1 8 Try.underlying49 hi hz0 hz1 hz2 rfl (by decide) _ _ _ rfl (World.ownsRow_made w #[] 0 (Nat.le_refl _) (Nat.zero_le _) (by simp)) a l.length cap (l.map (Value.int .i64)) rfl ?qc1 ?qc2 ?qc3 ?qc4 ?qc5 ?qc6 ?_)
    case qc1 => rw [List.length_map, Nat.mul_one]
    case qc2 =>
      intro j u hj
      exact Lib.cell?_alloc_some _ (HC.out j u hj)
    case qc3 =>
      intro u hu
      obtain ⟨x, _, rfl⟩ := List.mem_map.mp hu
      rfl
    case qc4 => unfold maxLen; omega
    case qc5 => omega
    case qc6 => simp
    intro v' w1 hown hgrow hnil
    obtain ⟨ao9, cap9, rfl⟩ := own_slice hown
    have HB : Hid (Below w.heap.size w w1) := ((Below.refl _ w).alloc (Nat.le_refl _) _).grown hgrow (by simp) (by intro k hk; simp [Value.ownBlock] at hk; omega)
    have HO : Hid _ := hown
    clear hown hgrow hnil HC
    go_wp2_with fail
    go_ret
    exact ⟨_, rfl, HO.out, HB.out⟩
end Go.Proofs.Ytmfaodapofamfaa
/- of RlKeep -/
namespace Go.Proofs.Ytmfaodapofamfaa
open Go.RowKit
theorem rl_info49 : (Try.prog.info? 51).map (fun i => (i.zero, i.size, i.bytes)) = some (some (.agg #[.int .i64 0, .slice none 0 0]), 2, 32) := by kernel_rfl
theorem FRow.put1 {w : World} {B g cap : Nat} {q : List Fv} (h : FRow w B g cap q) {i : Nat} {x : Fv} (hx : q[i]? = some x) (u : Value) : FRow (w.setCell ⟨g, i * 2 + 1, none⟩ u) B g cap (q.set i (x.1, u)) := by
  have hi : i < q.length := by
    rcases Nat.lt_or_ge i q.length with h2 | h2
    · exact h2
    · rw [List.getElem?_eq_none h2] at hx; cases hx
  have h2 := (World.ownsRow.stored h (i * 2 + 1) u).1
  unfold FRow
  rw [List.length_set, ← fc_set q i hi (x.1, u)]
  have h3 : ((q.map fcCells).flatten).set (i * 2) (.int .i64 x.1.pred) = (q.map fcCells).flatten := by
    apply List.ext_getElem?
    intro t
    rw [List.getElem?_set]
    split
    · rename_i ht
      obtain ⟨y, hy, hy2⟩ := fc_at q t (by omega)
      rw [← ht, Nat.mul_div_cancel _ (by decide), hx] at hy
      obtain rfl : x = y := by simpa using hy
      rw [hy2, if_pos (by rw [fc_length]; omega), ← ht, Nat.mul_mod_left]
      rfl
    · rfl
  show World.ownsRow _ B 51 2 _ q.length ((((q.map fcCells).flatten).set (i * 2) (.int .i64 x.1.pred)).set (i * 2 + 1) u)
  rw [h3]
  exact h2
theorem own3_set {w : World} {B g cap n : Nat} {q : List Fv} {v : Value} {xs : List Value} (h : w.ownsRow B 3 1 v n xs) (hr : FRow w B g cap q) (o : Nat) (u : Value) : (w.setCell ⟨g, o, none⟩ u).ownsRow B 3 1 v n xs := by
  refine rl_own_alone h fun g' hg => Below.heap_setCell _ _ _ _ (fun e => ?_)
  subst e
  obtain ⟨_, h2⟩ := h
  rcases h2 with ⟨h2, _⟩ | ⟨g2, c2, cur2, hv, _, hh, _⟩
  · rw [h2] at hg; cases hg
  · rw [hv] at hg
    have e1 : g2 = g' := by simpa [Value.ownBlock] using hg
    subst e1
    obtain ⟨_, h3⟩ := hr
    rcases h3 with ⟨h3, _⟩ | ⟨g3, c3, cur3, hv3, _, hh3, _⟩
    · cases h3
    · injection hv3 with e1 _ _
      injection e1 with e1
      injection e1 with e1
      subst e1
      rw [hh] at hh3
      injection hh3 with hh3
      injection hh3 with _ q _
      cases q
theorem fv_slice {w : World} {x : Fv} (h : FvOk w x) : ∃ a c, x.2 = .slice a x.1.args.length c := by
  obtain ⟨⟨a, c, h, _⟩, _⟩ := h
  exact ⟨a, c, h⟩
end Go.Proofs.Ytmfaodapofamfaa
/- of RlSet -/
namespace Go.Proofs.Ytmfaodapofamfaa
open Go.RowKit
end Go.Proofs.Ytmfaodapofamfaa
/- of RlHas -/
namespace Go.Proofs.Ytmfaodapofamfaa
open Go.RowKit
end Go.Proofs.Ytmfaodapofamfaa
/- of RlSetOf -/
namespace Go.Proofs.Ytmfaodapofamfaa
open Go.RowKit
theorem own_factsV {w w' : World} {B : Nat} {v : Value} {q : List Fv} (h2 : w'.ownsRow B 51 2 v q.length (q.map fcCells).flatten) (h3 : ∀ p, p ∈ q → FvOk w p) (hb : Below w.heap.size w w') : FactsV w' v (q.map (·.1)) := by
  rcases ownsRow_forms9 h2 with ⟨hv, h0⟩ | ⟨g, cap, hv⟩
  · have hq : q = [] := List.eq_nil_of_length_eq_zero h0
    subst hq
    exact ⟨none, 0, hv, ⟨Nat.le_refl _, fun _ => rfl⟩, .inl rfl⟩
  · subst hv
    have hc : q.length ≤ cap := by
      rcases h2.2 with ⟨hv, _⟩ | ⟨_, _, _, hv, _, _, hc1, _⟩
      · cases hv
      · injection hv with _ _ e3
        omega
    refine ⟨_, cap, by rw [List.length_map], ⟨by rw [List.length_map]; exact hc, fun h => by cases h⟩, .inr ⟨g, 0, rfl, fun i hi => ?_⟩⟩
    rw [List.length_map] at hi
    have hq : q[i]? = some q[i] := List.getElem?_eq_getElem hi
    have hd : Rl.factD (q.map (·.1)) i = q[i].1 := by simp [Rl.factD, hi]
    obtain ⟨c0, c1⟩ := FRow.cell h2 hq
    rw [Nat.zero_add, hd]
    exact ⟨c0, q[i].2, c1, intsV_below (h3 _ (List.getElem_mem hi)).1 hb⟩
end Go.Proofs.Ytmfaodapofamfaa

/- Rows of updates. -/
namespace Go.Proofs.Ytmfaodapofamfaa
open Go.RowKit Go.Maps

/-- Cells stand. -/
def Kc (w w' : World) : Prop := ∀ b o v, w.cell? ⟨b, o, none⟩ = some v → w'.cell? ⟨b, o, none⟩ = some v
theorem Kc.trans {a b c : World} (h : Kc a b) (k : Kc b c) : Kc a c := fun _ _ _ e => k _ _ _ (h _ _ _ e)
theorem Kc.below {w w' : World} (h : Below w.heap.size w w') : Kc w w' := fun _ _ _ e => cell_below h e
theorem cell_heap {w w' : World} {b o : Nat} (h : w'.heap[b]? = w.heap[b]?) : w'.cell? ⟨b, o, none⟩ = w.cell? ⟨b, o, none⟩ := by
  unfold World.cell?
  rw [h]
theorem cell_lt {w : World} {b o : Nat} {v : Value} (h : w.cell? ⟨b, o, none⟩ = some v) : b < w.heap.size := by
  by_cases hb : b < w.heap.size
  · exact hb
  · unfold World.cell? at h
    have e : w.heap[b]? = none := Array.getElem?_eq_none (Nat.le_of_not_lt hb)
    dsimp only at h
    rw [e] at h
    cases h
/-- .. where a map alone was written. -/
theorem Kc.map {w w' : World} {B : Nat} {c : List Uv} (h : w.grownBy w' (some B)) (hm : CmAt w B c) : Kc w w' := fun b o v e => by
  have hne : b ≠ B := fun e2 => by
    subst e2
    obtain ⟨D, ⟨es, clock, h1, _⟩, _⟩ := hm
    unfold World.cell? at e
    rw [h1] at e
    cases e
  rw [cell_heap (h.block b (cell_lt e) (fun e2 => hne (by cases e2; rfl)))]
  exact e
theorem Kc.ints {w w' : World} (k : Kc w w') {v : Value} {l : List Int} (h : IntsV w v l) : IntsV w' v l := by
  obtain ⟨ao, cap, rfl, h⟩ := h
  refine ⟨ao, cap, rfl, ?_⟩
  rcases h with h | ⟨b, off, rfl, h⟩
  · exact .inl h
  · exact .inr ⟨b, off, rfl, fun i hi => k _ _ _ (h i hi)⟩
theorem Kc.ids {w w' : World} (k : Kc w w') {v : Value} {l : List Wr.Id} (h : IdsV w v l) : IdsV w' v l := by
  obtain ⟨ao, cap, rfl, hc, h⟩ := h
  refine ⟨ao, cap, rfl, hc, ?_⟩
  rcases h with h | ⟨b, off, rfl, h⟩
  · exact .inl h
  · exact .inr ⟨b, off, rfl, fun i hi => ⟨k _ _ _ (h i hi).1, k _ _ _ (h i hi).2⟩⟩
theorem Kc.fact {w w' : World} (k : Kc w w') {b off : Nat} {f : Rl.Fc} (h : FactIn w b off f) : FactIn w' b off f := by
  obtain ⟨h1, u, h2, h3⟩ := h
  exact ⟨k _ _ _ h1, u, k _ _ _ h2, k.ints h3⟩
theorem Kc.facts {w w' : World} (k : Kc w w') {v : Value} {l : List Rl.Fc} (h : FactsV w v l) : FactsV w' v l := by
  obtain ⟨ao, cap, rfl, hc, h⟩ := h
  refine ⟨ao, cap, rfl, hc, ?_⟩
  rcases h with h | ⟨b, off, rfl, h⟩
  · exact .inl h
  · exact .inr ⟨b, off, rfl, fun i hi => k.fact (h i hi)⟩
theorem UvOk.kc {w w' : World} {x : Uv} (h : UvOk w x) (k : Kc w w') : UvOk w' x := ⟨k.ids h.p, k.facts h.s, k.ids h.t, h.f, h.l⟩

def uvZ : Uv := ⟨⟨⟨0, 0⟩, [], [], []⟩, .slice none 0 0, .slice none 0 0, .slice none 0 0⟩
def uvD (q : List Uv) (i : Nat) : Uv := q.getD i uvZ
def UpIn (w : World) (b o : Nat) (x : Uv) : Prop :=
  w.cell? ⟨b, o, none⟩ = some (.int .i64 x.u.id.a) ∧ w.cell? ⟨b, o + 1, none⟩ = some (.int .i64 x.u.id.n) ∧ w.cell? ⟨b, o + 2, none⟩ = some x.p ∧ w.cell? ⟨b, o + 3, none⟩ = some x.s ∧ w.cell? ⟨b, o + 4, none⟩ = some x.t
theorem Kc.up {w w' : World} (k : Kc w w') {b o : Nat} {x : Uv} (h : UpIn w b o x) : UpIn w' b o x := ⟨k _ _ _ h.1, k _ _ _ h.2.1, k _ _ _ h.2.2.1, k _ _ _ h.2.2.2.1, k _ _ _ h.2.2.2.2⟩
def UpsAt (w : World) (ao : Option Addr) (q : List Uv) : Prop := q = [] ∨ ∃ b off, ao = some ⟨b, off, none⟩ ∧ ∀ i, i < q.length → UpIn w b (off + i * 5) (uvD q i)
def UpsV (w : World) (v : Value) (q : List Uv) : Prop := ∃ ao cap, v = .slice ao q.length cap ∧ (q.length ≤ cap ∧ (ao = none → cap = 0)) ∧ UpsAt w ao q
theorem UpsAt.kc {w w' : World} {ao : Option Addr} {q : List Uv} (h : UpsAt w ao q) (k : Kc w w') : UpsAt w' ao q := by
  rcases h with h | ⟨b, off, rfl, h⟩
  · exact .inl h
  · exact .inr ⟨b, off, rfl, fun i hi => k.up (h i hi)⟩
theorem UpsV.kc {w w' : World} {v : Value} {q : List Uv} (h : UpsV w v q) (k : Kc w w') : UpsV w' v q := by
  obtain ⟨ao, cap, rfl, hc, h⟩ := h
  exact ⟨ao, cap, rfl, hc, h.kc k⟩
theorem ups_at {w : World} {ao : Option Addr} {q : List Uv} (h : UpsAt w ao q) (i : Nat) (hi : i < q.length) : ∃ b off, ao = some ⟨b, off, none⟩ ∧ UpIn w b (off + i * 5) (uvD q i) := by
  rcases h with h | ⟨b, off, ha, hc⟩
  · rw [h] at hi; exact absurd hi (by simp)
  · exact ⟨b, off, ha, hc i hi⟩
theorem uvD_drop (q : List Uv) (k : Nat) (hk : k < q.length) : q.drop k = uvD q k :: q.drop (k + 1) := by
  rw [List.drop_eq_getElem_cons hk]
  simp [uvD, List.getD_eq_getElem?_getD, hk]
theorem uvD_mem (q : List Uv) (k : Nat) (hk : k < q.length) : uvD q k ∈ q := by simp [uvD, hk]
theorem uvD_take (q : List Uv) (k : Nat) (hk : k < q.length) : q.take (k + 1) = q.take k ++ [uvD q k] := by
  rw [List.take_succ_eq_append_getElem hk]
  simp [uvD, List.getD_eq_getElem?_getD, hk]
abbrev URow (w : World) (B : Nat) (v : Value) (q : List Uv) : Prop := w.ownsRow B 34 5 v q.length (q.map uvCells).flatten
theorem up_info : (Try.prog.info? 34).map (fun i => (i.zero, i.size, i.bytes)) = some (some (.agg #[.int .i64 0, .int .i64 0, .slice none 0 0, .slice none 0 0, .slice none 0 0]), 5, 88) := by kernel_rfl
theorem flat5_get : ∀ (q : List Uv) (i j : Nat), i < q.length → j < 5 → (q.map uvCells).flatten[i * 5 + j]? = (uvCells (uvD q i))[j]?
  | [], i, j, hi, _ => absurd hi (by simp)
  | x :: r, 0, j, _, hj => by
    show (uvCells x ++ (r.map uvCells).flatten)[0 * 5 + j]? = (uvCells x)[j]?
    rw [List.getElem?_append_left (by show 0 * 5 + j < 5; omega)]
    congr 1
    omega
  | x :: r, i + 1, j, hi, hj => by
    have h := flat5_get r i j (by simpa using hi) hj
    show (uvCells x ++ (r.map uvCells).flatten)[(i + 1) * 5 + j]? = _
    rw [List.getElem?_append_right (by show 5 ≤ _; omega)]
    have e : (i + 1) * 5 + j - (uvCells x).length = i * 5 + j := by show (i + 1) * 5 + j - 5 = _; omega
    rw [e, h]
    rfl
theorem own_ups {W : World} {B : Nat} {v : Value} {q : List Uv} (h : URow W B v q) : UpsV W v q := by
  obtain ⟨ao, cap, rfl, hcap, hc⟩ := own_cells h
  refine ⟨ao, cap, rfl, ⟨hcap, fun e => ?_⟩, ?_⟩
  · rcases ownsRow_forms9 h with ⟨e2, h0⟩ | ⟨g, c2, e2⟩
    · injection e2
    · injection e2 with e3
      rw [e] at e3
      cases e3
  · rcases hc with h0 | ⟨g, rfl, hg⟩
    · exact .inl (List.eq_nil_of_length_eq_zero h0)
    · refine .inr ⟨g, 0, rfl, fun i hi => ?_⟩
      have key : ∀ j, j < 5 → W.cell? ⟨g, 0 + i * 5 + j, none⟩ = (uvCells (uvD q i))[j]? := fun j hj => by
        rw [Nat.zero_add, hg (i * 5 + j) (by omega), flat5_get q i j hi hj]
      exact ⟨by have := key 0 (by omega); simpa using this, by have := key 1 (by omega); simpa using this, by have := key 2 (by omega); simpa using this, by have := key 3 (by omega); simpa using this, by have := key 4 (by omega); simpa using this⟩
theorem grown_alloc (w : World) (o : Obj) (r : Option Nat) : w.grownBy (w.alloc o) r := ⟨rfl, rfl, rfl, by simp, fun k hk _ => Lib.alloc_old w o k hk⟩
theorem grown_refl (w : World) (r : Option Nat) : w.grownBy w r := ⟨rfl, rfl, rfl, Nat.le_refl _, fun _ _ _ => rfl⟩
theorem grown_own {w z z' : World} {r : Option Nat} {v : Value} {n e c : Nat} {xs : List Value} (h : w.grownBy z r) (hg : z.grownBy z' v.ownBlock) (ho : z.ownsRow w.heap.size e c v n xs) : w.grownBy z' r :=
  ⟨hg.os.trans h.os, hg.tape.trans h.tape, hg.output.trans h.output, Nat.le_trans h.size hg.size, fun k hk hn => (hg.block k (Nat.lt_of_lt_of_le hk h.size) (fun e => by have := (ho.lt k e.symm).1; omega)).trans (h.block k hk hn)⟩
theorem grown_trans {w z z' : World} {r : Option Nat} (h : w.grownBy z r) (hg : z.grownBy z' r) : w.grownBy z' r :=
  ⟨hg.os.trans h.os, hg.tape.trans h.tape, hg.output.trans h.output, Nat.le_trans h.size hg.size, fun k hk hn => (hg.block k (Nat.lt_of_lt_of_le hk h.size) hn).trans (h.block k hk hn)⟩
theorem grown_below {w z z' : World} {r : Option Nat} (h : w.grownBy z r) (hg : Below z.heap.size z z') : w.grownBy z' r := grown_trans h (grownBy_of_below hg r)
theorem news5 (w : World) (a b c d f : Value) (e : TypeId) : ∀ j z, [a, b, c, d, f][j]? = some z → (w.alloc (.cells #[a, b, c, d, f] e)).cell? ((⟨w.heap.size, 0, none⟩ : Addr).add j) = some z := by
  intro j z hj
  have hh : (w.alloc (.cells #[a, b, c, d, f] e)).heap[w.heap.size]? = some (.cells #[a, b, c, d, f] e) := rl_new w _
  match j, hj with
  | 0, hj => cases hj; exact (Lib.cell_of_heap hh 0).trans rfl
  | 1, hj => cases hj; exact (Lib.cell_of_heap hh 1).trans rfl
  | 2, hj => cases hj; exact (Lib.cell_of_heap hh 2).trans rfl
  | 3, hj => cases hj; exact (Lib.cell_of_heap hh 3).trans rfl
  | 4, hj => cases hj; exact (Lib.cell_of_heap hh 4).trans rfl
/-- Updates whose ids, and those of what they hang on, are right. -/
structure IdsOk (u : Wr.Up) : Prop where
  id : Wr.isId u.id = true
  ps : ∀ y, y ∈ u.ps → Wr.isId y = true
  ts : ∀ y, y ∈ u.ts → Wr.isId y = true
  lp : u.ps.length ≤ 6
  lt : u.ts.length ≤ 6
theorem idsOk_of {u : Wr.Up} (h : Wr.check u = 0) : IdsOk u := by
  have r := Wr.right_of h
  exact ⟨r.id, r.pid, r.tid, r.ps, r.ts⟩
end Go.Proofs.Ytmfaodapofamfaa

/- byIds: updates by their ids. -/
namespace Go.Proofs.Ytmfaodapofamfaa
open Go.RowKit Go.Maps

/-- Some map; if no two have one id: of these. -/
def MapOf (w : World) (B n : Nat) (q : List Uv) : Prop := ∃ D : DataW Value, w.ownsMap Try.prog 30 uvElem B n D ∧ (((ups q).map Wr.Up.id).Nodup → CmD q D)
theorem MapOf.at_ {w : World} {B : Nat} {q : List Uv} (h : MapOf w B q.length q) (hn : ((ups q).map Wr.Up.id).Nodup) : CmAt w B q := by
  obtain ⟨D, h1, h2⟩ := h
  exact ⟨D, h1, h2 hn⟩
theorem ups_snoc (c : List Uv) (y : Uv) : (ups (c ++ [y])).map Wr.Up.id = (ups c).map Wr.Up.id ++ [y.u.id] := by simp [ups]
theorem new_of_nodup {c : List Uv} {y : Uv} (h : ((ups (c ++ [y])).map Wr.Up.id).Nodup) : ((ups c).map Wr.Up.id).Nodup ∧ Dg.hasU (ups c) y.u.id = false := by
  rw [ups_snoc, List.nodup_append] at h
  refine ⟨h.1, ?_⟩
  cases hx : Dg.hasU (ups c) y.u.id with
  | false => rfl
  | true =>
    obtain ⟨v, hv, e⟩ := Dg.hasU_iff.mp hx
    exact absurd rfl (h.2.2 y.u.id (List.mem_map.mpr ⟨v, hv, e⟩) y.u.id (by simp))
theorem wpList_store_map (w : World) {ops : Array Oper} {rest : List Oper} {o : Oper} {a : Act} {Q : Exit → Act → World → Prop} (hg : o.guard = none) (m x v : Operand) (hop : o.op = Op.mapUpdate 82 m x v) (b n : Nat) (c : List Uv) (y : Uv) (w0 : World)
    (hm : a.eval m = .map (some b)) (hown : MapOf w b n c) (hl : n ≤ 1000000) (hx : a.eval x = idVal y.u.id) (hv : a.eval v = uvVal y) (hy : Wr.isId y.u.id = true) (hok : UvOk w0 y)
    (hK : ∀ w', MapOf w' b (n + 1) (c ++ [y]) → w.grownBy w' (some b) → wpList Try.prog ops Q rest (a.put o.dst undef) w') :
    wpList Try.prog ops Q (o :: rest) a w := by
  obtain ⟨D, hown, hD⟩ := hown
  refine wpList_mapUpdate_own w hg m x v 82 hop 30 34 idLaw Try.underlying82 uvElem b n D hm hown (by unfold maxLen; omega) _ _ _ hx hv (keyOf_id hy) _ _ (uvElem_ok hok) (fun w' h1 h2 => hK w' ⟨_, h1, fun hn => ?_⟩ h2)
  obtain ⟨n1, n2⟩ := new_of_nodup hn
  exact (hD n1).push (hown.tidy idLaw) y hy n2

set_option maxRecDepth 100000 in
set_option maxHeartbeats 1000000 in
theorem byIds_any (q : List Uv) (v : Value) (w : World) (hV : UpsV w v q) (hl : q.length ≤ 1000) (hok : ∀ x, x ∈ q → UvOk w x) (hid : ∀ x, x ∈ q → Wr.isId x.u.id = true) :
    Calls Try.prog 45 #[v] w fun e w' => e = .returned (.map (some w.heap.size)) ∧ MapOf w' w.heap.size q.length q ∧ Below w.heap.size w w' := by
  obtain ⟨ao, cap, rfl, _, hA⟩ := hV
  have HA : Hid (∀ z, Below w.heap.size w z → UpsAt z ao q) := fun z hz => hA.kc (Kc.below hz)
  have HK : Hid (∀ k, k < q.length → UvOk w (uvD q k) ∧ Wr.isId (uvD q k).u.id = true) := fun k hk => ⟨hok _ (uvD_mem q k hk), hid _ (uvD_mem q k hk)⟩
  clear hA hok hid
  have hmm := @run_makeMap Try.prog
  go_enter Try.func45, Try.ntmps45
  go_wp2_with fail
  go_loopw [9] (fun iv wr => ∃ k : Nat, k ≤ q.length ∧ iv = .int .i64 k ∧ Hid (MapOf wr w.heap.size k (q.take k)) ∧ Hid (Below w.heap.size w wr)) (fun iv _ => q.length - (intOf iv).toNat)
  case atStart => exact ⟨0, Nat.zero_le _, rfl, ⟨_, World.ownsMap_made _ _ _ _, fun _ => CmD.nil⟩, (Below.refl _ _).alloc (Nat.le_refl _) _⟩
  case round =>
    obtain ⟨k, hk, rfl, HM, HG⟩ := hrel
    by_cases hlt : k < q.length
    · obtain ⟨b, off, rfl, c0, c1, c2, c3, c4⟩ := ups_at (HA.out wr HG.out) k hlt
      obtain ⟨hx, hi⟩ := HK.out k hlt
      have HD : Hid (q.take (k + 1) = q.take k ++ [uvD q k]) := uvD_take q k hlt
      generalize uvD q k = x at *
      obtain ⟨a1, n1, d1, a2, n2, d2, a3, n3, d3, e1, e2, e3⟩ := hx.forms
      have HX : Hid (UvOk w x ∧ Wr.isId x.u.id = true) := ⟨hx, hi⟩
      clear hx hi
      obtain ⟨⟨⟨ua, un⟩, ps, says, ts⟩, vp, vs, vt⟩ := x
      dsimp only at *
      subst e1 e2 e3
      have hsz := HG.out.size
      have hm2 : MapOf (wr.alloc (.cells #[.int .i64 ua, .int .i64 un, .slice a1 n1 d1, .slice a2 n2 d2, .slice a3 n3 d3] 34)) w.heap.size k (q.take k) := by
        obtain ⟨D, h1, h2⟩ := HM.out
        exact ⟨D, h1.alloc _, h2⟩
      have HM2 : Hid (MapOf (wr.alloc (.cells #[.int .i64 ua, .int .i64 un, .slice a1 n1 d1, .slice a2 n2 d2, .slice a3 n3 d3] 34)) w.heap.size k (q.take k)) := hm2
      have HG2 : Hid (Below w.heap.size w (wr.alloc (.cells #[.int .i64 ua, .int .i64 un, .slice a1 n1 d1, .slice a2 n2 d2, .slice a3 n3 d3] 34))) := HG.out.alloc hsz _
      clear hm2 HM
      go_wp2_with (at_mapUpdate; refine wpList_store_map _ rfl _ _ _ rfl w.heap.size k (q.take k) ⟨⟨⟨ua, un⟩, ps, says, ts⟩, .slice a1 n1 d1, .slice a2 n2 d2, .slice a3 n3 d3⟩ w rfl HM2.out (by omega) rfl rfl HX.out.2 HX.out.1 ?_; intro w5 hm5 hg5)
      have HM5 : Hid (MapOf w5 w.heap.size (k + 1) (q.take (k + 1))) := by
        show MapOf _ _ _ _
        rw [HD.out]
        exact hm5
      have HG5 : Hid (Below w.heap.size w w5) := HG2.out.grown hg5 HG2.out.size (fun j e => by cases e; exact Nat.le_refl _)
      clear hm5 hg5 HD
      go_roundw
      case rel => exact ⟨k + 1, hlt, by go_num, HM5.out, HG5.out⟩
      case measure => simp [intOf]; omega
    · have hdd : decide (k < q.length) = false := decide_eq_false hlt
      obtain rfl : k = q.length := by omega
      have HM3 : Hid (MapOf wr w.heap.size q.length q) := by
        have := HM.out
        rw [List.take_length] at this
        exact this
      go_wp2_with fail
      go_ret
      exact ⟨rfl, HM3.out, HG.out⟩
end Go.Proofs.Ytmfaodapofamfaa

/- IndexFunc and ContainsFunc of updates; order; Rise. -/
namespace Go.Proofs.Ytmfaodapofamfaa
open Go.RowKit Go.Maps

set_option maxRecDepth 100000 in
set_option maxHeartbeats 1000000 in
theorem indexA_any (B : Nat) (P : Wr.Up → Bool) (q : List Uv) (v : Value) (w : World) (hV : UpsV w v q) (hl : q.length ≤ 1000) (hok : ∀ x, x ∈ q → UvOk w x) (hC : ∀ z x, Below w.heap.size w z → x ∈ q → Calls Try.prog 49 #[uvVal x, .pointer (some ⟨B, 0, none⟩)] z fun e w' => e = .returned (.bool (P x.u)) ∧ Below z.heap.size z w') :
    Calls Try.prog 68 #[v, .func (.func 49) #[] #[.pointer (some ⟨B, 0, none⟩)]] w fun e w' => ∃ r : Int, e = .returned (.int .i64 r) ∧ (decide (0 ≤ r) = (ups q).any P) ∧ Below w.heap.size w w' := by
  obtain ⟨ao, cap, rfl, _, hA⟩ := hV
  have HA : Hid (UpsAt w ao q) := hA
  have HF : Hid (∀ x, x ∈ q → UvOk w x) := hok
  have HC : Hid (∀ z x, Below w.heap.size w z → x ∈ q → Calls Try.prog 49 #[uvVal x, .pointer (some ⟨B, 0, none⟩)] z fun e w' => e = .returned (.bool (P x.u)) ∧ Below z.heap.size z w') := hC
  clear hok hC hA
  go_enter Try.func68, Try.ntmps68
  go_wp2_with fail
  go_loopw [8] (fun iv wr => ∃ k : Nat, k ≤ q.length ∧ iv = .int .i64 k ∧ Hid ((ups q).any P = ((ups (q.drop k)).any P)) ∧ Below w.heap.size w wr) (fun iv _ => q.length - (intOf iv).toNat)
  case atStart => exact ⟨0, Nat.zero_le _, rfl, rfl, Below.refl _ _⟩
  case round =>
    obtain ⟨k, hk, rfl, HR, hbw⟩ := hrel
    by_cases hlt : k < q.length
    · obtain ⟨b, off, rfl, c0, c1, c2, c3, c4⟩ := ups_at (HA.out.kc (Kc.below hbw)) k hlt
      have HD : Hid ((ups q).any P = (P (uvD q k).u || (ups (q.drop (k + 1))).any P)) := by
        show _ = _
        rw [HR.out, uvD_drop q k hlt]
        rfl
      have hm := uvD_mem q k hlt
      have HX : Hid (Calls Try.prog 49 #[uvVal (uvD q k), .pointer (some ⟨B, 0, none⟩)] wr fun e w' => e = .returned (.bool (P (uvD q k).u)) ∧ Below wr.heap.size wr w') := HC.out wr _ hbw hm
      obtain ⟨a1, n1, d1, a2, n2, d2, a3, n3, d3, e1, e2, e3⟩ := (HF.out _ hm).forms
      clear HR hm
      generalize uvD q k = x at *
      generalize P x.u = bx at *
      obtain ⟨⟨⟨ua, un⟩, ps, says, ts⟩, vp, vs, vt⟩ := x
      dsimp only at *
      subst e1 e2 e3
      cases bx
      · go_wp2_with (go_at_call 49; refine Calls.mono HX.out ?_; rintro e z1 ⟨rfl, hg1⟩)
        have hb1 := hbw.trans (hg1.mono hbw.size)
        go_roundw
        case rel => exact ⟨k + 1, hlt, by go_num, HD.out.trans (by rw [Bool.false_or]), hb1⟩
        case measure => simp [intOf]; omega
      · go_wp2_with (go_at_call 49; refine Calls.mono HX.out ?_; rintro e z1 ⟨rfl, hg1⟩)
        go_ret
        exact ⟨k, rfl, by rw [HD.out, decide_eq_true (by omega)]; rfl, hbw.trans (hg1.mono hbw.size)⟩
    · have hdd : decide (k < q.length) = false := decide_eq_false hlt
      have HE : Hid ((ups q).any P = false) := by
        show _ = _
        rw [HR.out, List.drop_of_length_le (by omega)]
        rfl
      go_wp2_with fail
      go_ret
      exact ⟨-1, rfl, by rw [HE.out]; rfl, hbw⟩
set_option maxRecDepth 100000 in
set_option maxHeartbeats 1000000 in
theorem containsA_any (B : Nat) (P : Wr.Up → Bool) (q : List Uv) (v : Value) (w : World) (hV : UpsV w v q) (hl : q.length ≤ 1000) (hok : ∀ x, x ∈ q → UvOk w x) (hC : ∀ z x, Below w.heap.size w z → x ∈ q → Calls Try.prog 49 #[uvVal x, .pointer (some ⟨B, 0, none⟩)] z fun e w' => e = .returned (.bool (P x.u)) ∧ Below z.heap.size z w') :
    Calls Try.prog 48 #[v, .func (.func 49) #[] #[.pointer (some ⟨B, 0, none⟩)]] w fun e w' => e = .returned (.bool ((ups q).any P)) ∧ Below w.heap.size w w' := by
  have HC : Hid _ := indexA_any B P q v w hV hl hok hC
  obtain ⟨ao, cap, rfl, _⟩ := id hV
  generalize (ups q).any P = bb at *
  clear hV hok hC
  go_enter Try.func48, Try.ntmps48
  go_wp2_with (go_at_call 68; refine Calls.mono HC.out ?_; rintro e z1 ⟨r, rfl, hr, hg1⟩)
  go_ret
  exact ⟨by rw [← hr]; rfl, hg1⟩
set_option maxRecDepth 100000 in
set_option maxHeartbeats 1000000 in
theorem indexB_any (B : Nat) (P : Wr.Up → Bool) (q : List Uv) (v : Value) (w : World) (hV : UpsV w v q) (hl : q.length ≤ 1000) (hok : ∀ x, x ∈ q → UvOk w x) (hC : ∀ z x, Below w.heap.size w z → x ∈ q → Calls Try.prog 51 #[uvVal x, .pointer (some ⟨B, 0, none⟩)] z fun e w' => e = .returned (.bool (P x.u)) ∧ Below z.heap.size z w') :
    Calls Try.prog 68 #[v, .func (.func 51) #[] #[.pointer (some ⟨B, 0, none⟩)]] w fun e w' => ∃ r : Int, e = .returned (.int .i64 r) ∧ (decide (0 ≤ r) = (ups q).any P) ∧ Below w.heap.size w w' := by
  obtain ⟨ao, cap, rfl, _, hA⟩ := hV
  have HA : Hid (UpsAt w ao q) := hA
  have HF : Hid (∀ x, x ∈ q → UvOk w x) := hok
  have HC : Hid (∀ z x, Below w.heap.size w z → x ∈ q → Calls Try.prog 51 #[uvVal x, .pointer (some ⟨B, 0, none⟩)] z fun e w' => e = .returned (.bool (P x.u)) ∧ Below z.heap.size z w') := hC
  clear hok hC hA
  go_enter Try.func68, Try.ntmps68
  go_wp2_with fail
  go_loopw [8] (fun iv wr => ∃ k : Nat, k ≤ q.length ∧ iv = .int .i64 k ∧ Hid ((ups q).any P = ((ups (q.drop k)).any P)) ∧ Below w.heap.size w wr) (fun iv _ => q.length - (intOf iv).toNat)
  case atStart => exact ⟨0, Nat.zero_le _, rfl, rfl, Below.refl _ _⟩
  case round =>
    obtain ⟨k, hk, rfl, HR, hbw⟩ := hrel
    by_cases hlt : k < q.length
    · obtain ⟨b, off, rfl, c0, c1, c2, c3, c4⟩ := ups_at (HA.out.kc (Kc.below hbw)) k hlt
      have HD : Hid ((ups q).any P = (P (uvD q k).u || (ups (q.drop (k + 1))).any P)) := by
        show _ = _
        rw [HR.out, uvD_drop q k hlt]
        rfl
      have hm := uvD_mem q k hlt
      have HX : Hid (Calls Try.prog 51 #[uvVal (uvD q k), .pointer (some ⟨B, 0, none⟩)] wr fun e w' => e = .returned (.bool (P (uvD q k).u)) ∧ Below wr.heap.size wr w') := HC.out wr _ hbw hm
      obtain ⟨a1, n1, d1, a2, n2, d2, a3, n3, d3, e1, e2, e3⟩ := (HF.out _ hm).forms
      clear HR hm
      generalize uvD q k = x at *
      generalize P x.u = bx at *
      obtain ⟨⟨⟨ua, un⟩, ps, says, ts⟩, vp, vs, vt⟩ := x
      dsimp only at *
      subst e1 e2 e3
      cases bx
      · go_wp2_with (go_at_call 51; refine Calls.mono HX.out ?_; rintro e z1 ⟨rfl, hg1⟩)
        have hb1 := hbw.trans (hg1.mono hbw.size)
        go_roundw
        case rel => exact ⟨k + 1, hlt, by go_num, HD.out.trans (by rw [Bool.false_or]), hb1⟩
        case measure => simp [intOf]; omega
      · go_wp2_with (go_at_call 51; refine Calls.mono HX.out ?_; rintro e z1 ⟨rfl, hg1⟩)
        go_ret
        exact ⟨k, rfl, by rw [HD.out, decide_eq_true (by omega)]; rfl, hbw.trans (hg1.mono hbw.size)⟩
    · have hdd : decide (k < q.length) = false := decide_eq_false hlt
      have HE : Hid ((ups q).any P = false) := by
        show _ = _
        rw [HR.out, List.drop_of_length_le (by omega)]
        rfl
      go_wp2_with fail
      go_ret
      exact ⟨-1, rfl, by rw [HE.out]; rfl, hbw⟩
set_option maxRecDepth 100000 in
set_option maxHeartbeats 1000000 in
theorem containsB_any (B : Nat) (P : Wr.Up → Bool) (q : List Uv) (v : Value) (w : World) (hV : UpsV w v q) (hl : q.length ≤ 1000) (hok : ∀ x, x ∈ q → UvOk w x) (hC : ∀ z x, Below w.heap.size w z → x ∈ q → Calls Try.prog 51 #[uvVal x, .pointer (some ⟨B, 0, none⟩)] z fun e w' => e = .returned (.bool (P x.u)) ∧ Below z.heap.size z w') :
    Calls Try.prog 48 #[v, .func (.func 51) #[] #[.pointer (some ⟨B, 0, none⟩)]] w fun e w' => e = .returned (.bool ((ups q).any P)) ∧ Below w.heap.size w w' := by
  have HC : Hid _ := indexB_any B P q v w hV hl hok hC
  obtain ⟨ao, cap, rfl, _⟩ := id hV
  generalize (ups q).any P = bb at *
  clear hV hok hC
  go_enter Try.func48, Try.ntmps48
  go_wp2_with (go_at_call 68; refine Calls.mono HC.out ?_; rintro e z1 ⟨r, rfl, hr, hg1⟩)
  go_ret
  exact ⟨by rw [← hr]; rfl, hg1⟩
set_option maxRecDepth 100000 in
set_option maxHeartbeats 1000000 in
theorem indexC_any (B : Nat) (P : Wr.Up → Bool) (q : List Uv) (v : Value) (w : World) (hV : UpsV w v q) (hl : q.length ≤ 1000) (hok : ∀ x, x ∈ q → UvOk w x) (hC : ∀ z x, Below w.heap.size w z → x ∈ q → Calls Try.prog 52 #[.map (some B), uvVal x] z fun e w' => e = .returned (.bool (P x.u)) ∧ Below z.heap.size z w') :
    Calls Try.prog 68 #[v, .func (.func 52) #[.map (some B)] #[]] w fun e w' => ∃ r : Int, e = .returned (.int .i64 r) ∧ (decide (0 ≤ r) = (ups q).any P) ∧ Below w.heap.size w w' := by
  obtain ⟨ao, cap, rfl, _, hA⟩ := hV
  have HA : Hid (UpsAt w ao q) := hA
  have HF : Hid (∀ x, x ∈ q → UvOk w x) := hok
  have HC : Hid (∀ z x, Below w.heap.size w z → x ∈ q → Calls Try.prog 52 #[.map (some B), uvVal x] z fun e w' => e = .returned (.bool (P x.u)) ∧ Below z.heap.size z w') := hC
  clear hok hC hA
  go_enter Try.func68, Try.ntmps68
  go_wp2_with fail
  go_loopw [8] (fun iv wr => ∃ k : Nat, k ≤ q.length ∧ iv = .int .i64 k ∧ Hid ((ups q).any P = ((ups (q.drop k)).any P)) ∧ Below w.heap.size w wr) (fun iv _ => q.length - (intOf iv).toNat)
  case atStart => exact ⟨0, Nat.zero_le _, rfl, rfl, Below.refl _ _⟩
  case round =>
    obtain ⟨k, hk, rfl, HR, hbw⟩ := hrel
    by_cases hlt : k < q.length
    · obtain ⟨b, off, rfl, c0, c1, c2, c3, c4⟩ := ups_at (HA.out.kc (Kc.below hbw)) k hlt
      have HD : Hid ((ups q).any P = (P (uvD q k).u || (ups (q.drop (k + 1))).any P)) := by
        show _ = _
        rw [HR.out, uvD_drop q k hlt]
        rfl
      have hm := uvD_mem q k hlt
      have HX : Hid (Calls Try.prog 52 #[.map (some B), uvVal (uvD q k)] wr fun e w' => e = .returned (.bool (P (uvD q k).u)) ∧ Below wr.heap.size wr w') := HC.out wr _ hbw hm
      obtain ⟨a1, n1, d1, a2, n2, d2, a3, n3, d3, e1, e2, e3⟩ := (HF.out _ hm).forms
      clear HR hm
      generalize uvD q k = x at *
      generalize P x.u = bx at *
      obtain ⟨⟨⟨ua, un⟩, ps, says, ts⟩, vp, vs, vt⟩ := x
      dsimp only at *
      subst e1 e2 e3
      cases bx
      · go_wp2_with (go_at_call 52; refine Calls.mono HX.out ?_; rintro e z1 ⟨rfl, hg1⟩)
        have hb1 := hbw.trans (hg1.mono hbw.size)
        go_roundw
        case rel => exact ⟨k + 1, hlt, by go_num, HD.out.trans (by rw [Bool.false_or]), hb1⟩
        case measure => simp [intOf]; omega
      · go_wp2_with (go_at_call 52; refine Calls.mono HX.out ?_; rintro e z1 ⟨rfl, hg1⟩)
        go_ret
        exact ⟨k, rfl, by rw [HD.out, decide_eq_true (by omega)]; rfl, hbw.trans (hg1.mono hbw.size)⟩
    · have hdd : decide (k < q.length) = false := decide_eq_false hlt
      have HE : Hid ((ups q).any P = false) := by
        show _ = _
        rw [HR.out, List.drop_of_length_le (by omega)]
        rfl
      go_wp2_with fail
      go_ret
      exact ⟨-1, rfl, by rw [HE.out]; rfl, hbw⟩
set_option maxRecDepth 100000 in
set_option maxHeartbeats 1000000 in
theorem containsC_any (B : Nat) (P : Wr.Up → Bool) (q : List Uv) (v : Value) (w : World) (hV : UpsV w v q) (hl : q.length ≤ 1000) (hok : ∀ x, x ∈ q → UvOk w x) (hC : ∀ z x, Below w.heap.size w z → x ∈ q → Calls Try.prog 52 #[.map (some B), uvVal x] z fun e w' => e = .returned (.bool (P x.u)) ∧ Below z.heap.size z w') :
    Calls Try.prog 48 #[v, .func (.func 52) #[.map (some B)] #[]] w fun e w' => e = .returned (.bool ((ups q).any P)) ∧ Below w.heap.size w w' := by
  have HC : Hid _ := indexC_any B P q v w hV hl hok hC
  obtain ⟨ao, cap, rfl, _⟩ := id hV
  generalize (ups q).any P = bb at *
  clear hV hok hC
  go_enter Try.func48, Try.ntmps48
  go_wp2_with (go_at_call 68; refine Calls.mono HC.out ?_; rintro e z1 ⟨r, rfl, hr, hg1⟩)
  go_ret
  exact ⟨by rw [← hr]; rfl, hg1⟩
end Go.Proofs.Ytmfaodapofamfaa

/- The order of updates; do they rise? -/
namespace Go.Proofs.Ytmfaodapofamfaa
open Go.RowKit Go.Maps

set_option maxRecDepth 100000 in
set_option maxHeartbeats 1000000 in
theorem order_any (x y : Uv) (w w0 : World) (hx : UvOk w0 x) (hy : UvOk w0 y) : Calls Try.prog 47 #[uvVal x, uvVal y] w fun e w' => e = .returned (.int .i64 (Dg.uOrd x.u y.u)) ∧ Gr w w' := by
  obtain ⟨a1, n1, d1, a2, n2, d2, a3, n3, d3, e1, e2, e3⟩ := hx.forms
  obtain ⟨b1, m1, f1, b2, m2, f2, b3, m3, f3, g1, g2, g3⟩ := hy.forms
  obtain ⟨⟨⟨ua, un⟩, ps, says, ts⟩, vp, vs, vt⟩ := x
  obtain ⟨⟨⟨xa, xn⟩, ps2, says2, ts2⟩, vp2, vs2, vt2⟩ := y
  dsimp only at *
  subst e1 e2 e3 g1 g2 g3
  clear hx hy
  have HO : Hid (∀ z, Calls Try.prog 32 #[idVal ⟨ua, un⟩, idVal ⟨xa, xn⟩] z fun e w' => e = .returned (.int .i64 (Wr.idOrd ⟨ua, un⟩ ⟨xa, xn⟩)) ∧ Gr z w') := fun z => uOrder_any ⟨ua, un⟩ ⟨xa, xn⟩ z
  have HU : Hid (Dg.uOrd ⟨⟨ua, un⟩, ps, says, ts⟩ ⟨⟨xa, xn⟩, ps2, says2, ts2⟩ = Wr.idOrd ⟨ua, un⟩ ⟨xa, xn⟩) := rfl
  generalize Dg.uOrd ⟨⟨ua, un⟩, ps, says, ts⟩ ⟨⟨xa, xn⟩, ps2, says2, ts2⟩ = od at *
  generalize Wr.idOrd ⟨ua, un⟩ ⟨xa, xn⟩ = oe at *
  obtain rfl : od = oe := HU.out
  have HG : Hid (Gr w ((w.alloc (.cells #[.int .i64 ua, .int .i64 un, .slice a1 n1 d1, .slice a2 n2 d2, .slice a3 n3 d3] 34)).alloc (.cells #[.int .i64 xa, .int .i64 xn, .slice b1 m1 f1, .slice b2 m2 f2, .slice b3 m3 f3] 34))) := ((Gr.refl w).alloc _).alloc _
  go_enter Try.func47, Try.ntmps47
  go_wp2_with (go_at_call 32; refine Calls.mono (HO.out _) ?_; rintro e z1 ⟨rfl, hg1⟩)
  go_ret
  exact ⟨rfl, HG.out.trans hg1⟩
theorem ups_getD (q : List Uv) (i : Nat) : (ups q).getD i uvZ.u = (uvD q i).u := by
  unfold ups uvD
  rw [List.getD_eq_getElem?_getD, List.getD_eq_getElem?_getD, List.getElem?_map]
  cases q[i]? <;> rfl
set_option maxRecDepth 100000 in
set_option maxHeartbeats 2000000 in
theorem RiseU_any (q : List Uv) (v : Value) (w : World) (hV : UpsV w v q) (hl : q.length ≤ 1000) (hok : ∀ x, x ∈ q → UvOk w x) : Calls Try.prog 46 #[v, .func (.func 47) #[] #[]] w fun e w' => e = .returned (.bool (Wr.rise Dg.uOrd (ups q))) ∧ Below w.heap.size w w' := by
  obtain ⟨ao, cap, rfl, _, hA⟩ := hV
  have HA : Hid (UpsAt w ao q) := hA
  have HF : Hid (∀ x, x ∈ q → UvOk w x) := hok
  clear hok hA
  go_enter Try.func46, Try.ntmps46
  go_wp2_with fail
  go_loopw [5] (fun iv wr => ∃ k : Nat, 1 ≤ k ∧ k ≤ q.length + 1 ∧ iv = .int .i64 k ∧ Hid (Wr.rise Dg.uOrd (ups q) = Wr.rise Dg.uOrd ((ups q).drop (k - 1))) ∧ Below w.heap.size w wr) (fun iv _ => q.length + 2 - (intOf iv).toNat)
  case atStart => exact ⟨1, Nat.le_refl _, by omega, rfl, rfl, Below.refl _ _⟩
  case round =>
    obtain ⟨k, hk1, hk, rfl, HR, hbw⟩ := hrel
    obtain ⟨j, hkj⟩ : ∃ j, k = j + 1 := ⟨k - 1, by omega⟩
    by_cases hlt : k < q.length
    · have hltj : j < q.length := by omega
      have hwr : IntKind.i64.wrap ((k : Int) - 1) = (j : Int) := by
        have e : ((k : Int) - 1) = (j : Int) := by omega
        rw [e]
        simp [IntKind.wrap, IntKind.bits, IntKind.signed]
        omega
      have HD : Hid (Wr.rise Dg.uOrd (ups q) = (decide (Dg.uOrd (uvD q j).u (uvD q k).u < 0) && Wr.rise Dg.uOrd ((ups q).drop j.succ))) := by
        show _ = _
        rw [HR.out, hkj, Nat.add_sub_cancel, ← ups_getD, ← ups_getD]
        exact Wr.rise_step Dg.uOrd uvZ.u (ups q) j (by show j + 1 < (q.map Uv.u).length; rw [List.length_map]; omega)
      have HKJ : Hid (k = j + 1) := hkj
      clear hkj
      obtain ⟨b, off, rfl, p0, p1, p2, p3, p4⟩ := ups_at (HA.out.kc (Kc.below hbw)) j hltj
      obtain ⟨b2, off2, hv2, r0, r1, r2, r3, r4⟩ := ups_at (HA.out.kc (Kc.below hbw)) k hlt
      injection hv2 with hv2
      injection hv2 with hb2 ho2 _
      subst hb2 ho2
      have hx := HF.out _ (uvD_mem q j hltj)
      have hy := HF.out _ (uvD_mem q k hlt)
      have HN : Hid (∀ z, Below wr.heap.size wr z → Calls Try.prog 47 #[uvVal (uvD q j), uvVal (uvD q k)] z fun e w' => e = .returned (.int .i64 (Dg.uOrd (uvD q j).u (uvD q k).u)) ∧ Below wr.heap.size wr w' ∧ UpIn w' b (off + j * 5) (uvD q j) ∧ UpIn w' b (off + k * 5) (uvD q k)) := by
        intro z hz
        refine (order_any (uvD q j) (uvD q k) z w hx hy).mono ?_
        rintro e w' ⟨h1, h2⟩
        have h3 := hz.trans (h2.below.mono hz.size)
        exact ⟨h1, h3, (Kc.below h3).up ⟨p0, p1, p2, p3, p4⟩, (Kc.below h3).up ⟨r0, r1, r2, r3, r4⟩⟩
      obtain ⟨a1, n1, d1, a2, n2, d2, a3, n3, d3, e1, e2, e3⟩ := hx.forms
      obtain ⟨b1, m1, f1, b2, m2, f2, b3, m3, f3, g1, g2, g3⟩ := hy.forms
      clear HR hx hy
      generalize hod : Dg.uOrd (uvD q j).u (uvD q k).u = od at *
      clear hod
      generalize uvD q j = x at *
      generalize uvD q k = y at *
      obtain ⟨⟨⟨ua, un⟩, ps, says, ts⟩, vp, vs, vt⟩ := x
      obtain ⟨⟨⟨xa, xn⟩, ps2, says2, ts2⟩, vp2, vs2, vt2⟩ := y
      unfold UpIn at HN
      dsimp only at *
      subst e1 e2 e3 g1 g2 g3
      have HGA : ∀ b o, Below wr.heap.size wr b → Below wr.heap.size wr (b.alloc o) := fun _ o h => h.alloc h.size o
      have HGD : ∀ b, Below wr.heap.size wr b → Below wr.heap.size wr b.drew := fun _ h => ⟨h.os, h.tape, h.output, h.size, h.block⟩
      have HGR : Below wr.heap.size wr wr := Below.refl _ _
      by_cases ho : 0 ≤ od
      · have hod : decide (0 ≤ od) = true := decide_eq_true ho
        have HE : Hid (Wr.rise Dg.uOrd (ups q) = false) := by
          show _ = _
          rw [HD.out, decide_eq_false (by omega)]
          rfl
        clear HD
        go_upto_region 4 with fail
        go_region_held3 (fun yy => yy.cell? ⟨b, off + j * 5, none⟩ = some (.int .i64 ua) ∧ yy.cell? ⟨b, off + j * 5 + 1, none⟩ = some (.int .i64 un) ∧ yy.cell? ⟨b, off + j * 5 + 2, none⟩ = some (.slice a1 n1 d1) ∧ yy.cell? ⟨b, off + j * 5 + 3, none⟩ = some (.slice a2 n2 d2) ∧ yy.cell? ⟨b, off + j * 5 + 4, none⟩ = some (.slice a3 n3 d3) ∧ yy.cell? ⟨b, off + k * 5, none⟩ = some (.int .i64 xa) ∧ yy.cell? ⟨b, off + k * 5 + 1, none⟩ = some (.int .i64 xn) ∧ yy.cell? ⟨b, off + k * 5 + 2, none⟩ = some (.slice b1 m1 f1) ∧ yy.cell? ⟨b, off + k * 5 + 3, none⟩ = some (.slice b2 m2 f2) ∧ yy.cell? ⟨b, off + k * 5 + 4, none⟩ = some (.slice b3 m3 f3) ∧ Below wr.heap.size wr yy) (go_keep) (
          (go_at_call 47; refine Calls.mono (HN.out _ ?_) ?_; (simp [*]); rintro e w2 ⟨rfl, hb2, ⟨z0, z1, z2, z3, z4⟩, s0, s1, s2, s3, s4⟩))
        clear HGA HGD HGR HN z0 z1 z2 z3 z4 s0 s1 s2 s3 s4 p0 p1 p2 p3 p4 r0 r1 r2 r3 r4
        have hb3 := hbw.trans (hb2.mono hbw.size)
        clear hb2 hbw
        go_wp2_with fail
        go_ret
        exact ⟨by rw [HE.out]; rfl, hb3⟩
      · have hod : decide (0 ≤ od) = false := decide_eq_false ho
        have HE : Hid (Wr.rise Dg.uOrd (ups q) = Wr.rise Dg.uOrd ((ups q).drop k)) := by
          show _ = _
          rw [HD.out, decide_eq_true (by omega), Bool.true_and, HKJ.out]
        clear HD
        go_upto_region 4 with fail
        go_region_held3 (fun yy => yy.cell? ⟨b, off + j * 5, none⟩ = some (.int .i64 ua) ∧ yy.cell? ⟨b, off + j * 5 + 1, none⟩ = some (.int .i64 un) ∧ yy.cell? ⟨b, off + j * 5 + 2, none⟩ = some (.slice a1 n1 d1) ∧ yy.cell? ⟨b, off + j * 5 + 3, none⟩ = some (.slice a2 n2 d2) ∧ yy.cell? ⟨b, off + j * 5 + 4, none⟩ = some (.slice a3 n3 d3) ∧ yy.cell? ⟨b, off + k * 5, none⟩ = some (.int .i64 xa) ∧ yy.cell? ⟨b, off + k * 5 + 1, none⟩ = some (.int .i64 xn) ∧ yy.cell? ⟨b, off + k * 5 + 2, none⟩ = some (.slice b1 m1 f1) ∧ yy.cell? ⟨b, off + k * 5 + 3, none⟩ = some (.slice b2 m2 f2) ∧ yy.cell? ⟨b, off + k * 5 + 4, none⟩ = some (.slice b3 m3 f3) ∧ Below wr.heap.size wr yy) (go_keep) (
          (go_at_call 47; refine Calls.mono (HN.out _ ?_) ?_; (simp [*]); rintro e w2 ⟨rfl, hb2, ⟨z0, z1, z2, z3, z4⟩, s0, s1, s2, s3, s4⟩))
        clear HGA HGD HGR HN z0 z1 z2 z3 z4 s0 s1 s2 s3 s4 p0 p1 p2 p3 p4 r0 r1 r2 r3 r4
        have hb3 := hbw.trans (hb2.mono hbw.size)
        clear hb2 hbw
        go_wp2_with fail
        go_roundw
        case rel => exact ⟨k + 1, by omega, by omega, by go_num, HE.out, hb3⟩
        case measure => simp [intOf]; omega
    · have hltI : decide (k < q.length) = false := decide_eq_false hlt
      have HE : Hid (Wr.rise Dg.uOrd (ups q) = true) := HR.out.trans (Wr.rise_end Dg.uOrd (ups q) (k - 1) (by show ¬ k - 1 + 1 < (q.map Uv.u).length; rw [List.length_map]; omega))
      go_wp2_with fail
      go_ret
      exact ⟨by rw [HE.out]; rfl, hbw⟩
end Go.Proofs.Ytmfaodapofamfaa

/- settle: who is come to, and who is left. -/
namespace Go.Proofs.Ytmfaodapofamfaa
open Go.RowKit Go.Maps

def lenOf : Value → Nat
  | .slice _ n _ => n
  | _ => 0
theorem ups_length (q : List Uv) : (ups q).length = q.length := by simp [ups]
theorem ups_append (q r : List Uv) : ups (q ++ r) = ups q ++ ups r := by simp [ups]
/-- What one round has done so far. -/
structure PassI (q0 c q : List Uv) (k : Nat) (c' l' : List Uv) : Prop where
  pass : Dg.pass Dg.snoc (ups c) (ups q) = ((Dg.pass Dg.snoc (ups c') (ups (q.drop k))).1, ups l' ++ (Dg.pass Dg.snoc (ups c') (ups (q.drop k))).2)
  perm : (c' ++ l' ++ q.drop k).Perm (c ++ q)
theorem PassI.start (q0 c q : List Uv) : PassI q0 c q 0 c [] := ⟨rfl, by simp⟩
theorem PassI.yes {q0 c q c' l' : List Uv} {k : Nat} (h : PassI q0 c q k c' l') (hk : k < q.length) (hc : Dg.carry (ups c') (uvD q k).u = true) : PassI q0 c q (k + 1) (c' ++ [uvD q k]) l' := by
  refine ⟨?_, ?_⟩
  · rw [h.pass, uvD_drop q k hk]
    show _ = ((Dg.pass Dg.snoc (ups (c' ++ [uvD q k])) (ups (q.drop (k + 1)))).1, _)
    have e : ups (uvD q k :: q.drop (k + 1)) = (uvD q k).u :: ups (q.drop (k + 1)) := rfl
    rw [e, Dg.pass_yes hc, ups_append]
    rfl
  · refine List.Perm.trans ?_ h.perm
    rw [uvD_drop q k hk]
    generalize uvD q k = x
    generalize q.drop (k + 1) = r
    rw [List.append_assoc, List.append_assoc, List.append_assoc]
    exact List.Perm.append_left c' ((List.perm_middle (a := x) (l₁ := l') (l₂ := r)).symm)
theorem PassI.no {q0 c q c' l' : List Uv} {k : Nat} (h : PassI q0 c q k c' l') (hk : k < q.length) (hc : Dg.carry (ups c') (uvD q k).u = false) : PassI q0 c q (k + 1) c' (l' ++ [uvD q k]) := by
  refine ⟨?_, ?_⟩
  · rw [h.pass, uvD_drop q k hk]
    have e : ups (uvD q k :: q.drop (k + 1)) = (uvD q k).u :: ups (q.drop (k + 1)) := rfl
    rw [e, Dg.pass_no hc, ups_append, List.append_assoc]
    rfl
  · refine List.Perm.trans ?_ h.perm
    rw [uvD_drop q k hk]
    simp only [List.append_assoc, List.cons_append, List.nil_append]
    exact List.Perm.refl _
theorem PassI.fin {q0 c q c' l' : List Uv} {k : Nat} (h : PassI q0 c q k c' l') (hk : ¬ k < q.length) : Dg.pass Dg.snoc (ups c) (ups q) = (ups c', ups l') ∧ (c' ++ l').Perm (c ++ q) := by
  have e : q.drop k = [] := List.drop_of_length_le (by omega)
  have h1 := h.pass
  have h2 := h.perm
  rw [e] at h1 h2
  rw [List.append_nil] at h2
  refine ⟨h1.trans ?_, h2⟩
  show (ups c', ups l' ++ []) = _
  rw [List.append_nil]
theorem nodup_perm {a b : List Uv} (h : a.Perm b) (hb : ((ups b).map Wr.Up.id).Nodup) : ((ups a).map Wr.Up.id).Nodup := (((h.map Uv.u).map Wr.Up.id).nodup_iff).mpr hb

/-- What stands between two rounds. -/
structure SetI (q0 : List Uv) (w : World) (c q : List Uv) (v : Value) (wr : World) : Prop where
  set : Dg.settle Dg.snoc [] (ups q0) = Dg.settle Dg.snoc (ups c) (ups q)
  perm : (c ++ q).Perm q0
  map : CmAt wr w.heap.size c
  row : UpsV wr v q
  kc : Kc w wr
  bel : Below w.heap.size w wr
  own : q = q0 ∨ URow wr w.heap.size v q
set_option maxRecDepth 100000 in
set_option maxHeartbeats 2000000 in
theorem settle_any (q0 : List Uv) (v0 : Value) (w : World) (hV : UpsV w v0 q0) (hl : q0.length ≤ 1000) (hok : ∀ x, x ∈ q0 → UvOk w x) (hid : ∀ x, x ∈ q0 → IdsOk x.u) (hnd : ((ups q0).map Wr.Up.id).Nodup) :
    Calls Try.prog 53 #[v0] w fun e w' => ∃ (c l : List Uv) (v : Value), e = .returned (.tuple #[.map (some w.heap.size), v]) ∧ Dg.settle Dg.snoc [] (ups q0) = (ups c, ups l) ∧ (c ++ l).Perm q0 ∧ CmAt w' w.heap.size c ∧ URow w' w.heap.size v l ∧ Below w.heap.size w w' := by
  obtain ⟨i0, hi, hz0, hz1, hz2⟩ := info_parts up_info
  have HOK : Hid (∀ x, x ∈ q0 → UvOk w x ∧ IdsOk x.u) := fun x hx => ⟨hok x hx, hid x hx⟩
  have HND : Hid (((ups q0).map Wr.Up.id).Nodup) := hnd
  have HV : Hid (UpsV w v0 q0) := hV
  obtain ⟨ao, cap, rfl, _⟩ := hV
  clear hok hid hnd
  have hmm := @run_makeMap Try.prog
  go_enter Try.func53, Try.ntmps53
  go_wp2_with fail
  have HS : Hid (SetI q0 w [] q0 (.slice ao q0.length cap) (w.alloc (.map #[] 0))) := ⟨rfl, .refl _, cmAt_made w, HV.out.kc (Kc.below ((Below.refl _ _).alloc (Nat.le_refl _) _)), Kc.below ((Below.refl _ _).alloc (Nat.le_refl _) _), (Below.refl _ _).alloc (Nat.le_refl _) _, .inl rfl⟩
  clear HV
  generalize w.alloc (.map #[] 0) = w1 at *
  go_loopw [0, 2, 3] (fun lv mv fv wr => ∃ (c q : List Uv) (aq : Option Addr) (cq : Nat), mv = .map (some w.heap.size) ∧ lv = .slice aq q.length cq ∧ (∃ af nf cf, fv = .slice af nf cf) ∧ Hid (SetI q0 w c q lv wr)) (fun lv _ _ _ => lenOf lv)
  case atStart => exact ⟨[], q0, _, _, rfl, rfl, ⟨_, _, _, rfl⟩, HS.out⟩
  case round =>
    obtain ⟨c, q, aq, cq, rfl, rfl, ⟨af, nf, cf, rfl⟩, HI⟩ := hrel
    clear HS
    generalize wr = wO at *
    have hql : q.length ≤ 1000 ∧ c.length ≤ 1000 := by
      have := HI.out.perm.length_eq
      rw [List.length_append] at this
      omega
    go_wp2_with fail
    go_loopw [3, 9] (fun fv iv wr => ∃ (k : Nat) (c' l' : List Uv), k ≤ q.length ∧ iv = .int .i64 k ∧ Hid (PassI q0 c q k c' l') ∧ CmAt wr w.heap.size c' ∧ URow wr wO.heap.size fv l' ∧ Hid (wO.grownBy wr (some w.heap.size))) (fun _ iv _ => q.length - (intOf iv).toNat)
    case atStart => exact ⟨0, c, [], Nat.zero_le _, rfl, PassI.start _ _ _, HI.out.map, World.ownsRow_nil _ _ _ _, grown_refl _ _⟩
    case round =>
      obtain ⟨k, c', l', hk, rfl, HP, hcm, hrow, HG⟩ := hrel
      obtain ⟨af, cf, rfl⟩ := own_slice hrow
      have hwz : wO.heap.size ≤ wr.heap.size := HG.out.size
      have hww : w.heap.size < wO.heap.size := HI.out.map.lt
      have hll : l'.length ≤ 1000 ∧ c'.length ≤ 1000 := by
        have := HP.out.perm.length_eq
        simp only [List.length_append] at this
        have h2 := HI.out.perm.length_eq
        rw [List.length_append] at h2
        omega
      by_cases hlt : k < q.length
      · have g1 : decide (k < q.length) = true := decide_eq_true hlt
        have HKC : Hid (Kc wO wr) := Kc.map HG.out HI.out.map
        obtain ⟨aq', cq', eq', _, hA⟩ := HI.out.row
        cases eq'
        obtain ⟨b, off, rfl, c0, c1, c2, c3, c4⟩ := ups_at (hA.kc HKC.out) k hlt
        have hmem : uvD q k ∈ q0 := HI.out.perm.mem_iff.mp (List.mem_append_right _ (uvD_mem q k hlt))
        have hx := (HOK.out _ hmem).1.kc (HI.out.kc.trans HKC.out)
        have hxi := (HOK.out _ hmem).2
        have HY : Hid (Dg.carry (ups c') (uvD q k).u = true → PassI q0 c q (k + 1) (c' ++ [uvD q k]) l') := fun h => HP.out.yes hlt h
        have HN : Hid (Dg.carry (ups c') (uvD q k).u = false → PassI q0 c q (k + 1) c' (l' ++ [uvD q k])) := fun h => HP.out.no hlt h
        have HNH : Hid (Dg.hasU (ups c') (uvD q k).u.id = false) := by
          have h3 : ((ups (c' ++ l' ++ q.drop k)).map Wr.Up.id).Nodup := nodup_perm (HP.out.perm.trans HI.out.perm) HND.out
          rw [uvD_drop q k hlt] at h3
          have h4 : ((ups (c' ++ [uvD q k])).map Wr.Up.id).Nodup := by
            refine h3.sublist ?_
            refine List.Sublist.map _ (List.Sublist.map _ ?_)
            rw [List.append_assoc]
            refine List.Sublist.append_left ?_ c'
            exact (List.singleton_sublist.mpr (by simp))
          exact (new_of_nodup h4).2
        clear HP hA
        generalize uvD q k = x at *
        obtain ⟨a1, n1, d1, a2, n2, d2, a3, n3, d3, e1, e2, e3⟩ := hx.forms
        have HX : Hid (UvOk wr x) := hx
        have HXI : Hid (IdsOk x.u) := hxi
        clear hx hxi hmem
        obtain ⟨⟨⟨ua, un⟩, ps, says, ts⟩, vp, vs, vt⟩ := x
        dsimp only at *
        subst e1 e2 e3
        have HB1 : Hid (Below wr.heap.size wr (wr.alloc (.cells #[.int .i64 ua, .int .i64 un, .slice a1 n1 d1, .slice a2 n2 d2, .slice a3 n3 d3] 34))) := (Below.refl _ _).alloc (Nat.le_refl _) _
        have HH1 : Hid ((wr.alloc (.cells #[.int .i64 ua, .int .i64 un, .slice a1 n1 d1, .slice a2 n2 d2, .slice a3 n3 d3] 34)).heap[wr.heap.size]? = _) := rl_new wr (.cells #[.int .i64 ua, .int .i64 un, .slice a1 n1 d1, .slice a2 n2 d2, .slice a3 n3 d3] 34)
        have HC : Hid (Calls Try.prog 52 #[.map (some w.heap.size), uvVal ⟨⟨⟨ua, un⟩, ps, says, ts⟩, .slice a1 n1 d1, .slice a2 n2 d2, .slice a3 n3 d3⟩] (wr.alloc (.cells #[.int .i64 ua, .int .i64 un, .slice a1 n1 d1, .slice a2 n2 d2, .slice a3 n3 d3] 34)) fun e w' => e = .returned (.bool (Dg.carry (ups c') ⟨⟨ua, un⟩, ps, says, ts⟩)) ∧ Below (wr.alloc (.cells #[.int .i64 ua, .int .i64 un, .slice a1 n1 d1, .slice a2 n2 d2, .slice a3 n3 d3] 34)).heap.size (wr.alloc (.cells #[.int .i64 ua, .int .i64 un, .slice a1 n1 d1, .slice a2 n2 d2, .slice a3 n3 d3] 34)) w') :=
          carry_any w.heap.size c' ⟨⟨⟨ua, un⟩, ps, says, ts⟩, .slice a1 n1 d1, .slice a2 n2 d2, .slice a3 n3 d3⟩ _ (hcm.below HB1.out) (HX.out.below HB1.out) (by have h1 := HXI.out.lp; have h2 := HXI.out.lt; dsimp only at *; omega) HXI.out.ps HXI.out.ts
        go_upto_region 6 with fail
        generalize wr.alloc (.cells #[.int .i64 ua, .int .i64 un, .slice a1 n1 d1, .slice a2 n2 d2, .slice a3 n3 d3] 34) = w2 at *
        have HD : Hid (∀ z, Below w2.heap.size w2 z → z.heap[wr.heap.size]? = some (.cells #[.int .i64 ua, .int .i64 un, .slice a1 n1 d1, .slice a2 n2 d2, .slice a3 n3 d3] 34)) := fun z hz => (hz.block _ (Array.getElem?_eq_some_iff.1 HH1.out).1).trans HH1.out
        have q0' : w2.cell? ⟨wr.heap.size, 0, none⟩ = some (.int .i64 ua) := by rw [Lib.cell_of_heap HH1.out]; rfl
        have q1' : w2.cell? ⟨wr.heap.size, 1, none⟩ = some (.int .i64 un) := by rw [Lib.cell_of_heap HH1.out]; rfl
        have q2' : w2.cell? ⟨wr.heap.size, 2, none⟩ = some (.slice a1 n1 d1) := by rw [Lib.cell_of_heap HH1.out]; rfl
        have q3' : w2.cell? ⟨wr.heap.size, 3, none⟩ = some (.slice a2 n2 d2) := by rw [Lib.cell_of_heap HH1.out]; rfl
        have q4' : w2.cell? ⟨wr.heap.size, 4, none⟩ = some (.slice a3 n3 d3) := by rw [Lib.cell_of_heap HH1.out]; rfl
        go_wp2_with fail
        refine Calls.mono HC.out ?_
        rintro e w3 ⟨rfl, hb3⟩
        clear HC q0' q1' q2' q3' q4' c0 c1 c2 c3 c4 HH1
        have hh3 := HD.out w3 hb3
        have q0' : w3.cell? ⟨wr.heap.size, 0, none⟩ = some (.int .i64 ua) := by rw [Lib.cell_of_heap hh3]; rfl
        have q1' : w3.cell? ⟨wr.heap.size, 1, none⟩ = some (.int .i64 un) := by rw [Lib.cell_of_heap hh3]; rfl
        have q2' : w3.cell? ⟨wr.heap.size, 2, none⟩ = some (.slice a1 n1 d1) := by rw [Lib.cell_of_heap hh3]; rfl
        have q3' : w3.cell? ⟨wr.heap.size, 3, none⟩ = some (.slice a2 n2 d2) := by rw [Lib.cell_of_heap hh3]; rfl
        have q4' : w3.cell? ⟨wr.heap.size, 4, none⟩ = some (.slice a3 n3 d3) := by rw [Lib.cell_of_heap hh3]; rfl
        have hb13 := HB1.out.trans (hb3.mono HB1.out.size)
        have hcm3 := hcm.below hb13
        have hrow3 := ownsRow_below hrow hb13
        have HX3 : Hid (UvOk w3 ⟨⟨⟨ua, un⟩, ps, says, ts⟩, .slice a1 n1 d1, .slice a2 n2 d2, .slice a3 n3 d3⟩) := HX.out.below hb13
        have HG3 : Hid (wO.grownBy w3 (some w.heap.size)) := grown_below HG.out hb13
        have hsz3 : wO.heap.size ≤ w3.heap.size := HG3.out.size
        clear hcm hrow HB1 HD hb3 hh3 hb13 HG HX HKC
        cases hca : Dg.carry (ups c') ⟨⟨ua, un⟩, ps, says, ts⟩
        · -- left
          have HP5 : Hid _ := HN.out hca
          clear HY HN hca
          go_wp2_with (at_builtin; refine wpList_append_own _ rfl _ _ 22 rfl wO.heap.size 34 i0 _ 5 88 Try.underlying22 hi hz0 hz1 hz2 rfl (by decide) _ _ _ rfl (hrow3.alloc _) ⟨w3.heap.size, 0, none⟩ 1 1 ([(⟨⟨⟨ua, un⟩, ps, says, ts⟩, .slice a1 n1 d1, .slice a2 n2 d2, .slice a3 n3 d3⟩ : Uv)].map uvCells).flatten rfl rfl ?c1 ?c2 ?c3 ?c4 ?c5 ?_)
          case c2 => intro u hu; simp at hu; rcases hu with rfl | rfl | rfl | rfl | rfl <;> rfl
          case c3 => unfold maxLen; omega
          case c4 => omega
          case c5 => simp; omega
          · exact news5 w3 _ _ _ _ _ 34
          intro vs2 w4 hown4 hgrow4 _
          obtain ⟨ao9, cap9, rfl⟩ := own_slice hown4
          have HO4 : Hid (URow w4 wO.heap.size (.slice ao9 (l'.length + 1) cap9) (l' ++ [(⟨⟨⟨ua, un⟩, ps, says, ts⟩, .slice a1 n1 d1, .slice a2 n2 d2, .slice a3 n3 d3⟩ : Uv)])) := by
            show World.ownsRow _ _ _ _ _ _ _
            rw [List.length_append, List.map_append, List.flatten_append]
            exact hown4
          have HG4 : Hid (wO.grownBy w4 (some w.heap.size)) := grown_own (grown_trans HG3.out (grown_alloc w3 _ _)) hgrow4 (hrow3.alloc _)
          have HC4 : Hid (CmAt w4 w.heap.size c') := by
            show CmAt _ _ _
            obtain ⟨D, g1, g2⟩ := hcm3
            exact ⟨D, (g1.alloc _).kept hgrow4 (fun e => by have := (hrow3.lt _ e.symm).1; omega), g2⟩
          clear hown4 hgrow4 hrow3 hcm3 HG3 HX3 q0' q1' q2' q3' q4'
          go_wp2_with fail
          go_roundw
          case rel => exact ⟨k + 1, _, _, hlt, by go_num, HP5.out, HC4.out, HO4.out, HG4.out⟩
          case measure => simp [intOf]; omega
        · have HP5 : Hid _ := HY.out hca
          clear HY HN hca
          go_wp2_with (at_mapUpdate; refine wpList_store_ids _ rfl _ _ _ rfl w.heap.size c' ⟨⟨⟨ua, un⟩, ps, says, ts⟩, .slice a1 n1 d1, .slice a2 n2 d2, .slice a3 n3 d3⟩ w3 rfl hcm3 (by omega) rfl rfl HXI.out.id HX3.out HNH.out ?_; intro w4 hm4 hg4)
          have HO4 : Hid (URow w4 wO.heap.size (.slice af l'.length cf) l') := hrow3.kept hg4 (.inr (fun e => by have := (hrow3.lt _ e).1; omega))
          have HG4 : Hid (wO.grownBy w4 (some w.heap.size)) := grown_trans HG3.out hg4
          have HM4 : Hid (CmAt w4 w.heap.size (c' ++ [(⟨⟨⟨ua, un⟩, ps, says, ts⟩, .slice a1 n1 d1, .slice a2 n2 d2, .slice a3 n3 d3⟩ : Uv)])) := hm4
          clear hm4 hg4 hrow3 hcm3 HG3 HX3 q0' q1' q2' q3' q4'
          go_roundw
          case rel => exact ⟨k + 1, _, _, hlt, by go_num, HP5.out, HM4.out, HO4.out, HG4.out⟩
          case measure => simp [intOf]; omega
      · have g1 : decide (k < q.length) = false := decide_eq_false hlt
        obtain ⟨hp1, hp2⟩ := HP.out.fin hlt
        have HP1 : Hid (Dg.pass Dg.snoc (ups c) (ups q) = (ups c', ups l')) := hp1
        have HP2 : Hid ((c' ++ l').Perm q0) := hp2.trans HI.out.perm
        have HBW : Hid (Below w.heap.size w wr) := HI.out.bel.grown HG.out HI.out.bel.size (fun j e => by cases e; exact Nat.le_refl _)
        have HKC : Hid (Kc w wr) := HI.out.kc.trans (Kc.map HG.out HI.out.map)
        have HRW : Hid (URow wr w.heap.size (.slice af l'.length cf) l') := rl_own_le hrow (by omega)
        clear hp1 hp2 HP
        by_cases he : l'.length = q.length
        · have g2 : ((l'.length : Int) == (q.length : Int)) = true := by rw [he]; simp
          have HR : Hid (Dg.settle Dg.snoc [] (ups q0) = (ups c', ups l')) := by
            show _ = _
            rw [HI.out.set, Dg.settle_end (by rw [HP1.out]; show (ups l').length = _; rw [ups_length, ups_length, he]), HP1.out]
          clear he
          go_wp2_with fail
          go_ret2
          exact ⟨c', l', _, rfl, HR.out, HP2.out, hcm, HRW.out, HBW.out⟩
        · have g2 : ((l'.length : Int) == (q.length : Int)) = false := by
            have : ¬ (l'.length : Int) = (q.length : Int) := by omega
            simpa using this
          have hlq : l'.length < q.length := by
            have h1 := Dg.pass_len Dg.snoc (ups q) (ups c)
            rw [HP1.out] at h1
            have h2 : (ups l').length ≤ (ups q).length := h1
            rw [ups_length, ups_length] at h2
            omega
          have HR : Hid (SetI q0 w c' l' (.slice af l'.length cf) wr) := by
            refine ⟨?_, HP2.out, hcm, own_ups hrow, HKC.out, HBW.out, .inr HRW.out⟩
            rw [HI.out.set, Dg.settle_on (by rw [HP1.out]; show ¬ (ups l').length = _; rw [ups_length, ups_length]; exact he), HP1.out]
          clear he
          go_wp2_with fail
          go_roundw
          case rel => exact ⟨c', l', af, cf, rfl, rfl, ⟨_, _, _, rfl⟩, HR.out⟩
          case measure => simp [lenOf]; omega
end Go.Proofs.Ytmfaodapofamfaa

/- Updates put behind a row of one's own; the library's Grow and Concat of updates. -/
namespace Go.Proofs.Ytmfaodapofamfaa
open Go.RowKit

theorem ups_flat (q : List Uv) : (q.map uvCells).flatten.length = q.length * 5 := by
  induction q with
  | nil => rfl
  | cons a r ih =>
    rw [List.map_cons, List.flatten_cons, List.length_append, ih]
    show 5 + r.length * 5 = (r.length + 1) * 5
    omega
theorem ups_cells {w : World} {b off : Nat} {q : List Uv} (h : ∀ i, i < q.length → UpIn w b (off + i * 5) (uvD q i)) : ∀ j u, (q.map uvCells).flatten[j]? = some u → w.cell? ⟨b, off + j, none⟩ = some u := by
  intro j u hj
  have hjl : j < q.length * 5 := by
    rcases Nat.lt_or_ge j (q.length * 5) with h2 | h2
    · exact h2
    · rw [List.getElem?_eq_none (by rw [ups_flat]; exact h2)] at hj; cases hj
  have hi : j / 5 < q.length := by omega
  have e : j = j / 5 * 5 + j % 5 := by omega
  have hm : j % 5 < 5 := by omega
  rw [e, flat5_get q _ _ hi hm] at hj
  obtain ⟨h0, h1, h2, h3, h4⟩ := h _ hi
  have eo : off + j = off + j / 5 * 5 + j % 5 := by omega
  rw [eo]
  generalize j % 5 = m at *
  match m, hm with
  | 0, _ => rw [← hj]; exact h0
  | 1, _ => rw [← hj]; exact h1
  | 2, _ => rw [← hj]; exact h2
  | 3, _ => rw [← hj]; exact h3
  | 4, _ => rw [← hj]; exact h4
theorem uv_one {w : World} {q : List Uv} (h : ∀ x, x ∈ q → UvOk w x) : ∀ u, u ∈ (q.map uvCells).flatten → u.oneCell' = true := by
  intro u hu
  obtain ⟨c, hc, hu⟩ := List.mem_flatten.mp hu
  obtain ⟨p, hp, rfl⟩ := List.mem_map.mp hc
  obtain ⟨a1, n1, d1, a2, n2, d2, a3, n3, d3, e1, e2, e3⟩ := (h p hp).forms
  simp only [uvCells, e1, e2, e3, List.mem_cons, List.not_mem_nil, or_false] at hu
  rcases hu with rfl | rfl | rfl | rfl | rfl <;> rfl
/-- 'append(row, updates...)': W: the world in which the updates lie. -/
theorem wp_append_ups {W w : World} {ops : Array Oper} {rest : List Oper} {o : Oper} {a : Act} {Q : Exit → Act → World → Prop} (hgd : o.guard = none) (s x : Operand)
    (ho : o.op = .call { callee := .builtin .append, args := #[s, x], argTypes := #[22, 22] }) (B : Nat) (hB : B ≤ w.heap.size) (v : Value) (q : List Uv) (hs : a.eval s = v)
    (hown : URow w B v q) (ao : Option Addr) (cap : Nat) (q2 : List Uv) (hx : a.eval x = .slice ao q2.length cap) (hcap : ao = none → cap = 0) (hA : UpsAt w ao q2) (hok : ∀ x, x ∈ q2 → UvOk W x)
    (hb : q.length + q2.length ≤ 4194304)
    (h : ∀ v' w', URow w' B v' (q ++ q2) → w.grownBy w' v.ownBlock → wpList Try.prog ops Q rest (a.put o.dst v') w') : wpList Try.prog ops Q (o :: rest) a w := by
  obtain ⟨i0, hi, hz0, hz1, hz2⟩ := info_parts up_info
  cases ao with
  | none =>
    have hq2 : q2 = [] := by
      rcases hA with hl | ⟨b, off, hb2, _⟩
      · exact hl
      · cases hb2
    subst hq2
    refine wpList_append_own_none hgd s x 22 ho B 34 i0 5 Try.underlying22 hi v q.length _ hs hown (by rw [hx, hcap rfl]; rfl) ?_
    refine h v w ?_ (grown_refl _ _)
    rw [List.append_nil]
    exact hown
  | some ad =>
    refine wpList_append_own w hgd s x 22 ho B 34 i0 _ 5 88 Try.underlying22 hi hz0 hz1 hz2 rfl (by decide) v q.length _ hs hown ad q2.length cap ((q2.map uvCells).flatten) hx (by rw [ups_flat]) ?_ (uv_one hok) (by unfold maxLen; omega) (by omega) hB ?_
    · intro j u hj
      rcases hA with hl | ⟨b, off, hb2, hc⟩
      · subst hl
        simp at hj
      · rw [Option.some.inj hb2, Addr.add_lit]
        exact ups_cells hc j u hj
    · intro v' w' ho2 hg _
      refine h v' w' ?_ hg
      show World.ownsRow _ _ _ _ _ _ _
      rw [List.length_append, List.map_append, List.flatten_append]
      exact ho2

set_option maxRecDepth 100000 in
set_option maxHeartbeats 1000000 in
theorem growU_any (w : World) (n : Nat) (hn : n ≤ 100000) :
    Calls Try.prog 36 #[.slice none 0 0, .int .i64 n] w fun e w' => ∃ v', e = .returned v' ∧ URow w' w.heap.size v' [] ∧ Below w.heap.size w w' := by
  obtain ⟨i0, hi, hz0, hz1, hz2⟩ := info_parts up_info
  by_cases h0 : n = 0
  · subst h0
    go_enter Try.func36, Try.ntmps36
    go_wp2_with fail
    go_ret
    exact ⟨_, rfl, World.ownsRow_nil _ _ _ _, Below.refl _ _⟩
  · have hp : 0 < n := by omega
    have HR : Hid _ := Lib.run_append_nil_zeros w 22 3 22 34 i0 _ .i64 .i64 Try.underlying22 Try.underlying3 hi hz0 n hp (by rw [hz1]; decide) (by omega) (by rw [hz2]; omega)
    go_enter Try.func36, Try.ntmps36
    go_wp2_with (at_builtin; refine Lib.wpList_append_run _ rfl _ _ 22 3 rfl _ _ rfl rfl _ _ HR.out ?_)
    have HO : Hid (∀ cur : Array Value, cur.size = grownCap w n 0 34 * 5 → (w.alloc (.cells cur 34)).drew.ownsRow w.heap.size 34 5 (.slice (some ⟨w.heap.size, 0, none⟩) 0 (grownCap w n 0 34)) 0 [] ∧ Below w.heap.size w (w.alloc (.cells cur 34)).drew) := by
      intro cur hc
      have h1 := World.ownsRow_made (base := w.heap.size) (e := 34) (size := 5) w cur (grownCap w n 0 34) (Nat.le_refl _) (grownCap_le_maxLen _ _ _ _ (by unfold maxLen; omega)) hc
      have h2 : Below w.heap.size w (w.alloc (.cells cur 34)) := (Below.refl _ _).alloc (Nat.le_refl _) _
      exact ⟨h1, h2.os, h2.tape, h2.output, h2.size, h2.block⟩
    have hge := grownCap_ge w n 0 34
    go_ret
    refine ⟨_, rfl, HO.out _ ?_⟩
    simp [Builtin.zeroCells]
    omega

set_option maxRecDepth 100000 in
set_option maxHeartbeats 2000000 in
theorem concatU_any (l m : List Uv) (b : Nat) (ao bo : Option Addr) (cap cbp : Nat) (w : World) (hA : UpsAt w ao l ∧ (ao = none → cap = 0)) (hB : UpsAt w bo m ∧ (bo = none → cbp = 0)) (hb0 : w.cell? ⟨b, 0, none⟩ = some (.slice ao l.length cap)) (hb1 : w.cell? ⟨b, 1, none⟩ = some (.slice bo m.length cbp)) (hl : l.length + m.length ≤ 1000) (hok : ∀ x, x ∈ l ++ m → UvOk w x) :
    Calls Try.prog 22 #[.slice (some ⟨b, 0, none⟩) 2 2] w fun e w' => ∃ v', e = .returned v' ∧ URow w' w.heap.size v' (l ++ m) ∧ Below w.heap.size w w' := by
  have HA : Hid (∀ z, Below w.heap.size w z → UpsAt z ao l) := fun z hz => hA.1.kc (Kc.below hz)
  have HB : Hid (∀ z, Below w.heap.size w z → UpsAt z bo m) := fun z hz => hB.1.kc (Kc.below hz)
  have HA2 : Hid (ao = none → cap = 0) := hA.2
  have HB2 : Hid (bo = none → cbp = 0) := hB.2
  have HO1 : Hid (∀ x, x ∈ l → UvOk w x) := fun x hx => hok x (List.mem_append_left _ hx)
  have HO2 : Hid (∀ x, x ∈ m → UvOk w x) := fun x hx => hok x (List.mem_append_right _ hx)
  clear hA hB hok
  go_enter Try.func22, Try.ntmps22
  go_wp2_with fail
  go_loopw [3, 11] (fun sz i wr => w = wr ∧ ((i = .int .i64 (0 : Nat) ∧ sz = .int .i64 0) ∨ (i = .int .i64 (1 : Nat) ∧ sz = .int .i64 (l.length : Nat)) ∨ (i = .int .i64 (2 : Nat) ∧ sz = .int .i64 ((l.length + m.length : Nat) : Int)))) (fun _ i _ => 2 - (intOf i).toNat)
  case atStart => exact ⟨rfl, .inl ⟨rfl, rfl⟩⟩
  case round =>
    obtain ⟨rfl, ⟨rfl, rfl⟩ | ⟨rfl, rfl⟩ | ⟨rfl, rfl⟩⟩ := hrel
    · go_wp2_with fail
      go_roundw
      case rel => exact ⟨by trivial, .inr (.inl ⟨by first | rfl | go_num, by first | rfl | go_num | simp⟩)⟩
      case measure => simp [intOf]
    · go_wp2_with fail
      go_roundw
      case rel => exact ⟨by trivial, .inr (.inr ⟨by first | rfl | go_num, by first | rfl | go_num | simp⟩)⟩
      case measure => simp [intOf]
    · go_wp2_with fail
      refine Calls.mono (growU_any _ (l.length + m.length) (by omega)) ?_
      rintro e w1 ⟨v1, rfl, hown1, hbw1⟩
      obtain ⟨a1, c1, rfl⟩ := own_slice hown1
      have d0 := cell_below hbw1 hb0
      have d1 := cell_below hbw1 hb1
      go_wp2_with fail
      clear d0 d1
      go_loopw [6, 27] (fun ns i wr => Below w.heap.size w wr ∧ ((i = .int .i64 (0 : Nat) ∧ URow wr w.heap.size ns []) ∨ (i = .int .i64 (1 : Nat) ∧ URow wr w.heap.size ns l) ∨ (i = .int .i64 (2 : Nat) ∧ URow wr w.heap.size ns (l ++ m)))) (fun _ i _ => 2 - (intOf i).toNat)
      case atStart => exact ⟨hbw1, .inl ⟨rfl, hown1⟩⟩
      case round =>
        obtain ⟨hbw, hrel⟩ := hrel
        have hsz := hbw.size
        rcases hrel with ⟨rfl, hown⟩ | ⟨rfl, hown⟩ | ⟨rfl, hown⟩
        · have d0 := cell_below hbw hb0
          have d1 := cell_below hbw hb1
          obtain ⟨a2, c2, rfl⟩ := own_slice hown
          go_wp2_with (at_builtin; refine wp_append_ups (W := w) rfl (.tmp 31) (.tmp 32) rfl w.heap.size hsz _ [] rfl hown ao cap l rfl HA2.out (HA.out _ hbw) HO1.out ?c1 ?_)
          case c1 => simp; omega
          intro v2 w2 ho2 hg2
          have HB3 : Hid (Below w.heap.size w w2) := hbw.grown hg2 hsz (fun k hk => (hown.lt k hk).1)
          obtain ⟨a3, c3, rfl⟩ := own_slice ho2
          have H2 : Hid (URow w2 w.heap.size (.slice a3 l.length c3) l) := ho2
          go_wp2_with fail
          go_roundw
          case rel => exact ⟨HB3.out, .inr (.inl ⟨by first | rfl | go_num, H2.out⟩)⟩
          case measure => simp [intOf]
        · have d0 := cell_below hbw hb0
          have d1 := cell_below hbw hb1
          obtain ⟨a2, c2, rfl⟩ := own_slice hown
          go_wp2_with (at_builtin; refine wp_append_ups (W := w) rfl (.tmp 31) (.tmp 32) rfl w.heap.size hsz _ l rfl hown bo cbp m rfl HB2.out (HB.out _ hbw) HO2.out ?c1 ?_)
          case c1 => omega
          intro v2 w2 ho2 hg2
          have HB3 : Hid (Below w.heap.size w w2) := hbw.grown hg2 hsz (fun k hk => (hown.lt k hk).1)
          obtain ⟨a3, c3, rfl⟩ := own_slice ho2
          have H2 : Hid (URow w2 w.heap.size (.slice a3 (l ++ m).length c3) (l ++ m)) := ho2
          go_wp2_with fail
          go_roundw
          case rel => exact ⟨HB3.out, .inr (.inr ⟨by first | rfl | go_num, H2.out⟩)⟩
          case measure => simp [intOf]
        · have H2 : Hid (URow wr w.heap.size u6 (l ++ m)) := hown
          obtain ⟨a2, c2, rfl⟩ := own_slice hown
          clear hown
          go_wp2_with fail
          go_ret
          exact ⟨_, rfl, H2.out, hbw⟩
theorem cat_cell (w : World) (C : Array Value) (t : TypeId) (j : Nat) : (w.alloc (.cells C t)).cell? ⟨w.heap.size, j, none⟩ = C[j]? := World.cell?_alloc_mark w C t _ j
end Go.Proofs.Ytmfaodapofamfaa

