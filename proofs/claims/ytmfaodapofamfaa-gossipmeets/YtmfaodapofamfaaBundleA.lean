/- Own texts, one behind the other (part 1). -/
import Derived.Test.YtmfaodapofamfaaRows
import Derived.WalkKit
import Derived.WalkSpells
import Derived.WalkLawsBesides
import Derived.Deep.QuietTactic
import Derived.BigQuiet
import Derived.LoopN
import Derived.Lib.IndexBytes
import Derived.Defers
import Derived.Recover
import Derived.RegionTactic
import Derived.ChangeAlike
import Derived.WalkSmall
import Derived.Sort.Grow
import Derived.Lib.Builder
import Derived.Lib.AppendStr
import Derived.Lib.OthersKept
import Derived.Laws.Externs
import Derived.Lib.UnsafeStr
import Derived.Deep.RegionHeld3
import Derived.Deep.DeepCutAuto
import Derived.Deep.RegionLaw
import Derived.RegionDies
import Derived.Deep.RegionHeld2
import Derived.Lib.Atoi
import Derived.BigRegion
import Derived.Lib.AtoiBound
import Derived.Lib.SliceRun
import Derived.Lib.LazyBuf
import Derived.Laws.AppendOwnNone
import Derived.Lib.AppendZeros
import Derived.Deep.OwnRows
import Derived.RangeFuncNested
import Derived.RangeFuncBound
import Derived.RangeFuncCalls
import Derived.RangeFuncLeaves
import Derived.Shelf.Abstract
import Derived.Shelf.RegionOpen
import Derived.OwnWalkIn
import Derived.TacticsInMore
import Derived.LoopNIn
import Derived.LoopIn
import Derived.Deep.MidRow
import Derived.Deep.WholeRow
import Derived.Deep.Slices
import Derived.Orders
import Derived.ProofKit
import Derived.Deep.Strs
/- What the bytes of updates lean on: rows, facts, their order. -/
namespace Go.Proofs.Ytmfaodapofamfaa
namespace Rl

structure Fc where
  pred : Int
  args : List Int
def cmpI (a b : Int) : Int := if a < b then -1 else if b < a then 1 else 0
def cmpL : List Int → List Int → Int
  | [], [] => 0
  | [], _ :: _ => -1
  | _ :: _, [] => 1
  | a :: x, b :: y => if cmpI a b = 0 then cmpL x y else cmpI a b
def ord (f g : Fc) : Int := if cmpI f.pred g.pred = 0 then cmpL f.args g.args else cmpI f.pred g.pred

theorem cmpI_zero {a b : Int} : cmpI a b = 0 ↔ a = b := by
  unfold cmpI
  split
  · constructor
    · intro h; exact absurd h (by decide)
    · intro h; omega
  · split
    · constructor
      · intro h; exact absurd h (by decide)
      · intro h; omega
    · constructor
      · intro _; omega
      · intro _; rfl
theorem cmpI_self (a : Int) : cmpI a a = 0 := cmpI_zero.mpr rfl
theorem cmpL_zero : ∀ {x y : List Int}, cmpL x y = 0 ↔ x = y := by
  intro x
  induction x with
  | nil =>
    intro y
    cases y with
    | nil => simp [cmpL]
    | cons b y => simp [cmpL]
  | cons a x ih =>
    intro y
    cases y with
    | nil => simp [cmpL]
    | cons b y =>
      simp only [cmpL]
      split
      · rename_i h
        rw [cmpI_zero] at h
        rw [ih, h]
        simp
      · rename_i h
        constructor
        · intro h2; exact absurd h2 h
        · intro h2
          injection h2 with h2 _
          exact absurd (cmpI_zero.mpr h2) h
theorem ord_zero {f g : Fc} : ord f g = 0 ↔ f = g := by
  obtain ⟨p, x⟩ := f
  obtain ⟨q, y⟩ := g
  unfold ord
  simp only
  by_cases h : cmpI p q = 0
  · rw [if_pos h, cmpL_zero]
    rw [cmpI_zero] at h
    subst h
    simp
  · rw [if_neg h]
    constructor
    · intro h2; exact absurd h2 h
    · intro h2
      injection h2 with h2 _
      exact absurd (cmpI_zero.mpr h2) h
end Rl

end Go.Proofs.Ytmfaodapofamfaa

namespace Go.Proofs.Ytmfaodapofamfaa
open Go.RowKit

end Go.Proofs.Ytmfaodapofamfaa

namespace Go.Proofs.Ytmfaodapofamfaa
open Go.RowKit

end Go.Proofs.Ytmfaodapofamfaa

namespace Go.Proofs.Ytmfaodapofamfaa
open Go.RowKit

theorem ownsRow_below {w w' : World} {base : Nat} {e : TypeId} {size : Nat} {v : Value} {n : Nat} {xs : List Value} (h : w.ownsRow base e size v n xs) (hb : Below w.heap.size w w') : w'.ownsRow base e size v n xs := by
  obtain ⟨h1, h2⟩ := h
  refine ⟨h1, ?_⟩
  rcases h2 with h2 | ⟨g, cap, cur, hv, hg, hbk, r⟩
  · exact .inl h2
  · refine .inr ⟨g, cap, cur, hv, hg, ?_, r⟩
    have hlt : g < w.heap.size := by
      rcases Nat.lt_or_ge g w.heap.size with h | h
      · exact h
      · rw [Array.getElem?_eq_none h] at hbk; cases hbk
    rw [hb.block g hlt]; exact hbk

theorem own_slice {w : World} {base : Nat} {e : TypeId} {size : Nat} {v : Value} {n : Nat} {xs : List Value} (h : w.ownsRow base e size v n xs) : ∃ ao cap, v = .slice ao n cap := by
  rcases h.2 with ⟨hv, h0⟩ | ⟨g, cap, cur, hv, _⟩
  · exact ⟨none, 0, by rw [hv, h0]⟩
  · exact ⟨_, _, hv⟩

end Go.Proofs.Ytmfaodapofamfaa

namespace Go.Proofs.Ytmfaodapofamfaa
open Go.RowKit

end Go.Proofs.Ytmfaodapofamfaa

namespace Go.Proofs.Ytmfaodapofamfaa
namespace Tr

end Tr

end Go.Proofs.Ytmfaodapofamfaa

namespace Go.Proofs.Ytmfaodapofamfaa
namespace Sc

def intD (l : List Int) (i : Nat) : Int := l.getD i 0
end Sc

end Go.Proofs.Ytmfaodapofamfaa

namespace Go.Proofs.Ytmfaodapofamfaa
open Go.RowKit

theorem cell_below {w w' : World} (hb : Below w.heap.size w w') {b o : Nat} {v : Value} (h : w.cell? ⟨b, o, none⟩ = some v) : w'.cell? ⟨b, o, none⟩ = some v :=
  (hb.cell (p := ⟨b, o, none⟩) (World.block_lt_of_cell? w _ h)).trans h

end Go.Proofs.Ytmfaodapofamfaa

namespace Go.Proofs.Ytmfaodapofamfaa
open Go.RowKit

def IntsAt (w : World) (ao : Option Addr) (l : List Int) : Prop :=
  l = [] ∨ ∃ b off, ao = some ⟨b, off, none⟩ ∧ ∀ i, i < l.length → w.cell? ⟨b, off + i, none⟩ = some (.int .i64 (Sc.intD l i))
def IntsV (w : World) (v : Value) (l : List Int) : Prop := ∃ ao cap, v = .slice ao l.length cap ∧ IntsAt w ao l
/-- A program's value. -/
abbrev progVal (va vn vr : Value) : Value := .agg #[va, vn, vr]
theorem intsV_below {w w' : World} {v : Value} {l : List Int} (h : IntsV w v l) (hb : Below w.heap.size w w') : IntsV w' v l := by
  obtain ⟨ao, cap, rfl, h⟩ := h
  refine ⟨ao, cap, rfl, ?_⟩
  rcases h with h | ⟨b, off, rfl, hc⟩
  · exact .inl h
  · exact .inr ⟨b, off, rfl, fun i hi => cell_below hb (hc i hi)⟩
end Go.Proofs.Ytmfaodapofamfaa

namespace Go.Proofs.Ytmfaodapofamfaa
open Go.RowKit Go.Sort Go.Lib

/-- Blocks were laid, answers were drawn; nothing else. -/
def Gr (w w' : World) : Prop := ∃ q os, w' = grow (w.drewN q) os
theorem Gr.refl (w : World) : Gr w w := ⟨0, #[], by rw [grow_empty]; rfl⟩
theorem Gr.trans {a b c : World} (h : Gr a b) (k : Gr b c) : Gr a c := by
  obtain ⟨q, os, rfl⟩ := h
  obtain ⟨q2, os2, rfl⟩ := k
  refine ⟨q + q2, os ++ os2, ?_⟩
  show ({ a with drawn := a.drawn + q + q2, heap := a.heap ++ os ++ os2 } : World) = { a with drawn := a.drawn + (q + q2), heap := a.heap ++ (os ++ os2) }
  rw [Nat.add_assoc, Array.append_assoc]
theorem Gr.alloc {a b : World} (h : Gr a b) (o : Obj) : Gr a (b.alloc o) := h.trans ⟨0, #[o], by rw [alloc_eq_grow]; rfl⟩
theorem Gr.drew {a b : World} (h : Gr a b) : Gr a b.drew := h.trans ⟨1, #[], by rw [grow_empty]; rfl⟩
theorem Gr.below {a b : World} (h : Gr a b) : Below a.heap.size a b := by
  obtain ⟨q, os, rfl⟩ := h
  refine ⟨rfl, rfl, rfl, ?_, fun k hk => ?_⟩
  · show a.heap.size ≤ (a.heap ++ os).size
    simp
  · show (a.heap ++ os)[k]? = a.heap[k]?
    rw [Array.getElem?_append_left hk]

def Rl.factD (l : List Rl.Fc) (i : Nat) : Rl.Fc := l.getD i ⟨0, []⟩
def FactIn (w : World) (b off : Nat) (f : Rl.Fc) : Prop :=
  w.cell? ⟨b, off, none⟩ = some (.int .i64 f.pred) ∧ ∃ v, w.cell? ⟨b, off + 1, none⟩ = some v ∧ IntsV w v f.args
def FactsAt (w : World) (ao : Option Addr) (l : List Rl.Fc) : Prop :=
  l = [] ∨ ∃ b off, ao = some ⟨b, off, none⟩ ∧ ∀ i, i < l.length → FactIn w b (off + i * 2) (Rl.factD l i)
def FactsV (w : World) (v : Value) (l : List Rl.Fc) : Prop := ∃ ao cap, v = .slice ao l.length cap ∧ (l.length ≤ cap ∧ (ao = none → cap = 0)) ∧ FactsAt w ao l
/-- Lengths that are lengths. -/
def FFit (f : Rl.Fc) : Prop := f.args.length ≤ 9223372036854775807
theorem factIn_below {w w' : World} {b off : Nat} {f : Rl.Fc} (h : FactIn w b off f) (hb : Below w.heap.size w w') : FactIn w' b off f := by
  obtain ⟨h0, v, h1, h2⟩ := h
  exact ⟨cell_below hb h0, v, cell_below hb h1, intsV_below h2 hb⟩
theorem factsV_below {w w' : World} {v : Value} {l : List Rl.Fc} (h : FactsV w v l) (hb : Below w.heap.size w w') : FactsV w' v l := by
  obtain ⟨ao, cap, rfl, hc, h⟩ := h
  refine ⟨ao, cap, rfl, hc, ?_⟩
  rcases h with h | ⟨b, off, rfl, h⟩
  · exact .inl h
  · exact .inr ⟨b, off, rfl, fun i hi => factIn_below (h i hi) hb⟩
theorem facts_at {w : World} {ao : Option Addr} {l : List Rl.Fc} (h : FactsAt w ao l) (i : Nat) (hi : i < l.length) : ∃ b off, ao = some ⟨b, off, none⟩ ∧ FactIn w b (off + i * 2) (Rl.factD l i) := by
  rcases h with h | ⟨b, off, ha, hc⟩
  · rw [h] at hi; exact absurd hi (by simp)
  · exact ⟨b, off, ha, hc i hi⟩
theorem factD_mem (l : List Rl.Fc) (k : Nat) (hk : k < l.length) : Rl.factD l k ∈ l := by simp [Rl.factD, hk]
theorem factD_get (l : List Rl.Fc) (k : Nat) (hk : k < l.length) : l[k]? = some (Rl.factD l k) := by simp [Rl.factD, hk]
theorem ints_at {w : World} {ao : Option Addr} {l : List Int} (h : IntsAt w ao l) (i : Nat) (hi : i < l.length) : ∃ b off, ao = some ⟨b, off, none⟩ ∧ w.cell? ⟨b, off + i, none⟩ = some (.int .i64 (Sc.intD l i)) := by
  rcases h with h | ⟨b, off, ha, hc⟩
  · rw [h] at hi; exact absurd hi (by simp)
  · exact ⟨b, off, ha, hc i hi⟩

end Go.Proofs.Ytmfaodapofamfaa

namespace Go.Proofs.Ytmfaodapofamfaa
open Go.RowKit

end Go.Proofs.Ytmfaodapofamfaa

namespace Go.Proofs.Ytmfaodapofamfaa
open Go.RowKit

abbrev goneOn : Ending := .returned (.tuple #[])
end Go.Proofs.Ytmfaodapofamfaa

namespace Go.Proofs.Ytmfaodapofamfaa
open Go.RowKit

theorem below_two (w : World) (o1 o2 : Obj) : Below w.heap.size w ((w.alloc o1).alloc o2) := ((Below.refl _ _).alloc (Nat.le_refl _) _).alloc (by simp) _
theorem two_blocks {w w3 : World} {o1 o2 : Obj} (hb : Below ((w.alloc o1).alloc o2).heap.size ((w.alloc o1).alloc o2) w3) : w3.heap[w.heap.size]? = some o1 ∧ w3.heap[w.heap.size + 1]? = some o2 := by
  constructor
  · exact (hb.block _ (by simp; omega)).trans ((((Below.refl _ (w.alloc o1)).alloc (Nat.le_refl _) o2).block _ (by simp)).trans (heap_alloc_new w o1))
  · have := heap_alloc_new (w.alloc o1) o2
    exact (hb.block _ (by simp)).trans (by simpa using this)

end Go.Proofs.Ytmfaodapofamfaa

namespace Go.Proofs.Ytmfaodapofamfaa
open Go.RowKit

set_option maxRecDepth 100000 in
set_option maxHeartbeats 400000 in
theorem isNaN_any (x : Int) (w : World) : Calls Try.prog 75 #[.int .i64 x] w fun e w' => e = .returned (.bool false) ∧ w' = w := by
  have h : (x != x) = false := by simp
  go_enter Try.func75, Try.ntmps75
  go_wp2_with fail
  go_ret
  exact ⟨rfl, rfl⟩
set_option maxRecDepth 100000 in
set_option maxHeartbeats 400000 in
theorem cmpI_any (x y : Int) (w : World) : Calls Try.prog 61 #[.int .i64 x, .int .i64 y] w fun e w' => e = .returned (.int .i64 (Rl.cmpI x y)) ∧ w' = w := by
  have HC : Hid (Rl.cmpI x y = if x < y then -1 else if y < x then 1 else 0) := rfl
  go_enter Try.func61, Try.ntmps61
  go_wp2_with fail
  refine (isNaN_any x _).mono ?_
  rintro e w1 ⟨rfl, rfl⟩
  go_wp2_with fail
  refine (isNaN_any y _).mono ?_
  rintro e w1 ⟨rfl, rfl⟩
  by_cases h1 : x < y
  · have HV : Hid (Rl.cmpI x y = -1) := by show _ = _; rw [HC.out, if_pos h1]
    go_wp2_with fail
    go_ret
    exact ⟨by rw [HV.out]; rfl, rfl⟩
  · by_cases h2 : y < x
    · have HV : Hid (Rl.cmpI x y = 1) := by show _ = _; rw [HC.out, if_neg h1, if_pos h2]
      go_wp2_with fail
      go_ret
      exact ⟨by rw [HV.out]; rfl, rfl⟩
    · have HV : Hid (Rl.cmpI x y = 0) := by show _ = _; rw [HC.out, if_neg h1, if_neg h2]
      go_wp2_with fail
      go_ret
      exact ⟨by rw [HV.out]; rfl, rfl⟩
theorem cmpL_drop (x y : List Int) (k : Nat) (hx : k < x.length) (hy : k < y.length) : Rl.cmpL (x.drop k) (y.drop k) = if Rl.cmpI (Sc.intD x k) (Sc.intD y k) = 0 then Rl.cmpL (x.drop (k + 1)) (y.drop (k + 1)) else Rl.cmpI (Sc.intD x k) (Sc.intD y k) := by
  have h1 : x.drop k = Sc.intD x k :: x.drop (k + 1) := by rw [List.drop_eq_getElem_cons hx]; simp [Sc.intD, List.getD_eq_getElem?_getD, hx]
  have h2 : y.drop k = Sc.intD y k :: y.drop (k + 1) := by rw [List.drop_eq_getElem_cons hy]; simp [Sc.intD, List.getD_eq_getElem?_getD, hy]
  rw [h1, h2, Rl.cmpL]
theorem cmpL_left (x y : List Int) (k : Nat) (hx : k < x.length) (hy : y.length ≤ k) : Rl.cmpL (x.drop k) (y.drop k) = 1 := by
  rw [List.drop_of_length_le hy, List.drop_eq_getElem_cons hx]
  rfl
theorem cmpL_right (x y : List Int) (k : Nat) (hx : x.length ≤ k) (hy : k < y.length) : Rl.cmpL (x.drop k) (y.drop k) = -1 := by
  rw [List.drop_of_length_le hx, List.drop_eq_getElem_cons hy]
  rfl

set_option maxRecDepth 100000 in
set_option maxHeartbeats 1000000 in
theorem cmpInts_any (x y : List Int) (v u : Value) (w : World) (hV : IntsV w v x) (hU : IntsV w u y) (hx : x.length ≤ 9223372036854775807) :
    Calls Try.prog 67 #[v, u] w fun e w' => e = .returned (.int .i64 (Rl.cmpL x y)) ∧ w' = w := by
  obtain ⟨ao, cap, rfl, hA⟩ := hV
  obtain ⟨bo, cbp, rfl, hB⟩ := hU
  have HA : Hid (IntsAt w ao x) := hA
  have HB : Hid (IntsAt w bo y) := hB
  clear hA hB
  go_enter Try.func67, Try.ntmps67
  go_wp2_with fail
  go_loopw [11] (fun i wr => ∃ k : Nat, k ≤ x.length ∧ k ≤ y.length ∧ i = .int .i64 k ∧ wr = w ∧ Rl.cmpL (x.drop k) (y.drop k) = Rl.cmpL x y) (fun i _ => x.length - (intOf i).toNat)
  case atStart => exact ⟨0, Nat.zero_le _, Nat.zero_le _, rfl, rfl, rfl⟩
  case round =>
    obtain ⟨k, hk, hk2, rfl, rfl, hq⟩ := hrel
    have HQ : Hid _ := hq
    clear hq
    by_cases hl : k < x.length
    · obtain ⟨b, off, rfl, p0⟩ := ints_at HA.out k hl
      by_cases hl2 : k < y.length
      · obtain ⟨b2, off2, rfl, p1⟩ := ints_at HB.out k hl2
        have HD : Hid (Rl.cmpL x y = if Rl.cmpI (Sc.intD x k) (Sc.intD y k) = 0 then Rl.cmpL (x.drop (k + 1)) (y.drop (k + 1)) else Rl.cmpI (Sc.intD x k) (Sc.intD y k)) := by show _ = _; rw [← HQ.out]; exact cmpL_drop x y k hl hl2
        clear HQ
        generalize Sc.intD x k = a at *
        generalize Sc.intD y k = b' at *
        go_wp2_with fail
        refine (cmpI_any a b' _).mono ?_
        rintro e w1 ⟨rfl, rfl⟩
        cases hc : (Rl.cmpI a b' != 0)
        · have h0 : Rl.cmpI a b' = 0 := by simpa using hc
          have HV : Hid (Rl.cmpL (x.drop (k + 1)) (y.drop (k + 1)) = Rl.cmpL x y) := by show _ = _; rw [HD.out, if_pos h0]
          clear HD h0
          go_wp2_with fail
          go_roundw
          case rel => exact ⟨k + 1, by omega, by omega, by go_num, trivial, HV.out⟩
          case measure => simp [intOf]; omega
        · have h0 : ¬ Rl.cmpI a b' = 0 := by simpa using hc
          have HV : Hid (Rl.cmpL x y = Rl.cmpI a b') := by show _ = _; rw [HD.out, if_neg h0]
          clear HD h0
          go_wp2_with fail
          go_ret
          exact ⟨by rw [HV.out]; rfl, rfl⟩
      · have HV : Hid (Rl.cmpL x y = 1) := by show _ = _; rw [← HQ.out]; exact cmpL_left x y k hl (by omega)
        go_wp2_with fail
        go_ret
        exact ⟨by rw [HV.out]; rfl, rfl⟩
    · by_cases hl2 : x.length < y.length
      · have HV : Hid (Rl.cmpL x y = -1) := by show _ = _; rw [← HQ.out]; exact cmpL_right x y k (by omega) (by omega)
        go_wp2_with fail
        go_ret
        exact ⟨by rw [HV.out]; rfl, rfl⟩
      · have HV : Hid (Rl.cmpL x y = 0) := by show _ = _; rw [← HQ.out, List.drop_of_length_le (by omega), List.drop_of_length_le (by omega)]; rfl
        go_wp2_with fail
        go_ret
        exact ⟨by rw [HV.out]; rfl, rfl⟩

/-- A fact's value. -/
abbrev fcVal (p : Int) (v : Value) : Value := .agg #[.int .i64 p, v]

def Rl.orI (x y : Int) : Int := if x = 0 then y else x
set_option maxRecDepth 100000 in
set_option maxHeartbeats 1000000 in
theorem or2_any (b : Nat) (x y : Int) (w : World) (h0 : w.cell? ⟨b, 0, none⟩ = some (.int .i64 x)) (h1 : w.cell? ⟨b, 1, none⟩ = some (.int .i64 y)) :
    Calls Try.prog 60 #[.slice (some ⟨b, 0, none⟩) 2 2] w fun e w' => e = .returned (.int .i64 (Rl.orI x y)) ∧ w' = w := by
  go_enter Try.func60, Try.ntmps60
  go_wp2_with fail
  go_loopw [8] (fun i wr => ∃ k : Nat, k ≤ 2 ∧ i = .int .i64 k ∧ wr = w ∧ (1 ≤ k → x = 0) ∧ (2 ≤ k → y = 0)) (fun i _ => 2 - (intOf i).toNat)
  case atStart => exact ⟨0, by omega, rfl, rfl, by omega, by omega⟩
  case round =>
    obtain ⟨k, hk, rfl, rfl, hx, hy⟩ := hrel
    have HX : Hid _ := hx
    have HY : Hid _ := hy
    clear hx hy
    match k, hk with
    | 0, _ =>
      cases hc : (x != 0)
      · have h9 : x = 0 := by simpa using hc
        have HZ : Hid (x = 0) := h9
        clear h9
        go_wp2_with fail
        go_roundw
        case rel => exact ⟨1, by omega, by go_num, trivial, fun _ => HZ.out, fun h => absurd h (by omega)⟩
        case measure => simp [intOf]
      · have HV : Hid (Rl.orI x y = x) := if_neg (by simpa using hc)
        go_wp2_with fail
        go_ret
        exact ⟨by rw [HV.out]; rfl, rfl⟩
    | 1, _ =>
      have HV : Hid (Rl.orI x y = y) := if_pos (HX.out (by omega))
      cases hc : (y != 0)
      · have HZ : Hid (y = 0) := by show y = 0; simpa using hc
        go_wp2_with fail
        go_roundw
        case rel => exact ⟨2, by omega, by go_num, trivial, fun _ => HX.out (by omega), fun _ => HZ.out⟩
        case measure => simp [intOf]
      · go_wp2_with fail
        go_ret
        exact ⟨by rw [HV.out]; rfl, rfl⟩
    | 2, _ =>
      have HV : Hid (Rl.orI x y = 0) := by show _ = _; unfold Rl.orI; rw [if_pos (HX.out (by omega))]; exact HY.out (by omega)
      go_wp2_with fail
      go_ret
      exact ⟨by rw [HV.out]; rfl, rfl⟩

set_option maxRecDepth 100000 in
set_option maxHeartbeats 1000000 in
theorem Order_any (f g : Rl.Fc) (v u : Value) (w : World) (hV : IntsV w v f.args) (hU : IntsV w u g.args) (hx : FFit f) (hy : FFit g) :
    Calls Try.prog 44 #[fcVal f.pred v, fcVal g.pred u] w fun e w' => e = .returned (.int .i64 (Rl.ord f g)) ∧ Gr w w' := by
  obtain ⟨p, x⟩ := f
  obtain ⟨q, y⟩ := g
  have hV : IntsV w v x := hV
  have hU : IntsV w u y := hU
  obtain ⟨ao, cap, rfl, _⟩ := id hV
  obtain ⟨bo, cbp, rfl, _⟩ := id hU
  have HV : Hid (∀ z, Below w.heap.size w z → Calls Try.prog 67 #[.slice ao x.length cap, .slice bo y.length cbp] z fun e w' => e = .returned (.int .i64 (Rl.cmpL x y)) ∧ w' = z) := fun z hz => cmpInts_any x y _ _ z (intsV_below hV hz) (intsV_below hU hz) hx
  have HG : Hid (Gr w (((w.alloc (.cells #[.int .i64 p, .slice ao x.length cap] 51)).alloc (.cells #[.int .i64 q, .slice bo y.length cbp] 51)))) := ((Gr.refl w).alloc _).alloc _
  have t2 := two_blocks (w := w) (o1 := .cells #[.int .i64 p, .slice ao x.length cap] 51) (o2 := .cells #[.int .i64 q, .slice bo y.length cbp] 51) (Below.refl _ _)
  have HO : Hid (Rl.ord ⟨p, x⟩ ⟨q, y⟩ = Rl.orI (Rl.cmpI p q) (Rl.cmpL x y)) := rfl
  clear hV hU hx hy
  go_enter Try.func44, Try.ntmps44
  go_upto_region 1 with fail
  generalize (w.alloc (.cells #[.int .i64 p, .slice ao x.length cap] 51)).alloc (.cells #[.int .i64 q, .slice bo y.length cbp] 51) = w2 at *
  have c0 : w2.cell? ⟨w.heap.size, 0, none⟩ = some (.int .i64 p) := by rw [Lib.cell_of_heap t2.1]; rfl
  have c1 : w2.cell? ⟨w.heap.size, 1, none⟩ = some (.slice ao x.length cap) := by rw [Lib.cell_of_heap t2.1]; rfl
  have d0 : w2.cell? ⟨w.heap.size + 1, 0, none⟩ = some (.int .i64 q) := by rw [Lib.cell_of_heap t2.2]; rfl
  have d1 : w2.cell? ⟨w.heap.size + 1, 1, none⟩ = some (.slice bo y.length cbp) := by rw [Lib.cell_of_heap t2.2]; rfl
  have HB : Hid (Below w.heap.size w w2) := HG.out.below
  clear t2
  generalize Rl.cmpL x y = cl at *
  have HI : Hid (∀ z, Calls Try.prog 61 #[.int .i64 p, .int .i64 q] z fun e w' => e = .returned (.int .i64 (Rl.cmpI p q)) ∧ w' = z) := fun z => cmpI_any p q z
  generalize Rl.cmpI p q = ci at *
  have HGA : ∀ a b o, Gr a b → Gr a (b.alloc o) := fun _ _ o h => h.alloc o
  have HGD : ∀ a b, Gr a b → Gr a b.drew := fun _ _ h => h.drew
  have HGR : Gr w2 w2 := Gr.refl w2
  have HV2 : Hid (∀ z, Gr w2 z → Calls Try.prog 67 #[.slice ao x.length cap, .slice bo y.length cbp] z fun e w' => e = .returned (.int .i64 cl) ∧ w' = z) := fun z hz => HV.out z (HB.out.trans (hz.below.mono HB.out.size))
  go_region_held3 (fun yy => yy.cell? ⟨w.heap.size, 0, none⟩ = some (.int .i64 p) ∧ yy.cell? ⟨w.heap.size, 1, none⟩ = some (.slice ao x.length cap) ∧ yy.cell? ⟨w.heap.size + 1, 0, none⟩ = some (.int .i64 q) ∧ yy.cell? ⟨w.heap.size + 1, 1, none⟩ = some (.slice bo y.length cbp) ∧ Gr w2 yy) (go_keep) (first
    | (go_at_call 61; refine Calls.mono (HI.out _) ?_; rintro e z1 ⟨rfl, rfl⟩)
    | (go_at_call 67; refine Calls.mono (HV2.out _ ?_) ?_; (simp [*]); rintro e z1 ⟨rfl, rfl⟩)
    | (go_at_call 60; refine Calls.mono (or2_any _ ci cl _ ?_ ?_) ?_; (simp); (simp); rintro e z1 ⟨rfl, rfl⟩))
  have HF : Hid (Gr w (w2.alloc (.cells #[.int .i64 ci, .int .i64 cl] 3)).drew) := (HG.out.alloc _).drew
  clear HGA HGD HGR HV2 HV HI HB c0 c1 d0 d1 HG
  go_wp2_with fail
  go_ret
  exact ⟨by rw [HO.out]; rfl, HF.out⟩

end Go.Proofs.Ytmfaodapofamfaa

namespace Go.Proofs.Ytmfaodapofamfaa
open Go.RowKit

end Go.Proofs.Ytmfaodapofamfaa

namespace Go.Proofs.Ytmfaodapofamfaa
open Go.RowKit

abbrev treeVal (v : Value) : Value := .agg #[v]

end Go.Proofs.Ytmfaodapofamfaa

namespace Go.Proofs.Ytmfaodapofamfaa
open Go.RowKit

end Go.Proofs.Ytmfaodapofamfaa

namespace Go.Proofs.Ytmfaodapofamfaa
open Go.RowKit

end Go.Proofs.Ytmfaodapofamfaa

namespace Go.Proofs.Ytmfaodapofamfaa
open Go.RowKit

theorem rl_new (w : World) (o : Obj) : (w.alloc o).heap[w.heap.size]? = some o := by show (w.heap.push o)[w.heap.size]? = some o; simp
/-- A fact, and the value of its numbers' list. -/
abbrev Fv := Rl.Fc × Value
def fcCells (x : Fv) : List Value := [.int .i64 x.1.pred, x.2]
/-- A row of facts of one's own: block g. -/
abbrev FRow (w : World) (B g cap : Nat) (q : List Fv) : Prop := w.ownsRow B 51 2 (.slice (some ⟨g, 0, none⟩) q.length cap) q.length (q.map fcCells).flatten
section
variable {w w' : World} {B g cap : Nat} {q : List Fv}
end

end Go.Proofs.Ytmfaodapofamfaa

namespace Go.Proofs.Ytmfaodapofamfaa
open Go.Shelf Go.RowKit Go.Lib Go.Sort

end Go.Proofs.Ytmfaodapofamfaa

namespace Go.Proofs.Ytmfaodapofamfaa
open Go.RowKit

/-- Facts in new memory: the row, and each one's numbers. -/
def FactsP (B : Nat) (w : World) (v : Value) (s : List Rl.Fc) : Prop :=
  ∃ q : List Fv, q.map (·.1) = s ∧ w.ownsRow B 51 2 v q.length (q.map fcCells).flatten ∧ ∀ p, p ∈ q → w.ownsRow B 3 1 p.2 p.1.args.length (p.1.args.map (Value.int .i64))
theorem rl_own_le {w : World} {base base' size n : Nat} {e : TypeId} {v : Value} {xs : List Value} (h : w.ownsRow base e size v n xs) (hb : base' ≤ base) : w.ownsRow base' e size v n xs := by
  obtain ⟨h1, h2⟩ := h
  refine ⟨h1, ?_⟩
  rcases h2 with h2 | ⟨g, cap, cur, hv, hg, r⟩
  · exact .inl h2
  · exact .inr ⟨g, cap, cur, hv, Nat.le_trans hb hg, r⟩
theorem ownsRow_forms9 {w : World} {base size n : Nat} {e : TypeId} {v : Value} {xs : List Value} (h : w.ownsRow base e size v n xs) : (v = .slice none 0 0 ∧ n = 0) ∨ ∃ g cap, v = .slice (some ⟨g, 0, none⟩) n cap := by
  rcases h.2 with h2 | ⟨g, cap, cur, hv, _⟩
  · exact .inl h2
  · exact .inr ⟨g, cap, hv⟩
theorem news2 (w : World) (a b : Value) (e : TypeId) : ∀ j z, [a, b][j]? = some z → (w.alloc (.cells #[a, b] e)).cell? ((⟨w.heap.size, 0, none⟩ : Addr).add j) = some z := by
  intro j z hj
  have hbx := rl_new w (.cells #[a, b] e)
  match j, hj with
  | 0, hj =>
    have hz : a = z := by simpa using hj
    subst hz
    rw [Addr.add_lit, Lib.cell_of_heap hbx]
    rfl
  | 1, hj =>
    have hz : b = z := by simpa using hj
    subst hz
    rw [Addr.add_lit, Lib.cell_of_heap hbx]
    rfl
end Go.Proofs.Ytmfaodapofamfaa

namespace Go.Proofs.Ytmfaodapofamfaa
open Go.RowKit

set_option maxRecDepth 100000 in
set_option maxHeartbeats 1000000 in
theorem OrderOf_any (f g : Rl.Fc) (v u : Value) (w : World) (hV : IntsV w v f.args) (hU : IntsV w u g.args) (hx : FFit f) (hy : FFit g) :
    Calls Try.prog 28 #[fcVal f.pred v, fcVal g.pred u] w fun e w' => e = .returned (.int .i64 (Rl.ord f g)) ∧ Below w.heap.size w w' := by
  obtain ⟨p, x⟩ := f
  obtain ⟨q, y⟩ := g
  have hV : IntsV w v x := hV
  have hU : IntsV w u y := hU
  have hx : x.length ≤ 9223372036854775807 := hx
  have hy : y.length ≤ 9223372036854775807 := hy
  obtain ⟨ao, cap, rfl, hA⟩ := hV
  obtain ⟨bo, cbp, rfl, hB⟩ := hU
  have HA : Hid (IntsAt w ao x) := hA
  have HB : Hid (IntsAt w bo y) := hB
  have t2 := two_blocks (w := w) (o1 := .cells #[.int .i64 p, .slice ao x.length cap] 51) (o2 := .cells #[.int .i64 q, .slice bo y.length cbp] 51) (Below.refl _ _)
  have hbw := below_two w (.cells #[.int .i64 p, .slice ao x.length cap] 51) (.cells #[.int .i64 q, .slice bo y.length cbp] 51)
  have HO : Hid (Rl.ord ⟨p, x⟩ ⟨q, y⟩ = if Rl.cmpI p q = 0 then Rl.cmpL x y else Rl.cmpI p q) := rfl
  clear hA hB
  have c0 : ((w.alloc (.cells #[.int .i64 p, .slice ao x.length cap] 51)).alloc (.cells #[.int .i64 q, .slice bo y.length cbp] 51)).cell? ⟨w.heap.size, 0, none⟩ = some (.int .i64 p) := by rw [Lib.cell_of_heap t2.1]; rfl
  have c1 : ((w.alloc (.cells #[.int .i64 p, .slice ao x.length cap] 51)).alloc (.cells #[.int .i64 q, .slice bo y.length cbp] 51)).cell? ⟨w.heap.size, 1, none⟩ = some (.slice ao x.length cap) := by rw [Lib.cell_of_heap t2.1]; rfl
  have d0 : ((w.alloc (.cells #[.int .i64 p, .slice ao x.length cap] 51)).alloc (.cells #[.int .i64 q, .slice bo y.length cbp] 51)).cell? ⟨w.heap.size + 1, 0, none⟩ = some (.int .i64 q) := by rw [Lib.cell_of_heap t2.2]; rfl
  have d1 : ((w.alloc (.cells #[.int .i64 p, .slice ao x.length cap] 51)).alloc (.cells #[.int .i64 q, .slice bo y.length cbp] 51)).cell? ⟨w.heap.size + 1, 1, none⟩ = some (.slice bo y.length cbp) := by rw [Lib.cell_of_heap t2.2]; rfl
  clear t2
  by_cases hpq : p = q
  · subst hpq
    have HO2 : Hid (Rl.ord ⟨p, x⟩ ⟨p, y⟩ = Rl.cmpL x y) := by show _ = _; rw [HO.out, if_pos (Rl.cmpI_self p)]
    have g0 : (p != p) = false := by simp
    clear HO
    go_enter Try.func28, Try.ntmps28
    go_wp2_with fail
    generalize (w.alloc (.cells #[.int .i64 p, .slice ao x.length cap] 51)).alloc (.cells #[.int .i64 p, .slice bo y.length cbp] 51) = w2 at *
    have HCA : Hid (∀ k, k < x.length → ∃ b off, ao = some ⟨b, off, none⟩ ∧ w2.cell? ⟨b, off + k, none⟩ = some (.int .i64 (Sc.intD x k))) := fun k hk => by
      obtain ⟨b, off, h1, h2⟩ := ints_at HA.out k hk
      exact ⟨b, off, h1, cell_below hbw h2⟩
    have HCB : Hid (∀ k, k < y.length → ∃ b off, bo = some ⟨b, off, none⟩ ∧ w2.cell? ⟨b, off + k, none⟩ = some (.int .i64 (Sc.intD y k))) := fun k hk => by
      obtain ⟨b, off, h1, h2⟩ := ints_at HB.out k hk
      exact ⟨b, off, h1, cell_below hbw h2⟩
    clear HA HB
    have HBW : Hid (∀ n, Below w.heap.size w (w2.drewN n)) := fun n => ⟨hbw.os, hbw.tape, hbw.output, hbw.size, hbw.block⟩
    clear hbw
    go_loopw [5] (fun i wr => ∃ k nq : Nat, k ≤ x.length ∧ k ≤ y.length ∧ i = .int .i64 k ∧ wr = w2.drewN nq ∧ Rl.cmpL (x.drop k) (y.drop k) = Rl.cmpL x y) (fun i _ => x.length - (intOf i).toNat)
    case atStart => exact ⟨0, 0, Nat.zero_le _, Nat.zero_le _, rfl, rfl, rfl⟩
    case round =>
      obtain ⟨k, nq, hk, hk2, rfl, rfl, hq⟩ := hrel
      have HQ : Hid _ := hq
      clear hq
      by_cases hl : k < x.length
      · by_cases hl2 : k < y.length
        · obtain ⟨b, off, rfl, p0⟩ := HCA.out k hl
          obtain ⟨b2, off2, rfl, p1⟩ := HCB.out k hl2
          have HD : Hid (Rl.cmpL x y = if Rl.cmpI (Sc.intD x k) (Sc.intD y k) = 0 then Rl.cmpL (x.drop (k + 1)) (y.drop (k + 1)) else Rl.cmpI (Sc.intD x k) (Sc.intD y k)) := by show _ = _; rw [← HQ.out]; exact cmpL_drop x y k hl hl2
          clear HQ
          generalize Sc.intD x k = a at *
          generalize Sc.intD y k = b' at *
          have c1n : ∀ n, (w2.drewN n).cell? ⟨w.heap.size, 1, none⟩ = some (.slice (some ⟨b, off, none⟩) x.length cap) := fun _ => c1
          have d1n : ∀ n, (w2.drewN n).cell? ⟨w.heap.size + 1, 1, none⟩ = some (.slice (some ⟨b2, off2, none⟩) y.length cbp) := fun _ => d1
          have p0n : ∀ n, (w2.drewN n).cell? ⟨b, off + k, none⟩ = some (.int .i64 a) := fun _ => p0
          have p1n : ∀ n, (w2.drewN n).cell? ⟨b2, off2 + k, none⟩ = some (.int .i64 b') := fun _ => p1
          go_upto_region 8 with fail
          have e1 := c1n nq
          have e2 := d1n nq
          have e3 := p0n nq
          have e4 := p1n nq
          generalize hz : w2.drewN nq = z at *
          go_region_held3 (fun yy => yy.cell? ⟨w.heap.size, 1, none⟩ = some (.slice (some ⟨b, off, none⟩) x.length cap) ∧ yy.cell? ⟨w.heap.size + 1, 1, none⟩ = some (.slice (some ⟨b2, off2, none⟩) y.length cbp) ∧ yy.cell? ⟨b, off + k, none⟩ = some (.int .i64 a) ∧ yy.cell? ⟨b2, off2 + k, none⟩ = some (.int .i64 b')) (go_keep) (fail)
          clear e1 e2 e3 e4
          have hzd : z.drew = w2.drewN (nq + 1) := by rw [← hz]; rfl
          rw [hzd]
          clear hz hzd
          have HI : Hid (Rl.cmpI a b' = if a < b' then -1 else if b' < a then 1 else 0) := rfl
          by_cases h1 : a < b'
          · have HV : Hid (Rl.cmpL x y = -1) := by
              show _ = _
              have h3 : Rl.cmpI a b' = -1 := by rw [HI.out, if_pos h1]
              rw [HD.out, if_neg (by rw [h3]; decide), h3]
            go_wp2_with fail
            go_ret
            exact ⟨by rw [HO2.out, HV.out]; rfl, HBW.out _⟩
          · go_upto_region 10 with fail
            have e1 := c1n (nq + 1)
            have e2 := d1n (nq + 1)
            have e3 := p0n (nq + 1)
            have e4 := p1n (nq + 1)
            generalize hz : w2.drewN (nq + 1) = z at *
            go_region_held3 (fun yy => yy.cell? ⟨w.heap.size, 1, none⟩ = some (.slice (some ⟨b, off, none⟩) x.length cap) ∧ yy.cell? ⟨w.heap.size + 1, 1, none⟩ = some (.slice (some ⟨b2, off2, none⟩) y.length cbp) ∧ yy.cell? ⟨b, off + k, none⟩ = some (.int .i64 a) ∧ yy.cell? ⟨b2, off2 + k, none⟩ = some (.int .i64 b')) (go_keep) (fail)
            clear e1 e2 e3 e4
            have hzd : z.drew = w2.drewN (nq + 1 + 1) := by rw [← hz]; rfl
            rw [hzd]
            clear hz hzd
            by_cases h2 : b' < a
            · have HV : Hid (Rl.cmpL x y = 1) := by
                show _ = _
                have h3 : Rl.cmpI a b' = 1 := by rw [HI.out, if_neg h1, if_pos h2]
                rw [HD.out, if_neg (by rw [h3]; decide), h3]
              go_wp2_with fail
              go_ret
              exact ⟨by rw [HO2.out, HV.out]; rfl, HBW.out _⟩
            · have HV : Hid (Rl.cmpL (x.drop (k + 1)) (y.drop (k + 1)) = Rl.cmpL x y) := by
                show _ = _
                have h3 : Rl.cmpI a b' = 0 := by rw [HI.out, if_neg h1, if_neg h2]
                rw [HD.out, if_pos h3]
              go_wp2_with fail
              go_roundw
              case rel => exact ⟨k + 1, nq + 1 + 1, by omega, by omega, by go_num, rfl, HV.out⟩
              case measure => simp [intOf]; omega
        · have HV : Hid (Rl.cmpL x y = 1) := by show _ = _; rw [← HQ.out]; exact cmpL_left x y k hl (by omega)
          have hyx : y.length < x.length := by omega
          have hyx2 : ¬ x.length < y.length := by omega
          go_wp2_with fail
          go_ret
          exact ⟨by rw [HO2.out, HV.out]; rfl, HBW.out _⟩
      · by_cases hl2 : x.length < y.length
        · have HV : Hid (Rl.cmpL x y = -1) := by show _ = _; rw [← HQ.out]; exact cmpL_right x y k (by omega) (by omega)
          go_wp2_with fail
          go_ret
          exact ⟨by rw [HO2.out, HV.out]; rfl, HBW.out _⟩
        · have HV : Hid (Rl.cmpL x y = 0) := by show _ = _; rw [← HQ.out, List.drop_of_length_le (by omega), List.drop_of_length_le (by omega)]; rfl
          have hyx : ¬ y.length < x.length := by omega
          go_wp2_with fail
          go_ret
          exact ⟨by rw [HO2.out, HV.out]; rfl, HBW.out _⟩
  · have g0 : (p != q) = true := by simpa using hpq
    have HO2 : Hid (Rl.ord ⟨p, x⟩ ⟨q, y⟩ = Rl.cmpI p q) := by show _ = _; rw [HO.out, if_neg (fun h => hpq (Rl.cmpI_zero.mp h))]
    have HC : Hid (Rl.cmpI p q = if p < q then -1 else if q < p then 1 else 0) := rfl
    clear HO
    by_cases h1 : p < q
    · have HV : Hid (Rl.cmpI p q = -1) := by show _ = _; rw [HC.out, if_pos h1]
      go_enter Try.func28, Try.ntmps28
      go_wp2_with fail
      go_ret
      exact ⟨by rw [HO2.out, HV.out]; rfl, hbw⟩
    · have HV : Hid (Rl.cmpI p q = 1) := by show _ = _; rw [HC.out, if_neg h1, if_pos (by omega)]
      go_enter Try.func28, Try.ntmps28
      go_wp2_with fail
      go_ret
      exact ⟨by rw [HO2.out, HV.out]; rfl, hbw⟩

end Go.Proofs.Ytmfaodapofamfaa

namespace Go.Proofs.Ytmfaodapofamfaa
open Go.RowKit

end Go.Proofs.Ytmfaodapofamfaa

namespace Go.Proofs.Ytmfaodapofamfaa
open Go.RowKit

namespace Md
theorem take_same {l m : List Rl.Fc} {k : Nat} (h : l.take k = m.take k) (hl : k < l.length) (hm : k < m.length) (he : Rl.factD l k = Rl.factD m k) : l.take (k + 1) = m.take (k + 1) := by
  rw [List.take_add_one, List.take_add_one, factD_get l k hl, factD_get m k hm, h, he]
theorem all_same {l m : List Rl.Fc} {k : Nat} (h : l.take k = m.take k) (hlm : l.length = m.length) (hk : ¬ k < l.length) : l = m := by
  rw [List.take_of_length_le (by omega), List.take_of_length_le (by omega)] at h
  exact h
end Md
set_option maxRecDepth 100000 in
set_option maxHeartbeats 1000000 in
theorem SameFacts_any (l m : List Rl.Fc) (v u : Value) (w : World) (hV : FactsV w v l) (hU : FactsV w u m) (hl : l.length ≤ 9223372036854775807) (hf : ∀ f, f ∈ l → FFit f) (hg : ∀ f, f ∈ m → FFit f) :
    Calls Try.prog 17 #[v, u] w fun e w' => ∃ t, e = .returned (.bool t) ∧ (t = true ↔ l = m) ∧ Below w.heap.size w w' := by
  obtain ⟨ao, cap, rfl, _, hA⟩ := hV
  obtain ⟨bo, cbp, rfl, _, hB⟩ := hU
  have HA : Hid (FactsAt w ao l) := hA
  have HB : Hid (FactsAt w bo m) := hB
  have HF : Hid ((∀ f, f ∈ l → FFit f) ∧ ∀ f, f ∈ m → FFit f) := ⟨hf, hg⟩
  clear hA hB hf hg
  by_cases hlen : l.length = m.length
  · rw [← hlen]
    have HLEN : Hid (l.length = m.length) := hlen
    have hne : ((l.length : Int) != (l.length : Int)) = false := by simp
    clear hlen
    go_enter Try.func17, Try.ntmps17
    go_wp2_with fail
    go_loopw [5] (fun i wr => ∃ k : Nat, k ≤ l.length ∧ i = .int .i64 k ∧ Hid (l.take k = m.take k) ∧ Below w.heap.size w wr) (fun i _ => l.length - (intOf i).toNat)
    case atStart => exact ⟨0, Nat.zero_le _, rfl, rfl, Below.refl _ _⟩
    case round =>
      obtain ⟨k, hk, rfl, HTK, hbw⟩ := hrel
      by_cases hlt : k < l.length
      · obtain ⟨b, off, rfl, p0, fv, p1, hIv⟩ := facts_at HA.out k hlt
        have hltm : k < m.length := by rw [← HLEN.out]; exact hlt
        obtain ⟨b2, off2, rfl, r0, gv, r1, hJv⟩ := facts_at HB.out k hltm
        have HIV : Hid (IntsV w fv (Rl.factD l k).args ∧ IntsV w gv (Rl.factD m k).args ∧ FFit (Rl.factD l k) ∧ FFit (Rl.factD m k)) := ⟨hIv, hJv, HF.out.1 _ (factD_mem l k hlt), HF.out.2 _ (factD_mem m k hltm)⟩
        have HNX : Hid (Rl.factD l k = Rl.factD m k → l.take (k + 1) = m.take (k + 1)) := fun e => Md.take_same HTK.out hlt hltm e
        have HNO : Hid (¬ Rl.factD l k = Rl.factD m k → ¬ l = m) := fun h e => h (by rw [e])
        obtain ⟨af, cf, rfl, _⟩ := hIv
        obtain ⟨ag, cg, rfl, _⟩ := hJv
        have a0 := cell_below hbw p0
        have a1 := cell_below hbw p1
        have c0 := cell_below hbw r0
        have c1 := cell_below hbw r1
        clear p0 p1 r0 r1 hltm HTK
        generalize Rl.factD l k = g at *
        generalize Rl.factD m k = g2 at *
        have HN : Hid (∀ z, Below wr.heap.size wr z → Calls Try.prog 28 #[fcVal g.pred (.slice af g.args.length cf), fcVal g2.pred (.slice ag g2.args.length cg)] z fun e w' => e = .returned (.int .i64 (Rl.ord g g2)) ∧ Below wr.heap.size wr w' ∧ w'.cell? ⟨b, off + k * 2, none⟩ = some (.int .i64 g.pred) ∧ w'.cell? ⟨b, off + k * 2 + 1, none⟩ = some (.slice af g.args.length cf) ∧ w'.cell? ⟨b2, off2 + k * 2, none⟩ = some (.int .i64 g2.pred) ∧ w'.cell? ⟨b2, off2 + k * 2 + 1, none⟩ = some (.slice ag g2.args.length cg)) := by
          intro z hz
          have hzw := hbw.trans (hz.mono hbw.size)
          refine (OrderOf_any g g2 _ _ z (intsV_below HIV.out.1 hzw) (intsV_below HIV.out.2.1 hzw) HIV.out.2.2.1 HIV.out.2.2.2).mono ?_
          rintro e w' ⟨h1, h2⟩
          have h3 := hz.trans (h2.mono hz.size)
          exact ⟨h1, h3, cell_below h3 a0, cell_below h3 a1, cell_below h3 c0, cell_below h3 c1⟩
        have HGA : ∀ b o, Below wr.heap.size wr b → Below wr.heap.size wr (b.alloc o) := fun _ o h => h.alloc h.size o
        have HGD : ∀ b, Below wr.heap.size wr b → Below wr.heap.size wr b.drew := fun _ h => ⟨h.os, h.tape, h.output, h.size, h.block⟩
        have HGR : Below wr.heap.size wr wr := Below.refl _ _
        by_cases ho : Rl.ord g g2 = 0
        · have HE : Hid _ := HNX.out (Rl.ord_zero.mp ho)
          rw [ho] at HN
          clear ho HNX HNO
          go_upto_region 6 with fail
          go_region_held3 (fun yy => yy.cell? ⟨b, off + k * 2, none⟩ = some (.int .i64 g.pred) ∧ yy.cell? ⟨b, off + k * 2 + 1, none⟩ = some (.slice af g.args.length cf) ∧ yy.cell? ⟨b2, off2 + k * 2, none⟩ = some (.int .i64 g2.pred) ∧ yy.cell? ⟨b2, off2 + k * 2 + 1, none⟩ = some (.slice ag g2.args.length cg) ∧ Below wr.heap.size wr yy) (go_keep) (
            (go_at_call 28; refine Calls.mono (HN.out _ ?_) ?_; (simp [*]); rintro e w2 ⟨rfl, hb2, hz2, hz3, hz4, hz5⟩))
          clear HGA HGD HGR HN hz2 hz3 hz4 hz5
          have hb3 := hbw.trans (hb2.mono hbw.size)
          clear a0 a1 c0 c1 hb2 hbw
          go_wp2_with fail
          go_roundw
          case rel => exact ⟨k + 1, by omega, by go_num, HE.out, hb3⟩
          case measure => simp [intOf]; omega
        · have HE : Hid (¬ l = m) := HNO.out (fun e => ho (Rl.ord_zero.mpr e))
          have gne : (Rl.ord g g2 != 0) = true := by simpa using ho
          generalize Rl.ord g g2 = od at *
          clear ho HNX HNO
          go_upto_region 6 with fail
          go_region_held3 (fun yy => yy.cell? ⟨b, off + k * 2, none⟩ = some (.int .i64 g.pred) ∧ yy.cell? ⟨b, off + k * 2 + 1, none⟩ = some (.slice af g.args.length cf) ∧ yy.cell? ⟨b2, off2 + k * 2, none⟩ = some (.int .i64 g2.pred) ∧ yy.cell? ⟨b2, off2 + k * 2 + 1, none⟩ = some (.slice ag g2.args.length cg) ∧ Below wr.heap.size wr yy) (go_keep) (
            (go_at_call 28; refine Calls.mono (HN.out _ ?_) ?_; (simp [*]); rintro e w2 ⟨rfl, hb2, hz2, hz3, hz4, hz5⟩))
          clear HGA HGD HGR HN hz2 hz3 hz4 hz5
          have hb3 := hbw.trans (hb2.mono hbw.size)
          clear a0 a1 c0 c1 hb2 hbw
          go_wp2_with fail
          go_ret
          exact ⟨false, rfl, ⟨fun h => (by cases h), fun h => absurd h HE.out⟩, hb3⟩
      · have HE : Hid (l = m) := Md.all_same HTK.out HLEN.out hlt
        go_wp2_with fail
        go_ret
        exact ⟨true, rfl, ⟨fun _ => HE.out, fun _ => rfl⟩, hbw⟩
  · have HE : Hid (¬ l = m) := fun e => hlen (by rw [e])
    have hne : ((l.length : Int) != (m.length : Int)) = true := by simp; omega
    have hne2 : (l.length != m.length) = true := by simpa using hlen
    clear hlen
    go_enter Try.func17, Try.ntmps17
    go_wp2_with fail
    go_ret
    exact ⟨false, rfl, ⟨fun h => (by cases h), fun h => absurd h HE.out⟩, Below.refl _ _⟩
end Go.Proofs.Ytmfaodapofamfaa

namespace Go.Proofs.Ytmfaodapofamfaa
open Go.RowKit

set_option maxRecDepth 100000 in
set_option maxHeartbeats 400000 in
theorem fact_any (p : Int) (a : Option Addr) (n c : Nat) (w : World) :
    Calls Try.prog 19 #[.int .i64 p, .slice a n c] w fun e w' => e = .returned (fcVal p (.slice a n c)) ∧ Below w.heap.size w w' := by
  have hb0 : ∀ o, Below w.heap.size w (w.alloc o) := fun o => (Below.refl _ _).alloc (Nat.le_refl _) o
  go_enter Try.func19, Try.ntmps19
  go_wp2_with fail
  have hGa := rl_new w (.cells #[.int .i64 p, .slice a n c] 51)
  have d0 : (w.alloc (.cells #[.int .i64 p, .slice a n c] 51)).cell? ⟨w.heap.size, 0, none⟩ = some (.int .i64 p) := by rw [Lib.cell_of_heap hGa]; rfl
  have d1 : (w.alloc (.cells #[.int .i64 p, .slice a n c] 51)).cell? ⟨w.heap.size, 1, none⟩ = some (.slice a n c) := by rw [Lib.cell_of_heap hGa]; rfl
  refine bodyPost_ret (v := fcVal p (.slice a n c)) (by simp [results, Try.results19, go_sem, d0, d1]) rfl ⟨rfl, hb0 _⟩

end Go.Proofs.Ytmfaodapofamfaa

namespace Go.Proofs.Ytmfaodapofamfaa
namespace Fx

abbrev Edge := Nat × Nat × Int
end Fx
end Go.Proofs.Ytmfaodapofamfaa

namespace Go.Proofs.Ytmfaodapofamfaa
open Go.RowKit Go.Shelf

attribute [local go_sem] Oper.semAt_some

/-- What comes of a rule: a predicate that there is, and 0 or 1. -/
abbrev HP (n : Nat) := { p : Int × Int // 0 ≤ p.1 ∧ p.1 < (n : Int) ∧ (p.2 = 0 ∨ p.2 = 1) }
namespace St
end St

abbrev hangEnc {n : Nat} (p : HP n) : Array Value := #[.int .i64 p.1.1, .int .i64 p.1.2]

end Go.Proofs.Ytmfaodapofamfaa

namespace Go.Proofs.Ytmfaodapofamfaa
open Go.RowKit

theorem blw_drewN (w : World) (n : Nat) : Below w.heap.size w (w.drewN n) := ⟨rfl, rfl, rfl, Nat.le_refl _, fun _ _ => rfl⟩
end Go.Proofs.Ytmfaodapofamfaa

namespace Go.Proofs.Ytmfaodapofamfaa
open Go.RowKit

namespace St
end St

theorem _root_.Go.World.grownBy.trans_row {a b c : World} {LB : Nat} (h : a.grownBy b (some LB)) (k : b.grownBy c (some LB)) : a.grownBy c (some LB) :=
  ⟨k.os.trans h.os, k.tape.trans h.tape, k.output.trans h.output, Nat.le_trans h.size k.size, fun j hj hn => (k.block j (Nat.lt_of_lt_of_le hj h.size) hn).trans (h.block j hj hn)⟩

end Go.Proofs.Ytmfaodapofamfaa

namespace Go.Proofs.Ytmfaodapofamfaa
open Go.RowKit

theorem own_type {W W' : World} {B e c n : Nat} {v : Value} {xs : List Value} (h : W.ownsRow B e c v n xs) (hk : ∀ (k : Nat) (a : Array Value), W.heap[k]? = some (.cells a e) → W'.heap[k]? = some (.cells a e)) : W'.ownsRow B e c v n xs := by
  obtain ⟨h1, h2⟩ := h
  refine ⟨h1, ?_⟩
  rcases h2 with h2 | ⟨g, cap, cur, hv, hg, hh, r⟩
  · exact .inl h2
  · exact .inr ⟨g, cap, cur, hv, hg, hk g cur hh, r⟩
theorem own_cells {W : World} {B e c n : Nat} {v : Value} {xs : List Value} (h : W.ownsRow B e c v n xs) : ∃ ao cap, v = .slice ao n cap ∧ n ≤ cap ∧ (n = 0 ∨ ∃ g, ao = some ⟨g, 0, none⟩ ∧ ∀ j, j < n * c → W.cell? ⟨g, j, none⟩ = xs[j]?) := by
  rcases ownsRow_forms9 h with ⟨rfl, rfl⟩ | ⟨g, cap, rfl⟩
  · exact ⟨none, 0, rfl, Nat.le_refl _, .inl rfl⟩
  · refine ⟨_, cap, rfl, ?_, .inr ⟨g, rfl, fun j hj => h.cellAt j hj⟩⟩
    rcases h.2 with ⟨h2, _⟩ | ⟨g2, cap2, cur, hv, _, _, hle, _⟩
    · cases h2
    · injection hv with _ _ h3
      omega
end Go.Proofs.Ytmfaodapofamfaa

namespace Go.Proofs.Ytmfaodapofamfaa
open Go.RowKit

section
variable {P : Program} {ops : Array Oper} {Q : Exit → Act → World → Prop} {i : Nat} {o : Oper} {K : Act → World → Prop} {a : Act} {w w' : World}
end

end Go.Proofs.Ytmfaodapofamfaa

namespace Go.Proofs.Ytmfaodapofamfaa
open Go.RowKit

theorem own_ints {W : World} {B : Nat} {v : Value} {l : List Int} (h : W.ownsRow B 3 1 v l.length (l.map (Value.int .i64))) : IntsV W v l := by
  obtain ⟨ao, cap, rfl, _, hc⟩ := own_cells h
  refine ⟨ao, cap, rfl, ?_⟩
  rcases hc with h0 | ⟨g, rfl, hc⟩
  · exact .inl (List.length_eq_zero_iff.mp h0)
  · refine .inr ⟨g, 0, rfl, fun i hi => ?_⟩
    rw [Nat.zero_add, hc i (by omega)]
    simp [Sc.intD, hi]
namespace St
end St

end Go.Proofs.Ytmfaodapofamfaa

namespace Go.Proofs.Ytmfaodapofamfaa
open Go.RowKit

/-- A row of numbers of one's own. -/
abbrev IRow (w : World) (B : Nat) (v : Value) (l : List Int) : Prop := w.ownsRow B 3 1 v l.length (l.map (Value.int .i64))
end Go.Proofs.Ytmfaodapofamfaa

namespace Go.Proofs.Ytmfaodapofamfaa
open Go.RowKit

/-- A fact's value. -/
abbrev factVal (pred : Int) (v : Value) : Value := .agg #[.int .i64 pred, v]

end Go.Proofs.Ytmfaodapofamfaa

namespace Go.Proofs.Ytmfaodapofamfaa
open Go.Shelf Go.RowKit Go.Lib Go.Sort

abbrev Nv := List Int × Value
end Go.Proofs.Ytmfaodapofamfaa

namespace Go.Proofs.Ytmfaodapofamfaa
open Go.RowKit

namespace Ru
end Ru
end Go.Proofs.Ytmfaodapofamfaa

namespace Go.Proofs.Ytmfaodapofamfaa
open Go.RowKit

theorem new_below (y : World) (o : Obj) : Below y.heap.size y (y.alloc o) := (Below.refl _ _).alloc (Nat.le_refl _) o
end Go.Proofs.Ytmfaodapofamfaa

namespace Go.Proofs.Ytmfaodapofamfaa
open Go.RowKit

namespace Tr
end Tr

end Go.Proofs.Ytmfaodapofamfaa

namespace Go.Proofs.Ytmfaodapofamfaa
open Go.RowKit

theorem A_cells3 : Try.prog.cellsOf 3 = 1 := by kernel_rfl
section
variable {H : Type} {enc : TypeId × Value → H} {w : World} {base : Nat} {spare : Nat → Bool} {held : Bool}

/-- A slice whose elements can be read. -/
theorem open_row {α : Type} {st e : TypeId} {k : Nat} (ht : Try.prog.underlying st = some (.slice e)) (hk : Try.prog.cellsOf e = k) (hk0 : 0 < k) (d : α) (In : Nat → Nat → α → Prop)
    (el : ∀ n cs' y b off, cs'.length = k → (∀ j, j < k → w.cell? ⟨b, off + j, none⟩ = cs'[j]?) → DataW.trod enc Try.prog w base spare held n e cs' = some y → ∃ a, In b off a)
    {fuel : Nat} {v : Value} {x : DataW H × List MemPlace} (h : DataW.trod enc Try.prog w base spare held fuel st [v] = some x) :
    ∃ (ao : Option Addr) (l : List α) (cap : Nat), v = .slice ao l.length cap ∧ l.length ≤ 9223372036854775807 ∧ (l = [] ∨ ∃ b off, ao = some ⟨b, off, none⟩ ∧ ∀ i, i < l.length → In b (off + i * k) (l.getD i d)) := by
  haveI : Inhabited α := ⟨d⟩
  rcases Deep.open_slice ht h with ⟨hv, _⟩ | ⟨a, len, cap, m, n, D, Pl, hv, hb, hl, hm, hmm, hx, hel⟩
  · have hv' : v = .slice none 0 0 := by simpa using hv
    exact ⟨none, [], 0, hv', by simp, .inl rfl⟩
  · have hv' : v = .slice (some a) len cap := by simpa using hv
    have hlm : len ≤ m := by rw [hmm]; split <;> omega
    by_cases h0 : len = 0
    · subst h0
      exact ⟨some a, [], cap, hv', by simp, .inl rfl⟩
    · obtain ⟨b, off, spot⟩ := a
      have hspot : spot = none := by
        obtain ⟨cs', h1, _⟩ := hel 0 (by omega)
        rw [hk] at h1
        obtain ⟨_, hlen, hcell⟩ := World.cells?_some h1
        have hc := hcell 0 hk0
        cases hcs : cs'[0]? with
        | none => rw [List.getElem?_eq_none_iff] at hcs; omega
        | some u =>
          rw [hcs] at hc
          simpa [Addr.add] using World.cell?_spot hc
      subst hspot
      have each : ∀ i, i < len → ∃ q : α, In b (off + i * k) q := by
        intro i hi
        obtain ⟨cs', h1, h2⟩ := hel i (by omega)
        rw [hk] at h1
        obtain ⟨_, hlen, hcell⟩ := World.cells?_some h1
        refine el n cs' _ b (off + i * k) hlen (fun j hj => ?_) h2
        have := hcell j hj
        rw [Deep.add_add, WideShapes.add_plain] at this
        rw [← this, Nat.add_assoc]
      obtain ⟨q, hq⟩ := Deep.choose_lt each
      refine ⟨some ⟨b, off, none⟩, (List.range len).map q, cap, by rw [hv']; simp, by unfold maxLen at hm; simp; omega, .inr ⟨b, off, rfl, fun i hi => ?_⟩⟩
      have hi' : i < len := by simpa using hi
      have ht : ((List.range len).map q).getD i d = q i := by
        rw [List.getD_eq_getElem?_getD, List.getElem?_map, List.getElem?_range hi']
        rfl
      rw [ht]
      exact hq i hi'

theorem trod_struct2 {t : TypeId} {f0 f1 : Field} {fuel : Nat} {cs : List Value} {x : DataW H × List MemPlace} (ht : Try.prog.underlying t = some (.struct #[f0, f1])) (h : DataW.trod enc Try.prog w base spare held fuel t cs = some x) :
    ∃ y0 y1 n, cs.length = Try.prog.cellsOf t ∧ DataW.trod enc Try.prog w base spare held n f0.type ((cs.drop f0.offset).take (Try.prog.cellsOf f0.type)) = some y0 ∧
      DataW.trod enc Try.prog w base spare held n f1.type ((cs.drop f1.offset).take (Try.prog.cellsOf f1.type)) = some y1 := by
  obtain ⟨xs, n, _, rfl, hl, hlen, hf⟩ := DataW.trod_struct ht h
  match xs, hlen with
  | [y0, y1], _ => exact ⟨y0, y1, n, hl, by simpa using hf 0 f0 rfl, by simpa using hf 1 f1 rfl⟩
end

end Go.Proofs.Ytmfaodapofamfaa

namespace Go.Proofs.Ytmfaodapofamfaa
open Go.RowKit

theorem P_cells28 : Try.prog.cellsOf 51 = 2 := by kernel_rfl
theorem P_cells22 : Try.prog.cellsOf 49 = 1 := by kernel_rfl
section
variable {H : Type} {enc : TypeId × Value → H} {w : World} {base : Nat} {spare : Nat → Bool} {held : Bool}

/-- A slice whose elements can be read; its length is no more than its room. -/
theorem open_rowC {α : Type} {st e : TypeId} {k : Nat} (ht : Try.prog.underlying st = some (.slice e)) (hk : Try.prog.cellsOf e = k) (hk0 : 0 < k) (d : α) (In : Nat → Nat → α → Prop)
    (el : ∀ n cs' y b off, cs'.length = k → (∀ j, j < k → w.cell? ⟨b, off + j, none⟩ = cs'[j]?) → DataW.trod enc Try.prog w base spare held n e cs' = some y → ∃ a, In b off a)
    {fuel : Nat} {v : Value} {x : DataW H × List MemPlace} (h : DataW.trod enc Try.prog w base spare held fuel st [v] = some x) :
    ∃ (ao : Option Addr) (l : List α) (cap : Nat), v = .slice ao l.length cap ∧ l.length ≤ cap ∧ l.length ≤ 9223372036854775807 ∧ (l = [] ∨ ∃ b off, ao = some ⟨b, off, none⟩ ∧ ∀ i, i < l.length → In b (off + i * k) (l.getD i d)) := by
  obtain ⟨ao, l, cap, hv, hm, hl⟩ := open_row ht hk hk0 d In el h
  refine ⟨ao, l, cap, hv, ?_, hm, hl⟩
  rcases Deep.open_slice ht h with ⟨hv2, _⟩ | ⟨a, len, cap2, m, n, D, Pl, hv2, hb, hl2, _⟩
  · have hv' : v = .slice none 0 0 := by simpa using hv2
    rw [hv] at hv'
    injection hv' with _ h1 h2
    omega
  · have hv' : v = .slice (some a) len cap2 := by simpa using hv2
    rw [hv] at hv'
    injection hv' with _ h1 h2
    omega

theorem open_ints {fuel : Nat} {v : Value} {x : DataW H × List MemPlace} (h : DataW.trod enc Try.prog w base spare held fuel 49 [v] = some x) : ∃ l, IntsV w v l ∧ l.length ≤ 9223372036854775807 := by
  obtain ⟨ao, l, cap, hv, _, hmx, hl⟩ := open_rowC Try.underlying49 A_cells3 (by decide) (0 : Int) (fun b off a => w.cell? ⟨b, off, none⟩ = some (.int .i64 a)) (fun n cs' y b off hlen hc h2 => by
    match cs', hlen with
    | [v0], _ =>
      obtain ⟨k0, e0, _, _⟩ := DataW.trod_int Try.underlying3 h2
      simp at e0
      subst e0
      exact ⟨k0, hc 0 (by decide)⟩) h
  refine ⟨l, ⟨ao, cap, hv, ?_⟩, hmx⟩
  rcases hl with h | ⟨b, off, he, hc⟩
  · exact .inl h
  · exact .inr ⟨b, off, he, fun i hi => by have := hc i hi; rw [Nat.mul_one] at this; exact this⟩
theorem open_fact {fuel : Nat} {v0 v1 : Value} {x : DataW H × List MemPlace} (h : DataW.trod enc Try.prog w base spare held fuel 51 [v0, v1] = some x) : ∃ pred args, v0 = .int .i64 pred ∧ IntsV w v1 args ∧ args.length ≤ 9223372036854775807 := by
  obtain ⟨y0, y1, n, _, g0, g1⟩ := trod_struct2 Try.underlying51 h
  simp [A_cells3, P_cells22] at g0 g1
  obtain ⟨k0, e0, _, _⟩ := DataW.trod_int Try.underlying3 g0
  obtain ⟨l1, hl1, hm1⟩ := open_ints g1
  simp at e0
  exact ⟨k0, l1, e0, hl1, hm1⟩
end

end Go.Proofs.Ytmfaodapofamfaa

namespace Go.Proofs.Ytmfaodapofamfaa
open Go.RowKit

section
variable {H : Type} {enc : TypeId × Value → H} {w : World} {base : Nat} {spare : Nat → Bool} {held : Bool}

theorem open_factsC {fuel : Nat} {v : Value} {x : DataW H × List MemPlace} (h : DataW.trod enc Try.prog w base spare held fuel 32 [v] = some x) : ∃ l, FactsV w v l ∧ l.length ≤ 9223372036854775807 ∧ ∀ f, f ∈ l → FFit f := by
  obtain ⟨ao, l, cap, hv, hcp, hmx, hl⟩ := open_rowC Try.underlying32 P_cells28 (by decide) (⟨0, []⟩ : Rl.Fc) (fun b off f => FactIn w b off f ∧ FFit f) (fun n cs' y b off hlen hc h2 => by
    match cs', hlen with
    | [v0, v1], _ =>
      obtain ⟨pr, ar, e0, hI, hm⟩ := open_fact h2
      exact ⟨⟨pr, ar⟩, ⟨by rw [← e0]; exact hc 0 (by decide), v1, hc 1 (by decide), hI⟩, hm⟩) h
  refine ⟨l, ⟨ao, cap, hv, ⟨hcp, fun e => ?_⟩, ?_⟩, hmx, fun f hf => ?_⟩
  · subst e
    rcases Deep.open_slice Try.underlying32 h with ⟨hv2, _⟩ | ⟨a, len, cap2, m, n, D, Pl, hv2, _⟩
    · have hv' : v = .slice none 0 0 := by simpa using hv2
      rw [hv] at hv'
      injection hv' with _ _ h2
    · have hv' : v = .slice (some a) len cap2 := by simpa using hv2
      rw [hv] at hv'
      injection hv' with h1
      cases h1
  · rcases hl with h | ⟨b, off, he, hc⟩
    · exact .inl h
    · exact .inr ⟨b, off, he, fun i hi => (hc i hi).1⟩
  · obtain ⟨i, hi, rfl⟩ := List.getElem_of_mem hf
    rcases hl with h | ⟨b, off, he, hc⟩
    · rw [h] at hi; simp at hi
    · have := (hc i hi).2
      rwa [List.getD_eq_getElem?_getD, List.getElem?_eq_getElem hi] at this
end
end Go.Proofs.Ytmfaodapofamfaa

/- Updates as bytes, plain: what Check says, the bytes of an update, and the update of bytes; nothing of the program stands here. -/
namespace Go.Proofs.Ytmfaodapofamfaa
namespace Wr

structure Id where
  a : Int
  n : Int
deriving DecidableEq
structure Up where
  id : Id
  ps : List Id
  says : List Rl.Fc
  ts : List Id

def isId (x : Id) : Bool := decide (0 ≤ x.a ∧ x.a ≤ 5 ∧ 1 ≤ x.n ∧ x.n ≤ 200)
def idOrd (x y : Id) : Int := if Rl.cmpI x.a y.a = 0 then Rl.cmpI x.n y.n else Rl.cmpI x.a y.a
def rise {α : Type} (o : α → α → Int) : List α → Bool
  | x :: y :: r => decide (o x y < 0) && rise o (y :: r)
  | _ => true
def numOk (n : Int) : Bool := decide (-1000000 ≤ n ∧ n ≤ 1000000)
def factOk (f : Rl.Fc) : Bool := decide (0 ≤ f.pred ∧ f.pred ≤ 9 ∧ f.args.length ≤ 3) && f.args.all numOk
def lacks (u : Up) : Bool := decide (1 < u.id.n) && !(u.ps.contains (Id.mk u.id.a (u.id.n - 1)))
/-- What Check says of an update. -/
def check (u : Up) : Int :=
  if isId u.id = false then 3
  else if 6 < u.ps.length ∨ 6 < u.says.length ∨ 6 < u.ts.length then 2
  else if u.ps.all isId = false ∨ u.ts.all isId = false then 3
  else if rise idOrd u.ps = false ∨ rise idOrd u.ts = false then 4
  else if lacks u = true then 5
  else if u.says.all factOk = false then 3
  else if rise Rl.ord u.says = false then 4 else 0

/-- What is right for the bytes: numbers that they can tell. -/
structure Right (u : Up) : Prop where
  id : isId u.id = true
  ps : u.ps.length ≤ 6
  says : u.says.length ≤ 6
  ts : u.ts.length ≤ 6
  pid : ∀ x, x ∈ u.ps → isId x = true
  tid : ∀ x, x ∈ u.ts → isId x = true
  fs : ∀ f, f ∈ u.says → factOk f = true
theorem right_of {u : Up} (h : check u = 0) : Right u := by
  unfold check at h
  split at h
  · cases h
  · rename_i h1
    split at h
    · cases h
    · rename_i h2
      split at h
      · cases h
      · rename_i h3
        split at h
        · cases h
        · split at h
          · cases h
          · split at h
            · cases h
            · rename_i h6
              have e1 : isId u.id = true := by simpa using h1
              have e3 : u.ps.all isId = true ∧ u.ts.all isId = true := by
                constructor
                · cases hx : u.ps.all isId with
                  | true => rfl
                  | false => exact absurd (Or.inl hx) h3
                · cases hx : u.ts.all isId with
                  | true => rfl
                  | false => exact absurd (Or.inr hx) h3
              have e6 : u.says.all factOk = true := by
                cases hx : u.says.all factOk with
                | true => rfl
                | false => exact absurd hx h6
              exact ⟨e1, by omega, by omega, by omega, fun x hx => List.all_eq_true.mp e3.1 x hx, fun x hx => List.all_eq_true.mp e3.2 x hx, fun x hx => List.all_eq_true.mp e6 x hx⟩

abbrev By := List UInt8
abbrev Rd (α : Type) := By → Option (α × By)
end Wr
end Go.Proofs.Ytmfaodapofamfaa

/- Ids and lists of them: the walks of the calls that read them. -/
namespace Go.Proofs.Ytmfaodapofamfaa
open Go.RowKit

abbrev idVal (x : Wr.Id) : Value := .agg #[.int .i64 x.a, .int .i64 x.n]
def idD (l : List Wr.Id) (i : Nat) : Wr.Id := l.getD i ⟨0, 0⟩
def IdIn (w : World) (b off : Nat) (x : Wr.Id) : Prop := w.cell? ⟨b, off, none⟩ = some (.int .i64 x.a) ∧ w.cell? ⟨b, off + 1, none⟩ = some (.int .i64 x.n)
def IdsAt (w : World) (ao : Option Addr) (l : List Wr.Id) : Prop := l = [] ∨ ∃ b off, ao = some ⟨b, off, none⟩ ∧ ∀ i, i < l.length → IdIn w b (off + i * 2) (idD l i)
def IdsV (w : World) (v : Value) (l : List Wr.Id) : Prop := ∃ ao cap, v = .slice ao l.length cap ∧ (l.length ≤ cap ∧ (ao = none → cap = 0)) ∧ IdsAt w ao l
theorem idsV_below {w w' : World} {v : Value} {l : List Wr.Id} (h : IdsV w v l) (hb : Below w.heap.size w w') : IdsV w' v l := by
  obtain ⟨ao, cap, rfl, hc, h⟩ := h
  refine ⟨ao, cap, rfl, hc, ?_⟩
  rcases h with h | ⟨b, off, rfl, h⟩
  · exact .inl h
  · exact .inr ⟨b, off, rfl, fun i hi => ⟨cell_below hb (h i hi).1, cell_below hb (h i hi).2⟩⟩
theorem ids_at {w : World} {ao : Option Addr} {l : List Wr.Id} (h : IdsAt w ao l) (i : Nat) (hi : i < l.length) : ∃ b off, ao = some ⟨b, off, none⟩ ∧ IdIn w b (off + i * 2) (idD l i) := by
  rcases h with h | ⟨b, off, ha, hc⟩
  · rw [h] at hi; exact absurd hi (by simp)
  · exact ⟨b, off, ha, hc i hi⟩
theorem idD_drop (l : List Wr.Id) (k : Nat) (hk : k < l.length) : l.drop k = idD l k :: l.drop (k + 1) := by
  rw [List.drop_eq_getElem_cons hk]
  simp [idD, List.getD_eq_getElem?_getD, hk]

set_option maxRecDepth 100000 in
set_option maxHeartbeats 1000000 in
theorem isWrongId_any (x : Wr.Id) (w : World) : Calls Try.prog 37 #[idVal x] w fun e w' => e = .returned (.bool (!Wr.isId x)) ∧ Gr w w' := by
  obtain ⟨a, n⟩ := x
  have HG : Hid (Gr w (w.alloc (.cells #[.int .i64 a, .int .i64 n] 30))) := (Gr.refl w).alloc _
  have HB : Hid _ := heap_alloc_new w (.cells #[.int .i64 a, .int .i64 n] 30)
  have HR : Hid (Wr.isId ⟨a, n⟩ = (decide (0 ≤ a) && (decide (a ≤ 5) && (decide (1 ≤ n) && decide (n ≤ 200))))) := by
    show _ = _
    unfold Wr.isId
    simp only [Bool.decide_and]
  go_enter Try.func37, Try.ntmps37
  go_upto_region 1 with fail
  generalize w.alloc (.cells #[.int .i64 a, .int .i64 n] 30) = w2 at *
  have c0 : w2.cell? ⟨w.heap.size, 0, none⟩ = some (.int .i64 a) := by rw [Lib.cell_of_heap HB.out]; rfl
  have c1 : w2.cell? ⟨w.heap.size, 1, none⟩ = some (.int .i64 n) := by rw [Lib.cell_of_heap HB.out]; rfl
  by_cases h1 : a < 0
  · have d1 : decide (a < 0) = true := decide_eq_true h1
    go_wp2_with fail
    go_ret
    exact ⟨by rw [HR.out, decide_eq_false (p := 0 ≤ a) (by omega)]; rfl, HG.out⟩
  · have d1 : decide (a < 0) = false := decide_eq_false h1
    by_cases h2 : 6 ≤ a
    · have d2 : decide (6 ≤ a) = true := decide_eq_true h2
      go_wp2_with fail
      go_ret
      exact ⟨by rw [HR.out, decide_eq_true (p := 0 ≤ a) (by omega), decide_eq_false (p := a ≤ 5) (by omega)]; rfl, HG.out⟩
    · have d2 : decide (6 ≤ a) = false := decide_eq_false h2
      by_cases h3 : n < 1
      · have d3 : decide (n < 1) = true := decide_eq_true h3
        go_wp2_with fail
        go_ret
        exact ⟨by rw [HR.out, decide_eq_true (p := 0 ≤ a) (by omega), decide_eq_true (p := a ≤ 5) (by omega), decide_eq_false (p := 1 ≤ n) (by omega)]; rfl, HG.out⟩
      · have d3 : decide (n < 1) = false := decide_eq_false h3
        by_cases h4 : 200 < n
        · have d4 : decide (200 < n) = true := decide_eq_true h4
          go_wp2_with fail
          go_ret
          exact ⟨by rw [HR.out, decide_eq_true (p := 0 ≤ a) (by omega), decide_eq_true (p := a ≤ 5) (by omega), decide_eq_true (p := 1 ≤ n) (by omega), decide_eq_false (p := n ≤ 200) (by omega)]; rfl, HG.out⟩
        · have d4 : decide (200 < n) = false := decide_eq_false h4
          go_wp2_with fail
          go_ret
          exact ⟨by rw [HR.out, decide_eq_true (p := 0 ≤ a) (by omega), decide_eq_true (p := a ≤ 5) (by omega), decide_eq_true (p := 1 ≤ n) (by omega), decide_eq_true (p := n ≤ 200) (by omega)]; rfl, HG.out⟩

end Go.Proofs.Ytmfaodapofamfaa

/- The order of ids; whether lists rise. -/
namespace Go.Proofs.Ytmfaodapofamfaa
open Go.RowKit
namespace Wr

theorem rise_step {α : Type} (o : α → α → Int) (d : α) : ∀ (l : List α) (k : Nat), k + 1 < l.length → rise o (l.drop k) = (decide (o (l.getD k d) (l.getD (k + 1) d) < 0) && rise o (l.drop (k + 1)))
  | [], k, h => by simp at h
  | [_], k, h => by simp at h
  | x :: y :: r, 0, _ => rfl
  | x :: y :: r, k + 1, h => by
    rw [List.drop_succ_cons, rise_step o d (y :: r) k (by simpa using h)]
    rfl
theorem rise_end {α : Type} (o : α → α → Int) : ∀ (l : List α) (k : Nat), ¬ k + 1 < l.length → rise o (l.drop k) = true
  | [], k, _ => by simp [rise]
  | [_], 0, _ => rfl
  | [_], k + 1, _ => by simp [rise]
  | _ :: _ :: _, 0, h => absurd (by simp) h
  | x :: y :: r, k + 1, h => by
    rw [List.drop_succ_cons]
    exact rise_end o (y :: r) k (by simpa using h)
end Wr

set_option maxRecDepth 100000 in
set_option maxHeartbeats 1000000 in
theorem uOrder_any (x y : Wr.Id) (w : World) : Calls Try.prog 32 #[idVal x, idVal y] w fun e w' => e = .returned (.int .i64 (Wr.idOrd x y)) ∧ Gr w w' := by
  obtain ⟨p, n⟩ := x
  obtain ⟨q, m⟩ := y
  have HG : Hid (Gr w (((w.alloc (.cells #[.int .i64 p, .int .i64 n] 30)).alloc (.cells #[.int .i64 q, .int .i64 m] 30)))) := ((Gr.refl w).alloc _).alloc _
  have t2 := two_blocks (w := w) (o1 := .cells #[.int .i64 p, .int .i64 n] 30) (o2 := .cells #[.int .i64 q, .int .i64 m] 30) (Below.refl _ _)
  have HO : Hid (Wr.idOrd ⟨p, n⟩ ⟨q, m⟩ = Rl.orI (Rl.cmpI p q) (Rl.cmpI n m)) := rfl
  go_enter Try.func32, Try.ntmps32
  go_upto_region 1 with fail
  generalize (w.alloc (.cells #[.int .i64 p, .int .i64 n] 30)).alloc (.cells #[.int .i64 q, .int .i64 m] 30) = w2 at *
  have c0 : w2.cell? ⟨w.heap.size, 0, none⟩ = some (.int .i64 p) := by rw [Lib.cell_of_heap t2.1]; rfl
  have c1 : w2.cell? ⟨w.heap.size, 1, none⟩ = some (.int .i64 n) := by rw [Lib.cell_of_heap t2.1]; rfl
  have d0 : w2.cell? ⟨w.heap.size + 1, 0, none⟩ = some (.int .i64 q) := by rw [Lib.cell_of_heap t2.2]; rfl
  have d1 : w2.cell? ⟨w.heap.size + 1, 1, none⟩ = some (.int .i64 m) := by rw [Lib.cell_of_heap t2.2]; rfl
  clear t2
  have HGA : ∀ a b o, Gr a b → Gr a (b.alloc o) := fun _ _ o h => h.alloc o
  have HGD : ∀ a b, Gr a b → Gr a b.drew := fun _ _ h => h.drew
  have HGR : Gr w2 w2 := Gr.refl w2
  go_region_held3 (fun yy => yy.cell? ⟨w.heap.size, 0, none⟩ = some (.int .i64 p) ∧ yy.cell? ⟨w.heap.size, 1, none⟩ = some (.int .i64 n) ∧ yy.cell? ⟨w.heap.size + 1, 0, none⟩ = some (.int .i64 q) ∧ yy.cell? ⟨w.heap.size + 1, 1, none⟩ = some (.int .i64 m) ∧ Gr w2 yy) (go_keep) (first
    | (go_at_call 61; refine Calls.mono (cmpI_any _ _ _) ?_; rintro e z1 ⟨rfl, rfl⟩)
    | (go_at_call 60; refine Calls.mono (or2_any _ (Rl.cmpI p q) (Rl.cmpI n m) _ ?_ ?_) ?_; (simp); (simp); rintro e z1 ⟨rfl, rfl⟩))
  have HF : Hid (Gr w (w2.alloc (.cells #[.int .i64 (Rl.cmpI p q), .int .i64 (Rl.cmpI n m)] 3)).drew) := (HG.out.alloc _).drew
  clear HGA HGD HGR c0 c1 d0 d1 HG
  go_wp2_with fail
  go_ret
  exact ⟨by rw [HO.out]; rfl, HF.out⟩

set_option maxRecDepth 100000 in
set_option maxHeartbeats 1000000 in
theorem RiseId_any (l : List Wr.Id) (v : Value) (w : World) (hV : IdsV w v l) (hl : l.length ≤ 1000000) : Calls Try.prog 39 #[v, .func (.func 32) #[] #[]] w fun e w' => e = .returned (.bool (Wr.rise Wr.idOrd l)) ∧ Below w.heap.size w w' := by
  obtain ⟨ao, cap, rfl, _, hA⟩ := hV
  have HA : Hid (IdsAt w ao l) := hA
  clear hA
  go_enter Try.func39, Try.ntmps39
  go_wp2_with fail
  go_loopw [5] (fun iv wr => ∃ k : Nat, 1 ≤ k ∧ k ≤ l.length + 1 ∧ iv = .int .i64 k ∧ Hid (Wr.rise Wr.idOrd l = Wr.rise Wr.idOrd (l.drop (k - 1))) ∧ Below w.heap.size w wr) (fun iv _ => l.length + 2 - (intOf iv).toNat)
  case atStart => exact ⟨1, Nat.le_refl _, by omega, rfl, rfl, Below.refl _ _⟩
  case round =>
    obtain ⟨k, hk1, hk, rfl, HR, hbw⟩ := hrel
    obtain ⟨j, hkj⟩ : ∃ j, k = j + 1 := ⟨k - 1, by omega⟩
    by_cases hlt : k < l.length
    · have hltj : j < l.length := by omega
      have hwr : IntKind.i64.wrap ((k : Int) - 1) = (j : Int) := by
        have e : ((k : Int) - 1) = (j : Int) := by omega
        rw [e]
        simp [IntKind.wrap, IntKind.bits, IntKind.signed]
        omega
      have HD : Hid (Wr.rise Wr.idOrd l = (decide (Wr.idOrd (idD l j) (idD l k) < 0) && Wr.rise Wr.idOrd (l.drop j.succ))) := by
        show _ = _
        rw [HR.out, hkj, Nat.add_sub_cancel]
        exact Wr.rise_step Wr.idOrd ⟨0, 0⟩ l j (by omega)
      have HKJ : Hid (k = j + 1) := hkj
      clear hkj
      obtain ⟨b, off, rfl, p0, p1⟩ := ids_at HA.out j hltj
      obtain ⟨b2, off2, hv2, r0, r1⟩ := ids_at HA.out k hlt
      injection hv2 with hv2
      injection hv2 with hb2 ho2 _
      subst hb2 ho2
      have a0 := cell_below hbw p0
      have a1 := cell_below hbw p1
      have c0 := cell_below hbw r0
      have c1 := cell_below hbw r1
      clear p0 p1 r0 r1 HR
      generalize idD l j = x at *
      generalize idD l k = y at *
      obtain ⟨xa, xn⟩ := x
      obtain ⟨ya, yn⟩ := y
      have HN : Hid (∀ z, Below wr.heap.size wr z → Calls Try.prog 32 #[idVal ⟨xa, xn⟩, idVal ⟨ya, yn⟩] z fun e w' => e = .returned (.int .i64 (Wr.idOrd ⟨xa, xn⟩ ⟨ya, yn⟩)) ∧ Below wr.heap.size wr w' ∧ w'.cell? ⟨b, off + j * 2, none⟩ = some (.int .i64 xa) ∧ w'.cell? ⟨b, off + j * 2 + 1, none⟩ = some (.int .i64 xn) ∧ w'.cell? ⟨b, off + k * 2, none⟩ = some (.int .i64 ya) ∧ w'.cell? ⟨b, off + k * 2 + 1, none⟩ = some (.int .i64 yn)) := by
        intro z hz
        refine (uOrder_any ⟨xa, xn⟩ ⟨ya, yn⟩ z).mono ?_
        rintro e w' ⟨h1, h2⟩
        have h3 := hz.trans (h2.below.mono hz.size)
        exact ⟨h1, h3, cell_below h3 a0, cell_below h3 a1, cell_below h3 c0, cell_below h3 c1⟩
      generalize hod : Wr.idOrd ⟨xa, xn⟩ ⟨ya, yn⟩ = od at *
      have HGA : ∀ b o, Below wr.heap.size wr b → Below wr.heap.size wr (b.alloc o) := fun _ o h => h.alloc h.size o
      have HGD : ∀ b, Below wr.heap.size wr b → Below wr.heap.size wr b.drew := fun _ h => ⟨h.os, h.tape, h.output, h.size, h.block⟩
      have HGR : Below wr.heap.size wr wr := Below.refl _ _
      clear hod
      by_cases ho : 0 ≤ od
      · have hod : decide (0 ≤ od) = true := decide_eq_true ho
        have HE : Hid (Wr.rise Wr.idOrd l = false) := by
          show _ = _
          rw [HD.out, decide_eq_false (by omega)]
          rfl
        clear HD
        go_upto_region 4 with fail
        go_region_held3 (fun yy => yy.cell? ⟨b, off + j * 2, none⟩ = some (.int .i64 xa) ∧ yy.cell? ⟨b, off + j * 2 + 1, none⟩ = some (.int .i64 xn) ∧ yy.cell? ⟨b, off + k * 2, none⟩ = some (.int .i64 ya) ∧ yy.cell? ⟨b, off + k * 2 + 1, none⟩ = some (.int .i64 yn) ∧ Below wr.heap.size wr yy) (go_keep) (
          (go_at_call 32; refine Calls.mono (HN.out _ ?_) ?_; (simp [*]); rintro e w2 ⟨rfl, hb2, hz2, hz3, hz4, hz5⟩))
        clear HGA HGD HGR HN hz2 hz3 hz4 hz5
        have hb3 := hbw.trans (hb2.mono hbw.size)
        clear a0 a1 c0 c1 hb2 hbw
        go_wp2_with fail
        go_ret
        exact ⟨by rw [HE.out]; rfl, hb3⟩
      · have hod : decide (0 ≤ od) = false := decide_eq_false ho
        have HE : Hid (Wr.rise Wr.idOrd l = Wr.rise Wr.idOrd (l.drop k)) := by
          show _ = _
          rw [HD.out, decide_eq_true (by omega), Bool.true_and, HKJ.out]
        clear HD
        go_upto_region 4 with fail
        go_region_held3 (fun yy => yy.cell? ⟨b, off + j * 2, none⟩ = some (.int .i64 xa) ∧ yy.cell? ⟨b, off + j * 2 + 1, none⟩ = some (.int .i64 xn) ∧ yy.cell? ⟨b, off + k * 2, none⟩ = some (.int .i64 ya) ∧ yy.cell? ⟨b, off + k * 2 + 1, none⟩ = some (.int .i64 yn) ∧ Below wr.heap.size wr yy) (go_keep) (
          (go_at_call 32; refine Calls.mono (HN.out _ ?_) ?_; (simp [*]); rintro e w2 ⟨rfl, hb2, hz2, hz3, hz4, hz5⟩))
        clear HGA HGD HGR HN hz2 hz3 hz4 hz5
        have hb3 := hbw.trans (hb2.mono hbw.size)
        clear a0 a1 c0 c1 hb2 hbw
        go_wp2_with fail
        go_roundw
        case rel => exact ⟨k + 1, by omega, by omega, by go_num, HE.out, hb3⟩
        case measure => simp [intOf]; omega
    · have hltI : decide (k < l.length) = false := decide_eq_false hlt
      have HE : Hid (Wr.rise Wr.idOrd l = true) := HR.out.trans (Wr.rise_end Wr.idOrd l (k - 1) (by omega))
      go_wp2_with fail
      go_ret
      exact ⟨by rw [HE.out]; rfl, hbw⟩

set_option maxRecDepth 100000 in
set_option maxHeartbeats 1000000 in
theorem RiseF_any (l : List Rl.Fc) (v : Value) (w : World) (hV : FactsV w v l) (hl : l.length ≤ 1000000) (hf : ∀ f, f ∈ l → FFit f) : Calls Try.prog 43 #[v, .func (.func 44) #[] #[]] w fun e w' => e = .returned (.bool (Wr.rise Rl.ord l)) ∧ Below w.heap.size w w' := by
  obtain ⟨ao, cap, rfl, _, hA⟩ := hV
  have HA : Hid (FactsAt w ao l) := hA
  have HF : Hid (∀ f, f ∈ l → FFit f) := hf
  clear hf
  clear hA
  go_enter Try.func43, Try.ntmps43
  go_wp2_with fail
  go_loopw [5] (fun iv wr => ∃ k : Nat, 1 ≤ k ∧ k ≤ l.length + 1 ∧ iv = .int .i64 k ∧ Hid (Wr.rise Rl.ord l = Wr.rise Rl.ord (l.drop (k - 1))) ∧ Below w.heap.size w wr) (fun iv _ => l.length + 2 - (intOf iv).toNat)
  case atStart => exact ⟨1, Nat.le_refl _, by omega, rfl, rfl, Below.refl _ _⟩
  case round =>
    obtain ⟨k, hk1, hk, rfl, HR, hbw⟩ := hrel
    obtain ⟨j, hkj⟩ : ∃ j, k = j + 1 := ⟨k - 1, by omega⟩
    by_cases hlt : k < l.length
    · have hltj : j < l.length := by omega
      have hwr : IntKind.i64.wrap ((k : Int) - 1) = (j : Int) := by
        have e : ((k : Int) - 1) = (j : Int) := by omega
        rw [e]
        simp [IntKind.wrap, IntKind.bits, IntKind.signed]
        omega
      have HD : Hid (Wr.rise Rl.ord l = (decide (Rl.ord (Rl.factD l j) (Rl.factD l k) < 0) && Wr.rise Rl.ord (l.drop j.succ))) := by
        show _ = _
        rw [HR.out, hkj, Nat.add_sub_cancel]
        exact Wr.rise_step Rl.ord ⟨0, []⟩ l j (by omega)
      have HKJ : Hid (k = j + 1) := hkj
      clear hkj
      obtain ⟨b, off, rfl, p0, fv, p1, hIv⟩ := facts_at HA.out j hltj
      obtain ⟨b2, off2, hv2, r0, gv, r1, hJv⟩ := facts_at HA.out k hlt
      injection hv2 with hv2
      injection hv2 with hb2 ho2 _
      subst hb2 ho2
      have HIV : Hid (IntsV w fv (Rl.factD l j).args ∧ IntsV w gv (Rl.factD l k).args ∧ FFit (Rl.factD l j) ∧ FFit (Rl.factD l k)) := ⟨hIv, hJv, HF.out _ (factD_mem l j hltj), HF.out _ (factD_mem l k hlt)⟩
      obtain ⟨af, cf, rfl, _⟩ := hIv
      obtain ⟨ag, cg, rfl, _⟩ := hJv
      have a0 := cell_below hbw p0
      have a1 := cell_below hbw p1
      have c0 := cell_below hbw r0
      have c1 := cell_below hbw r1
      clear p0 p1 r0 r1 HR
      generalize Rl.factD l j = x at *
      generalize Rl.factD l k = y at *
      have HN : Hid (∀ z, Below wr.heap.size wr z → Calls Try.prog 44 #[fcVal x.pred (.slice af x.args.length cf), fcVal y.pred (.slice ag y.args.length cg)] z fun e w' => e = .returned (.int .i64 (Rl.ord x y)) ∧ Below wr.heap.size wr w' ∧ w'.cell? ⟨b, off + j * 2, none⟩ = some (.int .i64 x.pred) ∧ w'.cell? ⟨b, off + j * 2 + 1, none⟩ = some (.slice af x.args.length cf) ∧ w'.cell? ⟨b, off + k * 2, none⟩ = some (.int .i64 y.pred) ∧ w'.cell? ⟨b, off + k * 2 + 1, none⟩ = some (.slice ag y.args.length cg)) := by
        intro z hz
        have hzw := hbw.trans (hz.mono hbw.size)
        refine (Order_any x y _ _ z (intsV_below HIV.out.1 hzw) (intsV_below HIV.out.2.1 hzw) HIV.out.2.2.1 HIV.out.2.2.2).mono ?_
        rintro e w' ⟨h1, h2⟩
        have h3 := hz.trans (h2.below.mono hz.size)
        exact ⟨h1, h3, cell_below h3 a0, cell_below h3 a1, cell_below h3 c0, cell_below h3 c1⟩
      generalize hod : Rl.ord x y = od at *
      have HGA : ∀ b o, Below wr.heap.size wr b → Below wr.heap.size wr (b.alloc o) := fun _ o h => h.alloc h.size o
      have HGD : ∀ b, Below wr.heap.size wr b → Below wr.heap.size wr b.drew := fun _ h => ⟨h.os, h.tape, h.output, h.size, h.block⟩
      have HGR : Below wr.heap.size wr wr := Below.refl _ _
      clear hod
      by_cases ho : 0 ≤ od
      · have hod : decide (0 ≤ od) = true := decide_eq_true ho
        have HE : Hid (Wr.rise Rl.ord l = false) := by
          show _ = _
          rw [HD.out, decide_eq_false (by omega)]
          rfl
        clear HD
        go_upto_region 4 with fail
        go_region_held3 (fun yy => yy.cell? ⟨b, off + j * 2, none⟩ = some (.int .i64 x.pred) ∧ yy.cell? ⟨b, off + j * 2 + 1, none⟩ = some (.slice af x.args.length cf) ∧ yy.cell? ⟨b, off + k * 2, none⟩ = some (.int .i64 y.pred) ∧ yy.cell? ⟨b, off + k * 2 + 1, none⟩ = some (.slice ag y.args.length cg) ∧ Below wr.heap.size wr yy) (go_keep) (
          (go_at_call 44; refine Calls.mono (HN.out _ ?_) ?_; (simp [*]); rintro e w2 ⟨rfl, hb2, hz2, hz3, hz4, hz5⟩))
        clear HGA HGD HGR HN hz2 hz3 hz4 hz5
        have hb3 := hbw.trans (hb2.mono hbw.size)
        clear a0 a1 c0 c1 hb2 hbw
        go_wp2_with fail
        go_ret
        exact ⟨by rw [HE.out]; rfl, hb3⟩
      · have hod : decide (0 ≤ od) = false := decide_eq_false ho
        have HE : Hid (Wr.rise Rl.ord l = Wr.rise Rl.ord (l.drop k)) := by
          show _ = _
          rw [HD.out, decide_eq_true (by omega), Bool.true_and, HKJ.out]
        clear HD
        go_upto_region 4 with fail
        go_region_held3 (fun yy => yy.cell? ⟨b, off + j * 2, none⟩ = some (.int .i64 x.pred) ∧ yy.cell? ⟨b, off + j * 2 + 1, none⟩ = some (.slice af x.args.length cf) ∧ yy.cell? ⟨b, off + k * 2, none⟩ = some (.int .i64 y.pred) ∧ yy.cell? ⟨b, off + k * 2 + 1, none⟩ = some (.slice ag y.args.length cg) ∧ Below wr.heap.size wr yy) (go_keep) (
          (go_at_call 44; refine Calls.mono (HN.out _ ?_) ?_; (simp [*]); rintro e w2 ⟨rfl, hb2, hz2, hz3, hz4, hz5⟩))
        clear HGA HGD HGR HN hz2 hz3 hz4 hz5
        have hb3 := hbw.trans (hb2.mono hbw.size)
        clear a0 a1 c0 c1 hb2 hbw
        go_wp2_with fail
        go_roundw
        case rel => exact ⟨k + 1, by omega, by omega, by go_num, HE.out, hb3⟩
        case measure => simp [intOf]; omega
    · have hltI : decide (k < l.length) = false := decide_eq_false hlt
      have HE : Hid (Wr.rise Rl.ord l = true) := HR.out.trans (Wr.rise_end Rl.ord l (k - 1) (by omega))
      go_wp2_with fail
      go_ret
      exact ⟨by rw [HE.out]; rfl, hbw⟩

end Go.Proofs.Ytmfaodapofamfaa

/- Whether some of a list is so. -/
namespace Go.Proofs.Ytmfaodapofamfaa
open Go.RowKit
theorem any_step {α : Type} (P : α → Bool) (d : α) (l : List α) (k : Nat) (hk : k < l.length) (h : l.any P = (l.drop k).any P) : l.any P = (P (l.getD k d) || (l.drop (k + 1)).any P) := by
  rw [h, List.drop_eq_getElem_cons hk, List.any_cons, List.getD_eq_getElem?_getD, List.getElem?_eq_getElem hk]
  rfl
theorem any_end {α : Type} (P : α → Bool) (l : List α) (k : Nat) (hk : ¬ k < l.length) (h : l.any P = (l.drop k).any P) : l.any P = false := by
  rw [h, List.drop_of_length_le (by omega)]
  rfl

set_option maxRecDepth 100000 in
set_option maxHeartbeats 1000000 in
theorem wrongNum_any (n : Int) (w : World) : Calls Try.prog 66 #[.int .i64 n] w fun e w' => e = .returned (.bool (!Wr.numOk n)) ∧ w' = w := by
  have HR : Hid (Wr.numOk n = (decide (-1000000 ≤ n) && decide (n ≤ 1000000))) := by
    show _ = _
    unfold Wr.numOk
    simp only [Bool.decide_and]
  by_cases h1 : n < -1000000
  · have d1 : decide (n < -1000000) = true := decide_eq_true h1
    go_enter Try.func66, Try.ntmps66
    go_wp2_with fail
    go_ret
    exact ⟨by rw [HR.out, decide_eq_false (p := -1000000 ≤ n) (by omega)]; rfl, rfl⟩
  · have d1 : decide (n < -1000000) = false := decide_eq_false h1
    by_cases h2 : 1000000 < n
    · have d2 : decide (1000000 < n) = true := decide_eq_true h2
      go_enter Try.func66, Try.ntmps66
      go_wp2_with fail
      go_ret
      exact ⟨by rw [HR.out, decide_eq_true (p := -1000000 ≤ n) (by omega), decide_eq_false (p := n ≤ 1000000) (by omega)]; rfl, rfl⟩
    · have d2 : decide (1000000 < n) = false := decide_eq_false h2
      go_enter Try.func66, Try.ntmps66
      go_wp2_with fail
      go_ret
      exact ⟨by rw [HR.out, decide_eq_true (p := -1000000 ≤ n) (by omega), decide_eq_true (p := n ≤ 1000000) (by omega)]; rfl, rfl⟩

set_option maxRecDepth 100000 in
set_option maxHeartbeats 1000000 in
theorem indexN_any (l : List Int) (v : Value) (w : World) (hV : IntsV w v l) (hl : l.length ≤ 1000000) : Calls Try.prog 77 #[v, .func (.func 66) #[] #[]] w fun e w' => ∃ r : Int, e = .returned (.int .i64 r) ∧ (decide (0 ≤ r) = l.any (fun n => !Wr.numOk n)) ∧ Below w.heap.size w w' := by
  obtain ⟨ao, cap, rfl, hA⟩ := hV
  have HA : Hid (IntsAt w ao l) := hA
  clear hA
  go_enter Try.func77, Try.ntmps77
  go_wp2_with fail
  go_loopw [8] (fun iv wr => ∃ k : Nat, k ≤ l.length ∧ iv = .int .i64 k ∧ Hid (l.any (fun n => !Wr.numOk n) = (l.drop k).any (fun n => !Wr.numOk n)) ∧ Below w.heap.size w wr) (fun iv _ => l.length - (intOf iv).toNat)
  case atStart => exact ⟨0, Nat.zero_le _, rfl, rfl, Below.refl _ _⟩
  case round =>
    obtain ⟨k, hk, rfl, HR, hbw⟩ := hrel
    by_cases hlt : k < l.length
    · have HD : Hid _ := any_step (fun n => !Wr.numOk n) 0 l k hlt HR.out
      obtain ⟨b, off, rfl, p0⟩ := ints_at HA.out k hlt
      have a0 := cell_below hbw p0
      clear p0 HR
      have HD2 : Hid (l.any (fun n => !Wr.numOk n) = ((fun n => !Wr.numOk n) (Sc.intD l k) || (l.drop (k + 1)).any (fun n => !Wr.numOk n))) := HD.out
      clear HD
      generalize Sc.intD l k = x at *
      have HC : Hid (∀ z, Calls Try.prog 66 #[.int .i64 x] z fun e w' => e = .returned (.bool ((fun n => !Wr.numOk n) x)) ∧ Below z.heap.size z w') := fun z => (wrongNum_any x z).mono fun e w' h => ⟨h.1, by rw [h.2]; exact Below.refl _ _⟩
      generalize (fun n => !Wr.numOk n) x = bx at *
      cases bx
      · go_wp2_with (go_at_call 66; refine Calls.mono (HC.out _) ?_; rintro e z1 ⟨rfl, hg1⟩)
        have hb1 := hbw.trans (hg1.mono hbw.size)
        go_roundw
        case rel => exact ⟨k + 1, hlt, by go_num, HD2.out.trans (by rw [Bool.false_or]), hb1⟩
        case measure => simp [intOf]; omega
      · go_wp2_with (go_at_call 66; refine Calls.mono (HC.out _) ?_; rintro e z1 ⟨rfl, hg1⟩)
        go_ret
        exact ⟨k, rfl, by rw [HD2.out, decide_eq_true (by omega)]; rfl, hbw.trans (hg1.mono hbw.size)⟩
    · have hdd : decide (k < l.length) = false := decide_eq_false hlt
      have HE : Hid (l.any (fun n => !Wr.numOk n) = false) := any_end (fun n => !Wr.numOk n) l k hlt HR.out
      go_wp2_with fail
      go_ret
      exact ⟨-1, rfl, by rw [HE.out]; rfl, hbw⟩

set_option maxRecDepth 100000 in
set_option maxHeartbeats 1000000 in
theorem containsN_any (l : List Int) (v : Value) (w : World) (hV : IntsV w v l) (hl : l.length ≤ 1000000) : Calls Try.prog 65 #[v, .func (.func 66) #[] #[]] w fun e w' => e = .returned (.bool (l.any (fun n => !Wr.numOk n))) ∧ Below w.heap.size w w' := by
  obtain ⟨ao, cap, rfl, _⟩ := id hV
  have HC : Hid _ := indexN_any l _ w hV hl
  generalize l.any (fun n => !Wr.numOk n) = bb at *
  clear hV
  go_enter Try.func65, Try.ntmps65
  go_wp2_with (go_at_call 77; refine Calls.mono HC.out ?_; rintro e z1 ⟨r, rfl, hr, hg1⟩)
  go_ret
  exact ⟨by rw [← hr]; rfl, hg1⟩

set_option maxRecDepth 100000 in
set_option maxHeartbeats 1000000 in
theorem wrongFact_any (f : Rl.Fc) (v : Value) (w : World) (hV : IntsV w v f.args) (hf : FFit f) : Calls Try.prog 42 #[fcVal f.pred v] w fun e w' => e = .returned (.bool (!Wr.factOk f)) ∧ Below w.heap.size w w' := by
  obtain ⟨p, x⟩ := f
  have hV : IntsV w v x := hV
  have hf : x.length ≤ 9223372036854775807 := hf
  obtain ⟨ao, cap, rfl, _⟩ := id hV
  have hb : Below w.heap.size w (w.alloc (.cells #[.int .i64 p, .slice ao x.length cap] 51)) := (Gr.refl w).alloc _ |>.below
  have HC : Hid (x.length ≤ 1000000 → Calls Try.prog 65 #[.slice ao x.length cap, .func (.func 66) #[] #[]] (w.alloc (.cells #[.int .i64 p, .slice ao x.length cap] 51)) fun e w' => e = .returned (.bool (x.any (fun n => !Wr.numOk n))) ∧ Below (w.alloc (.cells #[.int .i64 p, .slice ao x.length cap] 51)).heap.size (w.alloc (.cells #[.int .i64 p, .slice ao x.length cap] 51)) w') := fun h => containsN_any x _ _ (intsV_below hV hb) h
  have HBL : Hid _ := hb
  have HB : Hid _ := heap_alloc_new w (.cells #[.int .i64 p, .slice ao x.length cap] 51)
  have HR : Hid ((!Wr.factOk ⟨p, x⟩) = (!decide (0 ≤ p) || (!decide (p ≤ 9) || (!decide (x.length ≤ 3) || x.any (fun n => !Wr.numOk n))))) := by
    show _ = _
    unfold Wr.factOk
    simp only [Bool.decide_and, Bool.not_and, Bool.or_assoc]
    rw [List.not_all_eq_any_not]
  clear hV hb
  go_enter Try.func42, Try.ntmps42
  go_upto_region 1 with fail
  generalize w.alloc (.cells #[.int .i64 p, .slice ao x.length cap] 51) = w2 at *
  have c0 : w2.cell? ⟨w.heap.size, 0, none⟩ = some (.int .i64 p) := by rw [Lib.cell_of_heap HB.out]; rfl
  have c1 : w2.cell? ⟨w.heap.size, 1, none⟩ = some (.slice ao x.length cap) := by rw [Lib.cell_of_heap HB.out]; rfl
  by_cases h1 : p < 0
  · have d1 : decide (p < 0) = true := decide_eq_true h1
    go_wp2_with fail
    go_ret
    exact ⟨by rw [HR.out, decide_eq_false (p := 0 ≤ p) (by omega)]; rfl, HBL.out⟩
  · have d1 : decide (p < 0) = false := decide_eq_false h1
    by_cases h2 : 10 ≤ p
    · have d2 : decide (10 ≤ p) = true := decide_eq_true h2
      go_wp2_with fail
      go_ret
      exact ⟨by rw [HR.out, decide_eq_true (p := 0 ≤ p) (by omega), decide_eq_false (p := p ≤ 9) (by omega)]; rfl, HBL.out⟩
    · have d2 : decide (10 ≤ p) = false := decide_eq_false h2
      by_cases h3 : 3 < x.length
      · have d3 : decide (3 < x.length) = true := decide_eq_true h3
        have d3i : decide ((3 : Int) < (x.length : Int)) = true := decide_eq_true (by omega)
        go_wp2_with fail
        go_ret
        exact ⟨by rw [HR.out, decide_eq_true (p := 0 ≤ p) (by omega), decide_eq_true (p := p ≤ 9) (by omega), decide_eq_false (p := x.length ≤ 3) (by omega)]; rfl, HBL.out⟩
      · have d3 : decide (3 < x.length) = false := decide_eq_false h3
        have d3i : decide ((3 : Int) < (x.length : Int)) = false := decide_eq_false (by omega)
        have HC2 : Hid _ := HC.out (by omega)
        rw [decide_eq_true (p := 0 ≤ p) (by omega), decide_eq_true (p := p ≤ 9) (by omega), decide_eq_true (p := x.length ≤ 3) (by omega)] at HR
        generalize x.any (fun n => !Wr.numOk n) = bb at *
        clear HC
        go_wp2_with (go_at_call 65; refine Calls.mono HC2.out ?_; rintro e z1 ⟨rfl, hg1⟩)
        go_ret
        exact ⟨by rw [HR.out]; rfl, HBL.out.trans (hg1.mono HBL.out.size)⟩

set_option maxRecDepth 100000 in
set_option maxHeartbeats 1000000 in
theorem indexId_any (l : List Wr.Id) (v : Value) (w : World) (hV : IdsV w v l) (hl : l.length ≤ 1000000) : Calls Try.prog 62 #[v, .func (.func 37) #[] #[]] w fun e w' => ∃ r : Int, e = .returned (.int .i64 r) ∧ (decide (0 ≤ r) = l.any (fun x => !Wr.isId x)) ∧ Below w.heap.size w w' := by
  obtain ⟨ao, cap, rfl, _, hA⟩ := hV
  have HA : Hid (IdsAt w ao l) := hA
  clear hA
  go_enter Try.func62, Try.ntmps62
  go_wp2_with fail
  go_loopw [8] (fun iv wr => ∃ k : Nat, k ≤ l.length ∧ iv = .int .i64 k ∧ Hid (l.any (fun x => !Wr.isId x) = (l.drop k).any (fun x => !Wr.isId x)) ∧ Below w.heap.size w wr) (fun iv _ => l.length - (intOf iv).toNat)
  case atStart => exact ⟨0, Nat.zero_le _, rfl, rfl, Below.refl _ _⟩
  case round =>
    obtain ⟨k, hk, rfl, HR, hbw⟩ := hrel
    by_cases hlt : k < l.length
    · have HD : Hid _ := any_step (fun x => !Wr.isId x) ⟨0, 0⟩ l k hlt HR.out
      obtain ⟨b, off, rfl, p0, p1⟩ := ids_at HA.out k hlt
      have a0 := cell_below hbw p0
      have a1 := cell_below hbw p1
      clear p0 p1 HR
      have HD2 : Hid (l.any (fun x => !Wr.isId x) = ((fun x => !Wr.isId x) (idD l k) || (l.drop (k + 1)).any (fun x => !Wr.isId x))) := HD.out
      clear HD
      generalize idD l k = x at *
      obtain ⟨xa, xn⟩ := x
      have HC : Hid (∀ z, Calls Try.prog 37 #[idVal ⟨xa, xn⟩] z fun e w' => e = .returned (.bool ((fun x => !Wr.isId x) ⟨xa, xn⟩)) ∧ Below z.heap.size z w') := fun z => (isWrongId_any ⟨xa, xn⟩ z).mono fun e w' h => ⟨h.1, h.2.below⟩
      generalize (fun x => !Wr.isId x) ⟨xa, xn⟩ = bx at *
      cases bx
      · go_wp2_with (go_at_call 37; refine Calls.mono (HC.out _) ?_; rintro e z1 ⟨rfl, hg1⟩)
        have hb1 := hbw.trans (hg1.mono hbw.size)
        go_roundw
        case rel => exact ⟨k + 1, hlt, by go_num, HD2.out.trans (by rw [Bool.false_or]), hb1⟩
        case measure => simp [intOf]; omega
      · go_wp2_with (go_at_call 37; refine Calls.mono (HC.out _) ?_; rintro e z1 ⟨rfl, hg1⟩)
        go_ret
        exact ⟨k, rfl, by rw [HD2.out, decide_eq_true (by omega)]; rfl, hbw.trans (hg1.mono hbw.size)⟩
    · have hdd : decide (k < l.length) = false := decide_eq_false hlt
      have HE : Hid (l.any (fun x => !Wr.isId x) = false) := any_end (fun x => !Wr.isId x) l k hlt HR.out
      go_wp2_with fail
      go_ret
      exact ⟨-1, rfl, by rw [HE.out]; rfl, hbw⟩

set_option maxRecDepth 100000 in
set_option maxHeartbeats 1000000 in
theorem containsId_any (l : List Wr.Id) (v : Value) (w : World) (hV : IdsV w v l) (hl : l.length ≤ 1000000) : Calls Try.prog 38 #[v, .func (.func 37) #[] #[]] w fun e w' => e = .returned (.bool (l.any (fun x => !Wr.isId x))) ∧ Below w.heap.size w w' := by
  obtain ⟨ao, cap, rfl, _⟩ := id hV
  have HC : Hid _ := indexId_any l _ w hV hl
  generalize l.any (fun x => !Wr.isId x) = bb at *
  clear hV
  go_enter Try.func38, Try.ntmps38
  go_wp2_with (go_at_call 62; refine Calls.mono HC.out ?_; rintro e z1 ⟨r, rfl, hr, hg1⟩)
  go_ret
  exact ⟨by rw [← hr]; rfl, hg1⟩

set_option maxRecDepth 100000 in
set_option maxHeartbeats 1000000 in
theorem indexF_any (l : List Rl.Fc) (v : Value) (w : World) (hV : FactsV w v l) (hl : l.length ≤ 1000000) (hf : ∀ f, f ∈ l → FFit f) : Calls Try.prog 64 #[v, .func (.func 42) #[] #[]] w fun e w' => ∃ r : Int, e = .returned (.int .i64 r) ∧ (decide (0 ≤ r) = l.any (fun x => !Wr.factOk x)) ∧ Below w.heap.size w w' := by
  obtain ⟨ao, cap, rfl, _, hA⟩ := hV
  have HA : Hid (FactsAt w ao l) := hA
  have HF : Hid (∀ f, f ∈ l → FFit f) := hf
  clear hf
  clear hA
  go_enter Try.func64, Try.ntmps64
  go_wp2_with fail
  go_loopw [8] (fun iv wr => ∃ k : Nat, k ≤ l.length ∧ iv = .int .i64 k ∧ Hid (l.any (fun x => !Wr.factOk x) = (l.drop k).any (fun x => !Wr.factOk x)) ∧ Below w.heap.size w wr) (fun iv _ => l.length - (intOf iv).toNat)
  case atStart => exact ⟨0, Nat.zero_le _, rfl, rfl, Below.refl _ _⟩
  case round =>
    obtain ⟨k, hk, rfl, HR, hbw⟩ := hrel
    by_cases hlt : k < l.length
    · have HD : Hid _ := any_step (fun x => !Wr.factOk x) ⟨0, []⟩ l k hlt HR.out
      obtain ⟨b, off, rfl, p0, fv, p1, hIv⟩ := facts_at HA.out k hlt
      have a0 := cell_below hbw p0
      have a1 := cell_below hbw p1
      have HFI : Hid (FFit (Rl.factD l k)) := HF.out _ (factD_mem l k hlt)
      have HIV : Hid (IntsV wr fv (Rl.factD l k).args) := intsV_below hIv hbw
      obtain ⟨af, cf, rfl, _⟩ := hIv
      clear p0 p1 HR
      have HD2 : Hid (l.any (fun x => !Wr.factOk x) = ((fun x => !Wr.factOk x) (Rl.factD l k) || (l.drop (k + 1)).any (fun x => !Wr.factOk x))) := HD.out
      clear HD
      generalize Rl.factD l k = x at *
      have HC : Hid (∀ z, z = wr → Calls Try.prog 42 #[fcVal x.pred (.slice af x.args.length cf)] z fun e w' => e = .returned (.bool ((fun x => !Wr.factOk x) x)) ∧ Below z.heap.size z w') := fun z hz => wrongFact_any x _ z (by rw [hz]; exact HIV.out) HFI.out
      generalize (fun x => !Wr.factOk x) x = bx at *
      cases bx
      · go_wp2_with (go_at_call 42; refine Calls.mono (HC.out _ rfl) ?_; rintro e z1 ⟨rfl, hg1⟩)
        have hb1 := hbw.trans (hg1.mono hbw.size)
        go_roundw
        case rel => exact ⟨k + 1, hlt, by go_num, HD2.out.trans (by rw [Bool.false_or]), hb1⟩
        case measure => simp [intOf]; omega
      · go_wp2_with (go_at_call 42; refine Calls.mono (HC.out _ rfl) ?_; rintro e z1 ⟨rfl, hg1⟩)
        go_ret
        exact ⟨k, rfl, by rw [HD2.out, decide_eq_true (by omega)]; rfl, hbw.trans (hg1.mono hbw.size)⟩
    · have hdd : decide (k < l.length) = false := decide_eq_false hlt
      have HE : Hid (l.any (fun x => !Wr.factOk x) = false) := any_end (fun x => !Wr.factOk x) l k hlt HR.out
      go_wp2_with fail
      go_ret
      exact ⟨-1, rfl, by rw [HE.out]; rfl, hbw⟩

set_option maxRecDepth 100000 in
set_option maxHeartbeats 1000000 in
theorem containsF_any (l : List Rl.Fc) (v : Value) (w : World) (hV : FactsV w v l) (hl : l.length ≤ 1000000) (hf : ∀ f, f ∈ l → FFit f) : Calls Try.prog 41 #[v, .func (.func 42) #[] #[]] w fun e w' => e = .returned (.bool (l.any (fun x => !Wr.factOk x))) ∧ Below w.heap.size w w' := by
  obtain ⟨ao, cap, rfl, _⟩ := id hV
  have HC : Hid _ := indexF_any l _ w hV hl hf
  generalize l.any (fun x => !Wr.factOk x) = bb at *
  clear hV hf
  go_enter Try.func41, Try.ntmps41
  go_wp2_with (go_at_call 64; refine Calls.mono HC.out ?_; rintro e z1 ⟨r, rfl, hr, hg1⟩)
  go_ret
  exact ⟨by rw [← hr]; rfl, hg1⟩

end Go.Proofs.Ytmfaodapofamfaa

/- Check of an update. -/
namespace Go.Proofs.Ytmfaodapofamfaa
open Go.RowKit
abbrev upVal (u : Wr.Up) (vp vs vt : Value) : Value := .agg #[.int .i64 u.id.a, .int .i64 u.id.n, vp, vs, vt]
theorem beqId (x y : Wr.Id) : (x == y) = ((x.a == y.a) && (x.n == y.n)) := by
  rw [Bool.eq_iff_iff, beq_iff_eq, Bool.and_eq_true, beq_iff_eq, beq_iff_eq]
  obtain ⟨a, n⟩ := x
  obtain ⟨b, m⟩ := y
  rw [Wr.Id.mk.injEq]
def Wr.has (l : List Wr.Id) (x : Wr.Id) : Bool := l.contains x
theorem any_has (l : List Wr.Id) (x : Wr.Id) : Wr.has l x = l.any (fun y => y == x) := by
  unfold Wr.has
  rw [List.contains_eq_any_beq]
  congr 1
  funext y
  rw [Bool.eq_iff_iff, beq_iff_eq, beq_iff_eq]
  exact eq_comm

set_option maxRecDepth 100000 in
set_option maxHeartbeats 1000000 in
theorem indexOf_any (l : List Wr.Id) (x : Wr.Id) (v : Value) (w : World) (hV : IdsV w v l) (hl : l.length ≤ 1000000) : Calls Try.prog 76 #[v, idVal x] w fun e w' => ∃ r : Int, e = .returned (.int .i64 r) ∧ (decide (0 ≤ r) = Wr.has l x) ∧ Below w.heap.size w w' := by
  obtain ⟨ao, cap, rfl, _, hA⟩ := hV
  obtain ⟨xa, xn⟩ := x
  have HA : Hid (IdsAt w ao l) := hA
  have HG : Hid (Below w.heap.size w (w.alloc (.cells #[.int .i64 xa, .int .i64 xn] 30))) := ((Gr.refl w).alloc _).below
  have HB : Hid _ := heap_alloc_new w (.cells #[.int .i64 xa, .int .i64 xn] 30)
  clear hA
  go_enter Try.func76, Try.ntmps76
  go_upto_region 1 with fail
  generalize w.alloc (.cells #[.int .i64 xa, .int .i64 xn] 30) = w2 at *
  have c0 : w2.cell? ⟨w.heap.size, 0, none⟩ = some (.int .i64 xa) := by rw [Lib.cell_of_heap HB.out]; rfl
  have c1 : w2.cell? ⟨w.heap.size, 1, none⟩ = some (.int .i64 xn) := by rw [Lib.cell_of_heap HB.out]; rfl
  clear HB
  go_wp2_with fail
  go_loopw [8] (fun iv wr => ∃ k nq : Nat, k ≤ l.length ∧ iv = .int .i64 k ∧ Hid (l.any (fun y => y == (⟨xa, xn⟩ : Wr.Id)) = (l.drop k).any (fun y => y == (⟨xa, xn⟩ : Wr.Id))) ∧ wr = w2.drewN nq) (fun iv _ => l.length - (intOf iv).toNat)
  case atStart => exact ⟨0, 0, Nat.zero_le _, rfl, rfl, rfl⟩
  case round =>
    obtain ⟨k, nq, hk, rfl, HR, rfl⟩ := hrel
    have HBW : Hid (Below w.heap.size w (w2.drewN nq)) := HG.out.trans ((blw_drewN w2 nq).mono HG.out.size)
    by_cases hlt : k < l.length
    · have HD : Hid _ := any_step (fun y => y == (⟨xa, xn⟩ : Wr.Id)) ⟨0, 0⟩ l k hlt HR.out
      obtain ⟨b, off, rfl, p0, p1⟩ := ids_at HA.out k hlt
      have a0 := cell_below HG.out p0
      have a1 := cell_below HG.out p1
      clear p0 p1 HR
      have HD2 : Hid (l.any (fun y => y == (⟨xa, xn⟩ : Wr.Id)) = ((idD l k == (⟨xa, xn⟩ : Wr.Id)) || (l.drop (k + 1)).any (fun y => y == (⟨xa, xn⟩ : Wr.Id)))) := HD.out
      clear HD
      generalize idD l k = z at *
      obtain ⟨za, zn⟩ := z
      rw [beqId] at HD2
      by_cases e1 : za = xa
      · by_cases e2 : zn = xn
        · subst e1 e2
          have g1 : (za == za) = true := by simp
          have g2 : (zn == zn) = true := by simp
          have HE : Hid (l.any (fun y => y == (⟨za, zn⟩ : Wr.Id)) = true) := by
            show _ = _
            rw [HD2.out]
            simp
          go_upto_region 4 with fail
          go_quiet (fail)
          go_wp2_with fail
          go_ret
          exact ⟨k, rfl, by rw [any_has, HE.out, decide_eq_true (by omega)], HG.out.trans ((blw_drewN w2 _).mono HG.out.size)⟩
        · have g2 : (zn == xn) = false := by simpa using e2
          have g3 : (xn == zn) = false := by simpa using fun h => e2 h.symm
          subst e1
          have g1 : (za == za) = true := by simp
          have HE : Hid (l.any (fun y => y == (⟨za, xn⟩ : Wr.Id)) = (l.drop (k + 1)).any (fun y => y == (⟨za, xn⟩ : Wr.Id))) := by
            show _ = _
            rw [HD2.out, g2, Bool.and_false, Bool.false_or]
          clear HD2 e2
          go_upto_region 4 with fail
          go_quiet (fail)
          go_wp2_with fail
          go_roundw
          case rel => exact ⟨k + 1, _, hlt, by go_num, HE.out, rfl⟩
          case measure => simp [intOf]; omega
      · have g1 : (za == xa) = false := by simpa using e1
        have g3 : (xa == za) = false := by simpa using fun h => e1 h.symm
        have HE : Hid (l.any (fun y => y == (⟨xa, xn⟩ : Wr.Id)) = (l.drop (k + 1)).any (fun y => y == (⟨xa, xn⟩ : Wr.Id))) := by
          show _ = _
          rw [HD2.out, g1, Bool.false_and, Bool.false_or]
        clear HD2 e1
        go_upto_region 4 with fail
        go_quiet (fail)
        go_wp2_with fail
        go_roundw
        case rel => exact ⟨k + 1, _, hlt, by go_num, HE.out, rfl⟩
        case measure => simp [intOf]; omega
    · have hdd : decide (k < l.length) = false := decide_eq_false hlt
      have HE : Hid (l.any (fun y => y == (⟨xa, xn⟩ : Wr.Id)) = false) := any_end _ l k hlt HR.out
      go_wp2_with fail
      go_ret
      exact ⟨-1, rfl, by rw [any_has, HE.out]; rfl, HBW.out⟩

set_option maxRecDepth 100000 in
set_option maxHeartbeats 1000000 in
theorem contains_any (l : List Wr.Id) (x : Wr.Id) (v : Value) (w : World) (hV : IdsV w v l) (hl : l.length ≤ 1000000) : Calls Try.prog 63 #[v, idVal x] w fun e w' => e = .returned (.bool (Wr.has l x)) ∧ Below w.heap.size w w' := by
  obtain ⟨ao, cap, rfl, _⟩ := id hV
  obtain ⟨xa, xn⟩ := x
  have HC : Hid (∀ z, Below w.heap.size w z → Calls Try.prog 76 #[.slice ao l.length cap, idVal ⟨xa, xn⟩] z fun e w' => ∃ r : Int, e = .returned (.int .i64 r) ∧ (decide (0 ≤ r) = Wr.has l ⟨xa, xn⟩) ∧ Below w.heap.size w w') := fun z hz => (indexOf_any l ⟨xa, xn⟩ _ z (idsV_below hV hz) hl).mono fun e w' ⟨r, h1, h2, h3⟩ => ⟨r, h1, h2, hz.trans (h3.mono hz.size)⟩
  have HG : Hid (Below w.heap.size w (w.alloc (.cells #[.int .i64 xa, .int .i64 xn] 30))) := ((Gr.refl w).alloc _).below
  have HB : Hid _ := heap_alloc_new w (.cells #[.int .i64 xa, .int .i64 xn] 30)
  generalize Wr.has l ⟨xa, xn⟩ = bb at *
  clear hV
  go_enter Try.func63, Try.ntmps63
  go_upto_region 1 with fail
  generalize w.alloc (.cells #[.int .i64 xa, .int .i64 xn] 30) = w2 at *
  have c0 : w2.cell? ⟨w.heap.size, 0, none⟩ = some (.int .i64 xa) := by rw [Lib.cell_of_heap HB.out]; rfl
  have c1 : w2.cell? ⟨w.heap.size, 1, none⟩ = some (.int .i64 xn) := by rw [Lib.cell_of_heap HB.out]; rfl
  go_wp2_with (go_at_call 76; refine Calls.mono (HC.out _ HG.out) ?_; rintro e z1 ⟨r, rfl, hr, hg1⟩)
  go_ret
  exact ⟨by rw [← hr]; rfl, hg1⟩

end Go.Proofs.Ytmfaodapofamfaa

/- Check of an update. -/
namespace Go.Proofs.Ytmfaodapofamfaa
open Go.RowKit

set_option maxRecDepth 100000 in
set_option maxHeartbeats 1000000 in
theorem lacks_any (u : Wr.Up) (vp vs vt : Value) (w : World) (hP : IdsV w vp u.ps) (hpl : u.ps.length ≤ 6) (hn : 1 ≤ u.id.n ∧ u.id.n ≤ 200) : Calls Try.prog 40 #[upVal u vp vs vt] w fun e w' => e = .returned (.bool (Wr.lacks u)) ∧ Below w.heap.size w w' := by
  obtain ⟨⟨a, n⟩, ps, says, ts⟩ := u
  have hP : IdsV w vp ps := hP
  have hpl : ps.length ≤ 6 := hpl
  have hn : 1 ≤ n ∧ n ≤ 200 := hn
  obtain ⟨ao, cap, rfl, _⟩ := id hP
  have HG : Hid (Below w.heap.size w (w.alloc (.cells #[.int .i64 a, .int .i64 n, .slice ao ps.length cap, vs, vt] 34))) := ((Gr.refl w).alloc _).below
  have HB : Hid _ := heap_alloc_new w (.cells #[.int .i64 a, .int .i64 n, .slice ao ps.length cap, vs, vt] 34)
  have HC : Hid (∀ z, Below w.heap.size w z → Calls Try.prog 63 #[.slice ao ps.length cap, idVal ⟨a, n - 1⟩] z fun e w' => e = .returned (.bool (Wr.has ps ⟨a, n - 1⟩)) ∧ Below w.heap.size w w') := fun z hz => (contains_any ps ⟨a, n - 1⟩ _ z (idsV_below hP hz) (by omega)).mono fun e w' h => ⟨h.1, hz.trans (h.2.mono hz.size)⟩
  have HR : Hid (Wr.lacks ⟨⟨a, n⟩, ps, says, ts⟩ = (decide (1 < n) && !Wr.has ps ⟨a, n - 1⟩)) := rfl
  have hwr : IntKind.i64.wrap (n - 1) = n - 1 := by
    simp [IntKind.wrap, IntKind.bits, IntKind.signed]
    omega
  generalize Wr.has ps ⟨a, n - 1⟩ = bb at *
  clear hP
  go_enter Try.func40, Try.ntmps40
  go_upto_region 1 with fail
  generalize w.alloc (.cells #[.int .i64 a, .int .i64 n, .slice ao ps.length cap, vs, vt] 34) = w2 at *
  have c0 : w2.cell? ⟨w.heap.size, 0, none⟩ = some (.int .i64 a) := by rw [Lib.cell_of_heap HB.out]; rfl
  have c1 : w2.cell? ⟨w.heap.size, 1, none⟩ = some (.int .i64 n) := by rw [Lib.cell_of_heap HB.out]; rfl
  have c2 : w2.cell? ⟨w.heap.size, 2, none⟩ = some (.slice ao ps.length cap) := by rw [Lib.cell_of_heap HB.out]; rfl
  have HB3 : Hid _ := heap_alloc_new w2 (.cells #[.int .i64 a, .int .i64 (n - 1)] 30)
  have HG3 : Hid (Below w2.heap.size w2 (w2.alloc (.cells #[.int .i64 a, .int .i64 (n - 1)] 30))) := ((Gr.refl w2).alloc _).below
  go_upto_region 2 with fail
  generalize w2.alloc (.cells #[.int .i64 a, .int .i64 (n - 1)] 30) = w3 at *
  have e0 : w3.cell? ⟨w2.heap.size, 0, none⟩ = some (.int .i64 a) := by rw [Lib.cell_of_heap HB3.out]; rfl
  have e1 : w3.cell? ⟨w2.heap.size, 1, none⟩ = some (.int .i64 (n - 1)) := by rw [Lib.cell_of_heap HB3.out]; rfl
  have f2 := cell_below HG3.out c2
  have HGW : Hid (Below w.heap.size w w3) := HG.out.trans (HG3.out.mono HG.out.size)
  clear HB HB3 c0 c1 c2
  by_cases h1 : 0 < n - 1
  · have d1 : decide (0 < n - 1) = true := decide_eq_true h1
    have d2 : Hid (decide (1 < n) = true) := decide_eq_true (by omega)
    generalize n - 1 = m at *
    go_wp2_with (go_at_call 63; refine Calls.mono (HC.out _ HGW.out) ?_; rintro e z1 ⟨rfl, hg1⟩)
    go_ret
    exact ⟨by rw [HR.out, d2.out]; rfl, hg1⟩
  · have d1 : decide (0 < n - 1) = false := decide_eq_false h1
    have d2 : Hid (decide (1 < n) = false) := decide_eq_false (by omega)
    generalize n - 1 = m at *
    go_wp2_with fail
    go_ret
    exact ⟨by rw [HR.out, d2.out]; rfl, HGW.out⟩

set_option maxRecDepth 100000 in
set_option maxHeartbeats 8000000 in
theorem Check_any (u : Wr.Up) (vp vs vt : Value) (w : World) (hP : IdsV w vp u.ps) (hS : FactsV w vs u.says) (hT : IdsV w vt u.ts) (hF : ∀ f, f ∈ u.says → FFit f) (hl : u.ps.length ≤ 9223372036854775807 ∧ u.says.length ≤ 9223372036854775807 ∧ u.ts.length ≤ 9223372036854775807) :
    Calls Try.prog 23 #[upVal u vp vs vt] w fun e w' => e = .returned (.int .i64 (Wr.check u)) ∧ Below w.heap.size w w' := by
  obtain ⟨⟨a, n⟩, ps, says, ts⟩ := u
  dsimp only at hP hS hT hF hl
  obtain ⟨ap, cp, rfl, _⟩ := id hP
  obtain ⟨as_, cs, rfl, _⟩ := id hS
  obtain ⟨at_, ct, rfl, _⟩ := id hT
  have HK : Hid (Wr.check ⟨⟨a, n⟩, ps, says, ts⟩ = if Wr.isId ⟨a, n⟩ = false then 3
    else if 6 < ps.length ∨ 6 < says.length ∨ 6 < ts.length then 2
    else if ps.all Wr.isId = false ∨ ts.all Wr.isId = false then 3
    else if Wr.rise Wr.idOrd ps = false ∨ Wr.rise Wr.idOrd ts = false then 4
    else if Wr.lacks ⟨⟨a, n⟩, ps, says, ts⟩ = true then 5
    else if says.all Wr.factOk = false then 3
    else if Wr.rise Rl.ord says = false then 4 else 0) := rfl
  have hG : Below w.heap.size w (w.alloc (.cells #[.int .i64 a, .int .i64 n, .slice ap ps.length cp, .slice as_ says.length cs, .slice at_ ts.length ct] 34)) := ((Gr.refl w).alloc _).below
  have hB := heap_alloc_new w (.cells #[.int .i64 a, .int .i64 n, .slice ap ps.length cp, .slice as_ says.length cs, .slice at_ ts.length ct] 34)
  have HID : Hid (Wr.isId ⟨a, n⟩ = true → 1 ≤ n ∧ n ≤ 200) := fun h => (of_decide_eq_true h).2.2
  go_enter Try.func23, Try.ntmps23
  go_upto_region 1 with fail
  generalize w.alloc (.cells #[.int .i64 a, .int .i64 n, .slice ap ps.length cp, .slice as_ says.length cs, .slice at_ ts.length ct] 34) = w2 at *
  have c0 : w2.cell? ⟨w.heap.size, 0, none⟩ = some (.int .i64 a) := by rw [Lib.cell_of_heap hB]; rfl
  have c1 : w2.cell? ⟨w.heap.size, 1, none⟩ = some (.int .i64 n) := by rw [Lib.cell_of_heap hB]; rfl
  have c2 : w2.cell? ⟨w.heap.size, 2, none⟩ = some (.slice ap ps.length cp) := by rw [Lib.cell_of_heap hB]; rfl
  have c3 : w2.cell? ⟨w.heap.size, 3, none⟩ = some (.slice as_ says.length cs) := by rw [Lib.cell_of_heap hB]; rfl
  have c4 : w2.cell? ⟨w.heap.size, 4, none⟩ = some (.slice at_ ts.length ct) := by rw [Lib.cell_of_heap hB]; rfl
  have KB : ∀ {z w' : World}, Below w2.heap.size w2 z → Below z.heap.size z w' → Below w2.heap.size w2 w' ∧ w'.cell? ⟨w.heap.size, 0, none⟩ = some (.int .i64 a) ∧ w'.cell? ⟨w.heap.size, 1, none⟩ = some (.int .i64 n) ∧ w'.cell? ⟨w.heap.size, 2, none⟩ = some (.slice ap ps.length cp) ∧ w'.cell? ⟨w.heap.size, 3, none⟩ = some (.slice as_ says.length cs) ∧ w'.cell? ⟨w.heap.size, 4, none⟩ = some (.slice at_ ts.length ct) := fun hz h => by
    have h3 := hz.trans (h.mono hz.size)
    exact ⟨h3, cell_below h3 c0, cell_below h3 c1, cell_below h3 c2, cell_below h3 c3, cell_below h3 c4⟩
  have HP : IdsV w2 (.slice ap ps.length cp) ps := idsV_below hP hG
  have HS : FactsV w2 (.slice as_ says.length cs) says := factsV_below hS hG
  have HT : IdsV w2 (.slice at_ ts.length ct) ts := idsV_below hT hG
  have HG : Hid _ := hG
  clear hP hS hT hG hB
  have H28 : Hid (∀ z, Below w2.heap.size w2 z → Calls Try.prog 37 #[idVal ⟨a, n⟩] z fun e w' => e = .returned (.bool (!Wr.isId ⟨a, n⟩)) ∧ Below w2.heap.size w2 w' ∧ w'.cell? ⟨w.heap.size, 0, none⟩ = some (.int .i64 a) ∧ w'.cell? ⟨w.heap.size, 1, none⟩ = some (.int .i64 n) ∧ w'.cell? ⟨w.heap.size, 2, none⟩ = some (.slice ap ps.length cp) ∧ w'.cell? ⟨w.heap.size, 3, none⟩ = some (.slice as_ says.length cs) ∧ w'.cell? ⟨w.heap.size, 4, none⟩ = some (.slice at_ ts.length ct)) := fun z hz => ((isWrongId_any ⟨a, n⟩ z).mono fun e w' h => (⟨h.1, h.2.below⟩ : _ ∧ Below z.heap.size z w')).mono fun e w' h => ⟨h.1, KB hz h.2⟩
  have HP29 : Hid (∀ z, Below w2.heap.size w2 z → ps.length ≤ 1000000 → Calls Try.prog 38 #[.slice ap ps.length cp, .func (.func 37) #[] #[]] z fun e w' => e = .returned (.bool (!ps.all Wr.isId)) ∧ Below w2.heap.size w2 w' ∧ w'.cell? ⟨w.heap.size, 0, none⟩ = some (.int .i64 a) ∧ w'.cell? ⟨w.heap.size, 1, none⟩ = some (.int .i64 n) ∧ w'.cell? ⟨w.heap.size, 2, none⟩ = some (.slice ap ps.length cp) ∧ w'.cell? ⟨w.heap.size, 3, none⟩ = some (.slice as_ says.length cs) ∧ w'.cell? ⟨w.heap.size, 4, none⟩ = some (.slice at_ ts.length ct)) := fun z hz hp => by rw [List.not_all_eq_any_not]; exact (containsId_any ps _ z (idsV_below HP hz) hp).mono fun e w' h => ⟨h.1, KB hz h.2⟩
  have HT29 : Hid (∀ z, Below w2.heap.size w2 z → ts.length ≤ 1000000 → Calls Try.prog 38 #[.slice at_ ts.length ct, .func (.func 37) #[] #[]] z fun e w' => e = .returned (.bool (!ts.all Wr.isId)) ∧ Below w2.heap.size w2 w' ∧ w'.cell? ⟨w.heap.size, 0, none⟩ = some (.int .i64 a) ∧ w'.cell? ⟨w.heap.size, 1, none⟩ = some (.int .i64 n) ∧ w'.cell? ⟨w.heap.size, 2, none⟩ = some (.slice ap ps.length cp) ∧ w'.cell? ⟨w.heap.size, 3, none⟩ = some (.slice as_ says.length cs) ∧ w'.cell? ⟨w.heap.size, 4, none⟩ = some (.slice at_ ts.length ct)) := fun z hz hp => by rw [List.not_all_eq_any_not]; exact (containsId_any ts _ z (idsV_below HT hz) hp).mono fun e w' h => ⟨h.1, KB hz h.2⟩
  have HP30 : Hid (∀ z, Below w2.heap.size w2 z → ps.length ≤ 1000000 → Calls Try.prog 39 #[.slice ap ps.length cp, .func (.func 32) #[] #[]] z fun e w' => e = .returned (.bool (Wr.rise Wr.idOrd ps)) ∧ Below w2.heap.size w2 w' ∧ w'.cell? ⟨w.heap.size, 0, none⟩ = some (.int .i64 a) ∧ w'.cell? ⟨w.heap.size, 1, none⟩ = some (.int .i64 n) ∧ w'.cell? ⟨w.heap.size, 2, none⟩ = some (.slice ap ps.length cp) ∧ w'.cell? ⟨w.heap.size, 3, none⟩ = some (.slice as_ says.length cs) ∧ w'.cell? ⟨w.heap.size, 4, none⟩ = some (.slice at_ ts.length ct)) := fun z hz hp => (RiseId_any ps _ z (idsV_below HP hz) hp).mono fun e w' h => ⟨h.1, KB hz h.2⟩
  have HT30 : Hid (∀ z, Below w2.heap.size w2 z → ts.length ≤ 1000000 → Calls Try.prog 39 #[.slice at_ ts.length ct, .func (.func 32) #[] #[]] z fun e w' => e = .returned (.bool (Wr.rise Wr.idOrd ts)) ∧ Below w2.heap.size w2 w' ∧ w'.cell? ⟨w.heap.size, 0, none⟩ = some (.int .i64 a) ∧ w'.cell? ⟨w.heap.size, 1, none⟩ = some (.int .i64 n) ∧ w'.cell? ⟨w.heap.size, 2, none⟩ = some (.slice ap ps.length cp) ∧ w'.cell? ⟨w.heap.size, 3, none⟩ = some (.slice as_ says.length cs) ∧ w'.cell? ⟨w.heap.size, 4, none⟩ = some (.slice at_ ts.length ct)) := fun z hz hp => (RiseId_any ts _ z (idsV_below HT hz) hp).mono fun e w' h => ⟨h.1, KB hz h.2⟩
  have H32 : Hid (∀ z, Below w2.heap.size w2 z → (ps.length ≤ 6 ∧ 1 ≤ n ∧ n ≤ 200) → Calls Try.prog 40 #[upVal ⟨⟨a, n⟩, ps, says, ts⟩ (.slice ap ps.length cp) (.slice as_ says.length cs) (.slice at_ ts.length ct)] z fun e w' => e = .returned (.bool (Wr.lacks ⟨⟨a, n⟩, ps, says, ts⟩)) ∧ Below w2.heap.size w2 w' ∧ w'.cell? ⟨w.heap.size, 0, none⟩ = some (.int .i64 a) ∧ w'.cell? ⟨w.heap.size, 1, none⟩ = some (.int .i64 n) ∧ w'.cell? ⟨w.heap.size, 2, none⟩ = some (.slice ap ps.length cp) ∧ w'.cell? ⟨w.heap.size, 3, none⟩ = some (.slice as_ says.length cs) ∧ w'.cell? ⟨w.heap.size, 4, none⟩ = some (.slice at_ ts.length ct)) := fun z hz hp => (lacks_any ⟨⟨a, n⟩, ps, says, ts⟩ _ _ _ z (idsV_below HP hz) hp.1 hp.2).mono fun e w' h => ⟨h.1, KB hz h.2⟩
  have H33 : Hid (∀ z, Below w2.heap.size w2 z → says.length ≤ 1000000 → Calls Try.prog 41 #[.slice as_ says.length cs, .func (.func 42) #[] #[]] z fun e w' => e = .returned (.bool (!says.all Wr.factOk)) ∧ Below w2.heap.size w2 w' ∧ w'.cell? ⟨w.heap.size, 0, none⟩ = some (.int .i64 a) ∧ w'.cell? ⟨w.heap.size, 1, none⟩ = some (.int .i64 n) ∧ w'.cell? ⟨w.heap.size, 2, none⟩ = some (.slice ap ps.length cp) ∧ w'.cell? ⟨w.heap.size, 3, none⟩ = some (.slice as_ says.length cs) ∧ w'.cell? ⟨w.heap.size, 4, none⟩ = some (.slice at_ ts.length ct)) := fun z hz hp => by rw [List.not_all_eq_any_not]; exact (containsF_any says _ z (factsV_below HS hz) hp hF).mono fun e w' h => ⟨h.1, KB hz h.2⟩
  have H35 : Hid (∀ z, Below w2.heap.size w2 z → says.length ≤ 1000000 → Calls Try.prog 43 #[.slice as_ says.length cs, .func (.func 44) #[] #[]] z fun e w' => e = .returned (.bool (Wr.rise Rl.ord says)) ∧ Below w2.heap.size w2 w' ∧ w'.cell? ⟨w.heap.size, 0, none⟩ = some (.int .i64 a) ∧ w'.cell? ⟨w.heap.size, 1, none⟩ = some (.int .i64 n) ∧ w'.cell? ⟨w.heap.size, 2, none⟩ = some (.slice ap ps.length cp) ∧ w'.cell? ⟨w.heap.size, 3, none⟩ = some (.slice as_ says.length cs) ∧ w'.cell? ⟨w.heap.size, 4, none⟩ = some (.slice at_ ts.length ct)) := fun z hz hp => (RiseF_any says _ z (factsV_below HS hz) hp hF).mono fun e w' h => ⟨h.1, KB hz h.2⟩
  have HB2 : Below w2.heap.size w2 w2 := Below.refl _ _
  clear HP HS HT hF KB
  generalize Wr.isId ⟨a, n⟩ = b0 at *
  generalize ps.all Wr.isId = b1 at *
  generalize ts.all Wr.isId = b2 at *
  generalize Wr.rise Wr.idOrd ps = b3 at *
  generalize Wr.rise Wr.idOrd ts = b4 at *
  generalize Wr.lacks ⟨⟨a, n⟩, ps, says, ts⟩ = b5 at *
  generalize says.all Wr.factOk = b6 at *
  generalize Wr.rise Rl.ord says = b7 at *
  cases b0
  · go_wp2_with (go_at_call 37; refine Calls.mono (H28.out _ (by assumption)) ?_; rintro e z1 ⟨rfl, hb1, x10, x11, x12, x13, x14⟩)
    go_ret
    exact ⟨by rw [HK.out]; rfl, HG.out.trans (hb1.mono HG.out.size)⟩
  rw [if_neg (by decide)] at HK
  have hn := HID.out rfl
  go_upto_region 3 with (go_at_call 37; refine Calls.mono (H28.out _ (by assumption)) ?_; rintro e z1 ⟨rfl, hb1, x10, x11, x12, x13, x14⟩)
  clear H28 c0 c1 c2 c3 c4 HB2
  by_cases l_ps : 6 < ps.length
  · have dn : decide (6 < ps.length) = true := decide_eq_true l_ps
    have di : decide ((6 : Int) < (ps.length : Int)) = true := decide_eq_true (by omega)
    rw [if_pos (by omega)] at HK
    go_wp2_with fail
    go_ret
    exact ⟨by rw [HK.out]; rfl, HG.out.trans (hb1.mono HG.out.size)⟩
  have dn_ps : decide (6 < ps.length) = false := decide_eq_false l_ps
  have di_ps : decide ((6 : Int) < (ps.length : Int)) = false := decide_eq_false (by omega)
  by_cases l_says : 6 < says.length
  · have dn : decide (6 < says.length) = true := decide_eq_true l_says
    have di : decide ((6 : Int) < (says.length : Int)) = true := decide_eq_true (by omega)
    rw [if_pos (by omega)] at HK
    go_wp2_with fail
    go_ret
    exact ⟨by rw [HK.out]; rfl, HG.out.trans (hb1.mono HG.out.size)⟩
  have dn_says : decide (6 < says.length) = false := decide_eq_false l_says
  have di_says : decide ((6 : Int) < (says.length : Int)) = false := decide_eq_false (by omega)
  by_cases l_ts : 6 < ts.length
  · have dn : decide (6 < ts.length) = true := decide_eq_true l_ts
    have di : decide ((6 : Int) < (ts.length : Int)) = true := decide_eq_true (by omega)
    rw [if_pos (by omega)] at HK
    go_wp2_with fail
    go_ret
    exact ⟨by rw [HK.out]; rfl, HG.out.trans (hb1.mono HG.out.size)⟩
  have dn_ts : decide (6 < ts.length) = false := decide_eq_false l_ts
  have di_ts : decide ((6 : Int) < (ts.length : Int)) = false := decide_eq_false (by omega)
  rw [if_neg (by omega)] at HK
  have lp : ps.length ≤ 1000000 := by omega
  have lt : ts.length ≤ 1000000 := by omega
  go_upto_region 5 with fail
  clear dn_ps di_ps dn_says di_says dn_ts di_ts
  cases b1
  · rw [if_pos (Or.inl rfl)] at HK
    go_wp2_with (go_at_call 38; refine Calls.mono (HP29.out _ (by assumption) (by omega)) ?_; rintro e z2 ⟨rfl, hb2, x20, x21, x22, x23, x24⟩)
    go_ret
    exact ⟨by rw [HK.out]; rfl, HG.out.trans (hb2.mono HG.out.size)⟩
  cases b2
  · rw [if_pos (Or.inr rfl)] at HK
    go_wp2_with (first | (go_at_call 38; with_reducible refine Calls.mono (HP29.out _ (by assumption) lp) ?_; rintro e z2 ⟨rfl, hb2, x20, x21, x22, x23, x24⟩) | (go_at_call 38; with_reducible refine Calls.mono (HT29.out _ (by assumption) lt) ?_; rintro e z3 ⟨rfl, hb3, x30, x31, x32, x33, x34⟩))
    go_ret
    exact ⟨by rw [HK.out]; rfl, HG.out.trans (hb3.mono HG.out.size)⟩
  rw [if_neg (by decide)] at HK
  go_upto_region 7 with (first | (go_at_call 38; with_reducible refine Calls.mono (HP29.out _ (by assumption) lp) ?_; rintro e z2 ⟨rfl, hb2, x20, x21, x22, x23, x24⟩) | (go_at_call 38; with_reducible refine Calls.mono (HT29.out _ (by assumption) lt) ?_; rintro e z3 ⟨rfl, hb3, x30, x31, x32, x33, x34⟩))
  clear HP29 HT29
  cases b3
  · rw [if_pos (Or.inl rfl)] at HK
    go_wp2_with (go_at_call 39; refine Calls.mono (HP30.out _ (by assumption) (by omega)) ?_; rintro e z2 ⟨rfl, hb2, x20, x21, x22, x23, x24⟩)
    go_ret
    exact ⟨by rw [HK.out]; rfl, HG.out.trans (hb2.mono HG.out.size)⟩
  cases b4
  · rw [if_pos (Or.inr rfl)] at HK
    go_wp2_with (first | (go_at_call 39; with_reducible refine Calls.mono (HP30.out _ (by assumption) lp) ?_; rintro e z2 ⟨rfl, hb2, x20, x21, x22, x23, x24⟩) | (go_at_call 39; with_reducible refine Calls.mono (HT30.out _ (by assumption) lt) ?_; rintro e z3 ⟨rfl, hb3, x30, x31, x32, x33, x34⟩))
    go_ret
    exact ⟨by rw [HK.out]; rfl, HG.out.trans (hb3.mono HG.out.size)⟩
  rw [if_neg (by decide)] at HK
  go_upto_region 9 with (first | (go_at_call 39; with_reducible refine Calls.mono (HP30.out _ (by assumption) lp) ?_; rintro e z2 ⟨rfl, hb2, x20, x21, x22, x23, x24⟩) | (go_at_call 39; with_reducible refine Calls.mono (HT30.out _ (by assumption) lt) ?_; rintro e z3 ⟨rfl, hb3, x30, x31, x32, x33, x34⟩))
  clear HP30 HT30
  cases b5
  rotate_left
  · rw [if_pos rfl] at HK
    go_wp2_with (go_at_call 40; refine Calls.mono (H32.out _ (by assumption) ⟨by omega, hn⟩) ?_; rintro e z5 ⟨rfl, hb5, x50, x51, x52, x53, x54⟩)
    go_ret
    exact ⟨by rw [HK.out]; rfl, HG.out.trans (hb5.mono HG.out.size)⟩
  rw [if_neg (by decide)] at HK
  go_upto_region 11 with (go_at_call 40; refine Calls.mono (H32.out _ (by assumption) ⟨by omega, hn⟩) ?_; rintro e z5 ⟨rfl, hb5, x50, x51, x52, x53, x54⟩)
  clear H32
  cases b6
  · rw [if_pos rfl] at HK
    go_wp2_with (go_at_call 41; refine Calls.mono (H33.out _ (by assumption) (by omega)) ?_; rintro e z6 ⟨rfl, hb6, x60, x61, x62, x63, x64⟩)
    go_ret
    exact ⟨by rw [HK.out]; rfl, HG.out.trans (hb6.mono HG.out.size)⟩
  rw [if_neg (by decide)] at HK
  go_upto_region 13 with (go_at_call 41; refine Calls.mono (H33.out _ (by assumption) (by omega)) ?_; rintro e z6 ⟨rfl, hb6, x60, x61, x62, x63, x64⟩)
  clear H33
  cases b7
  · rw [if_pos rfl] at HK
    go_wp2_with (go_at_call 43; refine Calls.mono (H35.out _ (by assumption) (by omega)) ?_; rintro e z7 ⟨rfl, hb7, x70, x71, x72, x73, x74⟩)
    go_ret
    exact ⟨by rw [HK.out]; rfl, HG.out.trans (hb7.mono HG.out.size)⟩
  rw [if_neg (by decide)] at HK
  go_wp2_with (go_at_call 43; refine Calls.mono (H35.out _ (by assumption) (by omega)) ?_; rintro e z7 ⟨rfl, hb7, x70, x71, x72, x73, x74⟩)
  go_ret
  exact ⟨by rw [HK.out]; rfl, HG.out.trans (hb7.mono HG.out.size)⟩

end Go.Proofs.Ytmfaodapofamfaa

/- The document's Check of an update. -/
namespace Go.Proofs.Ytmfaodapofamfaa
open Go.RowKit

end Go.Proofs.Ytmfaodapofamfaa

/- Whether lists of ids, and updates, are the same. -/
namespace Go.Proofs.Ytmfaodapofamfaa
open Go.RowKit
theorem ids_step {l m : List Wr.Id} {k : Nat} (hk : k < l.length) (hm : k < m.length) (h : l.take k = m.take k) (e : idD l k = idD m k) : l.take (k + 1) = m.take (k + 1) := by
  rw [List.take_succ_eq_append_getElem hk, List.take_succ_eq_append_getElem hm, h]
  congr 2
  have a : idD l k = l[k] := by simp [idD, List.getD_eq_getElem?_getD, hk]
  have b : idD m k = m[k] := by simp [idD, List.getD_eq_getElem?_getD, hm]
  rw [← a, ← b, e]
theorem ids_all {l m : List Wr.Id} {k : Nat} (hlen : l.length = m.length) (hk : ¬ k < l.length) (h : l.take k = m.take k) : l = m := by
  rw [List.take_of_length_le (by omega), List.take_of_length_le (by omega)] at h
  exact h

set_option maxRecDepth 100000 in
set_option maxHeartbeats 1000000 in
theorem sameIds_any (l m : List Wr.Id) (v u : Value) (w : World) (hV : IdsV w v l) (hU : IdsV w u m) (hl : l.length ≤ 9223372036854775807) : Calls Try.prog 16 #[v, u] w fun e w' => e = .returned (.bool (decide (l = m))) ∧ Below w.heap.size w w' := by
  obtain ⟨ao, cap, rfl, _, hA⟩ := hV
  obtain ⟨bo, cbp, rfl, _, hB⟩ := hU
  have HA : Hid (IdsAt w ao l) := hA
  have HB : Hid (IdsAt w bo m) := hB
  clear hA hB
  by_cases hlen : l.length = m.length
  · rw [← hlen]
    have HLEN : Hid (l.length = m.length) := hlen
    have hne : ((l.length : Int) != (l.length : Int)) = false := by simp
    clear hlen
    go_enter Try.func16, Try.ntmps16
    go_wp2_with fail
    go_loopw [5] (fun iv wr => ∃ k nq : Nat, k ≤ l.length ∧ iv = .int .i64 k ∧ Hid (l.take k = m.take k) ∧ wr = w.drewN nq) (fun iv _ => l.length - (intOf iv).toNat)
    case atStart => exact ⟨0, 0, Nat.zero_le _, rfl, rfl, rfl⟩
    case round =>
      obtain ⟨k, nq, hk, rfl, HR, rfl⟩ := hrel
      by_cases hlt : k < l.length
      · obtain ⟨b, off, rfl, p0, p1⟩ := ids_at HA.out k hlt
        have hltm : k < m.length := by rw [← HLEN.out]; exact hlt
        obtain ⟨b2, off2, rfl, r0, r1⟩ := ids_at HB.out k hltm
        have HNX : Hid (idD l k = idD m k → l.take (k + 1) = m.take (k + 1)) := fun e => ids_step hlt hltm HR.out e
        have HNO : Hid (¬ idD l k = idD m k → ¬ l = m) := fun h e => h (by rw [e])
        clear hltm HR
        generalize idD l k = x at *
        generalize idD m k = z at *
        obtain ⟨xa, xn⟩ := x
        obtain ⟨za, zn⟩ := z
        by_cases e1 : xa = za
        · subst e1
          have g1 : (xa == xa) = true := by simp
          by_cases e2 : xn = zn
          · subst e2
            have g2 : (xn == xn) = true := by simp
            have HE : Hid _ := HNX.out rfl
            clear HNX HNO
            go_upto_region 6 with fail
            go_quiet (fail)
            go_wp2_with fail
            go_roundw
            case rel => exact ⟨k + 1, _, hlt, by go_num, HE.out, rfl⟩
            case measure => simp [intOf]; omega
          · have g2 : (xn == zn) = false := by simpa using e2
            have HE : Hid (decide (l = m) = false) := decide_eq_false (HNO.out (fun e => e2 (by injection e)))
            clear HNX HNO e2
            go_upto_region 6 with fail
            go_quiet (fail)
            go_wp2_with fail
            go_ret
            exact ⟨by rw [HE.out]; rfl, blw_drewN w _⟩
        · have g1 : (xa == za) = false := by simpa using e1
          have HE : Hid (decide (l = m) = false) := decide_eq_false (HNO.out (fun e => e1 (by injection e)))
          clear HNX HNO e1
          go_upto_region 6 with fail
          go_quiet (fail)
          go_wp2_with fail
          go_ret
          exact ⟨by rw [HE.out]; rfl, blw_drewN w _⟩
      · have hdd : decide (k < l.length) = false := decide_eq_false hlt
        have HE : Hid (decide (l = m) = true) := decide_eq_true (ids_all HLEN.out hlt HR.out)
        go_wp2_with fail
        go_ret
        exact ⟨by rw [HE.out]; rfl, blw_drewN w _⟩
  · have g0 : ((l.length : Int) != (m.length : Int)) = true := by simp; omega
    have HE : Hid (decide (l = m) = false) := decide_eq_false (fun h => hlen (by rw [h]))
    clear hlen
    go_enter Try.func16, Try.ntmps16
    go_wp2_with fail
    go_ret
    exact ⟨by rw [HE.out]; rfl, Below.refl _ _⟩

set_option maxRecDepth 100000 in
set_option maxHeartbeats 3000000 in
theorem SameUpdate_any (u x : Wr.Up) (vp vs vt vp2 vs2 vt2 : Value) (w : World) (hP : IdsV w vp u.ps) (hS : FactsV w vs u.says) (hT : IdsV w vt u.ts) (hP2 : IdsV w vp2 x.ps) (hS2 : FactsV w vs2 x.says) (hT2 : IdsV w vt2 x.ts) (hF : ∀ f, f ∈ u.says → FFit f) (hF2 : ∀ f, f ∈ x.says → FFit f) (hl : u.ps.length ≤ 9223372036854775807 ∧ u.says.length ≤ 9223372036854775807 ∧ u.ts.length ≤ 9223372036854775807) :
    Calls Try.prog 6 #[upVal u vp vs vt, upVal x vp2 vs2 vt2] w fun e w' => ∃ t : Bool, e = .returned (.bool t) ∧ (t = true ↔ u = x) ∧ Below w.heap.size w w' := by
  obtain ⟨⟨a, n⟩, ps, says, ts⟩ := u
  obtain ⟨⟨a2, n2⟩, ps2, says2, ts2⟩ := x
  dsimp only at hP hS hT hP2 hS2 hT2 hF hF2 hl
  obtain ⟨ap, cp, rfl, _⟩ := id hP
  obtain ⟨as_, cs, rfl, _⟩ := id hS
  obtain ⟨at_, ct, rfl, _⟩ := id hT
  obtain ⟨ap2, cp2, rfl, _⟩ := id hP2
  obtain ⟨as2, cs2, rfl, _⟩ := id hS2
  obtain ⟨at2, ct2, rfl, _⟩ := id hT2
  obtain ⟨bs, hbs⟩ : ∃ b : Bool, (b = true ↔ says = says2) := by
    by_cases h : says = says2
    · exact ⟨true, fun _ => h, fun _ => rfl⟩
    · exact ⟨false, fun e => (by cases e), fun e => absurd e h⟩
  have HQ : Hid ((⟨⟨a, n⟩, ps, says, ts⟩ : Wr.Up) = ⟨⟨a2, n2⟩, ps2, says2, ts2⟩ ↔ ((a = a2 ∧ n = n2) ∧ decide (ps = ps2) = true ∧ bs = true ∧ decide (ts = ts2) = true)) := by
    show _ ↔ _
    simp only [Wr.Up.mk.injEq, Wr.Id.mk.injEq, decide_eq_true_eq, hbs]
  have hG : Below w.heap.size w ((w.alloc (.cells #[.int .i64 a, .int .i64 n, .slice ap ps.length cp, .slice as_ says.length cs, .slice at_ ts.length ct] 34)).alloc (.cells #[.int .i64 a2, .int .i64 n2, .slice ap2 ps2.length cp2, .slice as2 says2.length cs2, .slice at2 ts2.length ct2] 34)) := (((Gr.refl w).alloc _).alloc _).below
  have t2 := two_blocks (w := w) (o1 := (.cells #[.int .i64 a, .int .i64 n, .slice ap ps.length cp, .slice as_ says.length cs, .slice at_ ts.length ct] 34)) (o2 := (.cells #[.int .i64 a2, .int .i64 n2, .slice ap2 ps2.length cp2, .slice as2 says2.length cs2, .slice at2 ts2.length ct2] 34)) (Below.refl _ _)
  go_enter Try.func6, Try.ntmps6
  go_upto_region 1 with fail
  generalize (w.alloc (.cells #[.int .i64 a, .int .i64 n, .slice ap ps.length cp, .slice as_ says.length cs, .slice at_ ts.length ct] 34)).alloc (.cells #[.int .i64 a2, .int .i64 n2, .slice ap2 ps2.length cp2, .slice as2 says2.length cs2, .slice at2 ts2.length ct2] 34) = w2 at *
  have c0 : w2.cell? ⟨w.heap.size, 0, none⟩ = some (.int .i64 a) := by rw [Lib.cell_of_heap t2.1]; rfl
  have c1 : w2.cell? ⟨w.heap.size, 1, none⟩ = some (.int .i64 n) := by rw [Lib.cell_of_heap t2.1]; rfl
  have c2 : w2.cell? ⟨w.heap.size, 2, none⟩ = some (.slice ap ps.length cp) := by rw [Lib.cell_of_heap t2.1]; rfl
  have c3 : w2.cell? ⟨w.heap.size, 3, none⟩ = some (.slice as_ says.length cs) := by rw [Lib.cell_of_heap t2.1]; rfl
  have c4 : w2.cell? ⟨w.heap.size, 4, none⟩ = some (.slice at_ ts.length ct) := by rw [Lib.cell_of_heap t2.1]; rfl
  have d0 : w2.cell? ⟨w.heap.size + 1, 0, none⟩ = some (.int .i64 a2) := by rw [Lib.cell_of_heap t2.2]; rfl
  have d1 : w2.cell? ⟨w.heap.size + 1, 1, none⟩ = some (.int .i64 n2) := by rw [Lib.cell_of_heap t2.2]; rfl
  have d2 : w2.cell? ⟨w.heap.size + 1, 2, none⟩ = some (.slice ap2 ps2.length cp2) := by rw [Lib.cell_of_heap t2.2]; rfl
  have d3 : w2.cell? ⟨w.heap.size + 1, 3, none⟩ = some (.slice as2 says2.length cs2) := by rw [Lib.cell_of_heap t2.2]; rfl
  have d4 : w2.cell? ⟨w.heap.size + 1, 4, none⟩ = some (.slice at2 ts2.length ct2) := by rw [Lib.cell_of_heap t2.2]; rfl
  have KB : ∀ {z w' : World}, Below w2.heap.size w2 z → Below z.heap.size z w' → Below w2.heap.size w2 w' ∧ w'.cell? ⟨w.heap.size, 0, none⟩ = some (.int .i64 a) ∧ w'.cell? ⟨w.heap.size, 1, none⟩ = some (.int .i64 n) ∧ w'.cell? ⟨w.heap.size, 2, none⟩ = some (.slice ap ps.length cp) ∧ w'.cell? ⟨w.heap.size, 3, none⟩ = some (.slice as_ says.length cs) ∧ w'.cell? ⟨w.heap.size, 4, none⟩ = some (.slice at_ ts.length ct) ∧ w'.cell? ⟨w.heap.size + 1, 0, none⟩ = some (.int .i64 a2) ∧ w'.cell? ⟨w.heap.size + 1, 1, none⟩ = some (.int .i64 n2) ∧ w'.cell? ⟨w.heap.size + 1, 2, none⟩ = some (.slice ap2 ps2.length cp2) ∧ w'.cell? ⟨w.heap.size + 1, 3, none⟩ = some (.slice as2 says2.length cs2) ∧ w'.cell? ⟨w.heap.size + 1, 4, none⟩ = some (.slice at2 ts2.length ct2) := fun hz h => by
    have h3 := hz.trans (h.mono hz.size)
    exact ⟨h3, cell_below h3 c0, cell_below h3 c1, cell_below h3 c2, cell_below h3 c3, cell_below h3 c4, cell_below h3 d0, cell_below h3 d1, cell_below h3 d2, cell_below h3 d3, cell_below h3 d4⟩
  have HP : Hid (∀ z, Below w2.heap.size w2 z → Calls Try.prog 16 #[.slice ap ps.length cp, .slice ap2 ps2.length cp2] z fun e w' => e = .returned (.bool (decide (ps = ps2))) ∧ Below w2.heap.size w2 w' ∧ w'.cell? ⟨w.heap.size, 0, none⟩ = some (.int .i64 a) ∧ w'.cell? ⟨w.heap.size, 1, none⟩ = some (.int .i64 n) ∧ w'.cell? ⟨w.heap.size, 2, none⟩ = some (.slice ap ps.length cp) ∧ w'.cell? ⟨w.heap.size, 3, none⟩ = some (.slice as_ says.length cs) ∧ w'.cell? ⟨w.heap.size, 4, none⟩ = some (.slice at_ ts.length ct) ∧ w'.cell? ⟨w.heap.size + 1, 0, none⟩ = some (.int .i64 a2) ∧ w'.cell? ⟨w.heap.size + 1, 1, none⟩ = some (.int .i64 n2) ∧ w'.cell? ⟨w.heap.size + 1, 2, none⟩ = some (.slice ap2 ps2.length cp2) ∧ w'.cell? ⟨w.heap.size + 1, 3, none⟩ = some (.slice as2 says2.length cs2) ∧ w'.cell? ⟨w.heap.size + 1, 4, none⟩ = some (.slice at2 ts2.length ct2)) := fun z hz => (sameIds_any ps ps2 _ _ z (idsV_below (idsV_below hP hG) hz) (idsV_below (idsV_below hP2 hG) hz) hl.1).mono fun e w' h => ⟨h.1, KB hz h.2⟩
  have HT : Hid (∀ z, Below w2.heap.size w2 z → Calls Try.prog 16 #[.slice at_ ts.length ct, .slice at2 ts2.length ct2] z fun e w' => e = .returned (.bool (decide (ts = ts2))) ∧ Below w2.heap.size w2 w' ∧ w'.cell? ⟨w.heap.size, 0, none⟩ = some (.int .i64 a) ∧ w'.cell? ⟨w.heap.size, 1, none⟩ = some (.int .i64 n) ∧ w'.cell? ⟨w.heap.size, 2, none⟩ = some (.slice ap ps.length cp) ∧ w'.cell? ⟨w.heap.size, 3, none⟩ = some (.slice as_ says.length cs) ∧ w'.cell? ⟨w.heap.size, 4, none⟩ = some (.slice at_ ts.length ct) ∧ w'.cell? ⟨w.heap.size + 1, 0, none⟩ = some (.int .i64 a2) ∧ w'.cell? ⟨w.heap.size + 1, 1, none⟩ = some (.int .i64 n2) ∧ w'.cell? ⟨w.heap.size + 1, 2, none⟩ = some (.slice ap2 ps2.length cp2) ∧ w'.cell? ⟨w.heap.size + 1, 3, none⟩ = some (.slice as2 says2.length cs2) ∧ w'.cell? ⟨w.heap.size + 1, 4, none⟩ = some (.slice at2 ts2.length ct2)) := fun z hz => (sameIds_any ts ts2 _ _ z (idsV_below (idsV_below hT hG) hz) (idsV_below (idsV_below hT2 hG) hz) hl.2.2).mono fun e w' h => ⟨h.1, KB hz h.2⟩
  have H38 : Hid (∀ z, Below w2.heap.size w2 z → Calls Try.prog 17 #[.slice as_ says.length cs, .slice as2 says2.length cs2] z fun e w' => e = .returned (.bool bs) ∧ Below w2.heap.size w2 w' ∧ w'.cell? ⟨w.heap.size, 0, none⟩ = some (.int .i64 a) ∧ w'.cell? ⟨w.heap.size, 1, none⟩ = some (.int .i64 n) ∧ w'.cell? ⟨w.heap.size, 2, none⟩ = some (.slice ap ps.length cp) ∧ w'.cell? ⟨w.heap.size, 3, none⟩ = some (.slice as_ says.length cs) ∧ w'.cell? ⟨w.heap.size, 4, none⟩ = some (.slice at_ ts.length ct) ∧ w'.cell? ⟨w.heap.size + 1, 0, none⟩ = some (.int .i64 a2) ∧ w'.cell? ⟨w.heap.size + 1, 1, none⟩ = some (.int .i64 n2) ∧ w'.cell? ⟨w.heap.size + 1, 2, none⟩ = some (.slice ap2 ps2.length cp2) ∧ w'.cell? ⟨w.heap.size + 1, 3, none⟩ = some (.slice as2 says2.length cs2) ∧ w'.cell? ⟨w.heap.size + 1, 4, none⟩ = some (.slice at2 ts2.length ct2)) := fun z hz => (SameFacts_any says says2 _ _ z (factsV_below (factsV_below hS hG) hz) (factsV_below (factsV_below hS2 hG) hz) hl.2.1 hF hF2).mono fun e w' ⟨t, h1, h2, h3⟩ => ⟨by rw [h1, Bool.eq_iff_iff.mpr (h2.trans hbs.symm)], KB hz h3⟩
  have HG : Hid _ := hG
  have HB2 : Below w2.heap.size w2 w2 := Below.refl _ _
  clear hP hS hT hP2 hS2 hT2 hF hF2 hl hG t2 KB hbs
  generalize decide (ps = ps2) = bp at *
  generalize decide (ts = ts2) = bt at *
  by_cases e1 : a = a2
  rotate_left
  · have g1 : (a == a2) = false := by simpa using e1
    have HE : Hid (¬ (⟨⟨a, n⟩, ps, says, ts⟩ : Wr.Up) = ⟨⟨a2, n2⟩, ps2, says2, ts2⟩) := fun h => e1 (HQ.out.mp h).1.1
    clear HQ e1
    go_wp2_with fail
    go_ret
    exact ⟨false, rfl, ⟨fun h => (by cases h), fun h => absurd h HE.out⟩, HG.out⟩
  by_cases e2 : n = n2
  rotate_left
  · have g2 : (n == n2) = false := by simpa using e2
    have HE : Hid (¬ (⟨⟨a, n⟩, ps, says, ts⟩ : Wr.Up) = ⟨⟨a2, n2⟩, ps2, says2, ts2⟩) := fun h => e2 (HQ.out.mp h).1.2
    have g1 : (a == a2) = true := by simpa using e1
    clear HQ e2
    go_wp2_with fail
    go_ret
    exact ⟨false, rfl, ⟨fun h => (by cases h), fun h => absurd h HE.out⟩, HG.out⟩
  have g1 : (a == a2) = true := by simpa using e1
  have g2 : (n == n2) = true := by simpa using e2
  have HQ2 : Hid ((⟨⟨a, n⟩, ps, says, ts⟩ : Wr.Up) = ⟨⟨a2, n2⟩, ps2, says2, ts2⟩ ↔ (bp = true ∧ bs = true ∧ bt = true)) := HQ.out.trans ⟨fun h => h.2, fun h => ⟨⟨e1, e2⟩, h⟩⟩
  clear HQ e1 e2
  cases bp
  · go_wp2_with (first | (go_at_call 16; with_reducible refine Calls.mono (HP.out _ (by assumption)) ?_; rintro e z1 ⟨rfl, hb1, x10, x11, x12, x13, x14, x15, x16, x17, x18, x19⟩) | (go_at_call 17; with_reducible refine Calls.mono (H38.out _ (by assumption)) ?_; rintro e z2 ⟨rfl, hb2, x20, x21, x22, x23, x24, x25, x26, x27, x28, x29⟩) | (go_at_call 16; with_reducible refine Calls.mono (HT.out _ (by assumption)) ?_; rintro e z3 ⟨rfl, hb3, x30, x31, x32, x33, x34, x35, x36, x37, x38, x39⟩))
    go_ret
    exact ⟨false, rfl, ⟨fun h => (by cases h), fun h => absurd (HQ2.out.mp h).1 (by decide)⟩, HG.out.trans (hb1.mono HG.out.size)⟩
  cases bs
  · go_wp2_with (first | (go_at_call 16; with_reducible refine Calls.mono (HP.out _ (by assumption)) ?_; rintro e z1 ⟨rfl, hb1, x10, x11, x12, x13, x14, x15, x16, x17, x18, x19⟩) | (go_at_call 17; with_reducible refine Calls.mono (H38.out _ (by assumption)) ?_; rintro e z2 ⟨rfl, hb2, x20, x21, x22, x23, x24, x25, x26, x27, x28, x29⟩) | (go_at_call 16; with_reducible refine Calls.mono (HT.out _ (by assumption)) ?_; rintro e z3 ⟨rfl, hb3, x30, x31, x32, x33, x34, x35, x36, x37, x38, x39⟩))
    go_ret
    exact ⟨false, rfl, ⟨fun h => (by cases h), fun h => absurd (HQ2.out.mp h).2.1 (by decide)⟩, HG.out.trans (hb2.mono HG.out.size)⟩
  cases bt
  · go_wp2_with (first | (go_at_call 16; with_reducible refine Calls.mono (HP.out _ (by assumption)) ?_; rintro e z1 ⟨rfl, hb1, x10, x11, x12, x13, x14, x15, x16, x17, x18, x19⟩) | (go_at_call 17; with_reducible refine Calls.mono (H38.out _ (by assumption)) ?_; rintro e z2 ⟨rfl, hb2, x20, x21, x22, x23, x24, x25, x26, x27, x28, x29⟩) | (go_at_call 16; with_reducible refine Calls.mono (HT.out _ (by assumption)) ?_; rintro e z3 ⟨rfl, hb3, x30, x31, x32, x33, x34, x35, x36, x37, x38, x39⟩))
    go_ret
    exact ⟨false, rfl, ⟨fun h => (by cases h), fun h => absurd (HQ2.out.mp h).2.2 (by decide)⟩, HG.out.trans (hb3.mono HG.out.size)⟩
  · go_wp2_with (first | (go_at_call 16; with_reducible refine Calls.mono (HP.out _ (by assumption)) ?_; rintro e z1 ⟨rfl, hb1, x10, x11, x12, x13, x14, x15, x16, x17, x18, x19⟩) | (go_at_call 17; with_reducible refine Calls.mono (H38.out _ (by assumption)) ?_; rintro e z2 ⟨rfl, hb2, x20, x21, x22, x23, x24, x25, x26, x27, x28, x29⟩) | (go_at_call 16; with_reducible refine Calls.mono (HT.out _ (by assumption)) ?_; rintro e z3 ⟨rfl, hb3, x30, x31, x32, x33, x34, x35, x36, x37, x38, x39⟩))
    go_ret
    exact ⟨true, rfl, ⟨fun _ => HQ2.out.mpr (by simp), fun _ => rfl⟩, HG.out.trans (hb3.mono HG.out.size)⟩

end Go.Proofs.Ytmfaodapofamfaa

/- Updates that came in. -/
namespace Go.Proofs.Ytmfaodapofamfaa
open Go.RowKit

theorem O_cells23 : Try.prog.cellsOf 30 = 2 := by kernel_rfl
theorem O_cells24 : Try.prog.cellsOf 31 = 1 := by kernel_rfl
theorem O_cells25 : Try.prog.cellsOf 32 = 1 := by kernel_rfl
section
variable {H : Type} {enc : TypeId × Value → H} {w : World} {base : Nat} {spare : Nat → Bool} {held : Bool}
theorem open_id {fuel : Nat} {v0 v1 : Value} {x : DataW H × List MemPlace} (h : DataW.trod enc Try.prog w base spare held fuel 30 [v0, v1] = some x) : ∃ i : Wr.Id, v0 = .int .i64 i.a ∧ v1 = .int .i64 i.n := by
  obtain ⟨y0, y1, n, _, g0, g1⟩ := trod_struct2 Try.underlying30 h
  simp [A_cells3] at g0 g1
  obtain ⟨k0, e0, _, _⟩ := DataW.trod_int Try.underlying3 g0
  obtain ⟨k1, e1, _, _⟩ := DataW.trod_int Try.underlying3 g1
  simp at e0 e1
  exact ⟨⟨k0, k1⟩, e0, e1⟩
theorem open_ids {fuel : Nat} {v : Value} {x : DataW H × List MemPlace} (h : DataW.trod enc Try.prog w base spare held fuel 31 [v] = some x) : ∃ l, IdsV w v l ∧ l.length ≤ 9223372036854775807 := by
  obtain ⟨ao, l, cap, hv, hcp, hmx, hl⟩ := open_rowC Try.underlying31 O_cells23 (by decide) (⟨0, 0⟩ : Wr.Id) (fun b off i => IdIn w b off i) (fun n cs' y b off hlen hc h2 => by
    match cs', hlen with
    | [v0, v1], _ =>
      obtain ⟨i, e0, e1⟩ := open_id h2
      exact ⟨i, by rw [← e0]; exact hc 0 (by decide), by rw [← e1]; exact hc 1 (by decide)⟩) h
  refine ⟨l, ⟨ao, cap, hv, ⟨hcp, fun e => ?_⟩, ?_⟩, hmx⟩
  · subst e
    rcases Deep.open_slice Try.underlying31 h with ⟨hv2, _⟩ | ⟨a, len, cap2, m, n, D, Pl, hv2, _⟩
    · have hv' : v = .slice none 0 0 := by simpa using hv2
      rw [hv] at hv'
      injection hv' with _ _ h2
    · have hv' : v = .slice (some a) len cap2 := by simpa using hv2
      rw [hv] at hv'
      injection hv' with h1
      cases h1
  · rcases hl with h | ⟨b, off, he, hc⟩
    · exact .inl h
    · exact .inr ⟨b, off, he, fun i hi => hc i hi⟩
theorem trod_struct4 {t : TypeId} {f0 f1 f2 f3 : Field} {fuel : Nat} {cs : List Value} {x : DataW H × List MemPlace} (ht : Try.prog.underlying t = some (.struct #[f0, f1, f2, f3])) (h : DataW.trod enc Try.prog w base spare held fuel t cs = some x) :
    ∃ y0 y1 y2 y3 n, cs.length = Try.prog.cellsOf t ∧ DataW.trod enc Try.prog w base spare held n f0.type ((cs.drop f0.offset).take (Try.prog.cellsOf f0.type)) = some y0 ∧
      DataW.trod enc Try.prog w base spare held n f1.type ((cs.drop f1.offset).take (Try.prog.cellsOf f1.type)) = some y1 ∧
      DataW.trod enc Try.prog w base spare held n f2.type ((cs.drop f2.offset).take (Try.prog.cellsOf f2.type)) = some y2 ∧
      DataW.trod enc Try.prog w base spare held n f3.type ((cs.drop f3.offset).take (Try.prog.cellsOf f3.type)) = some y3 := by
  obtain ⟨xs, n, _, rfl, hl, hlen, hf⟩ := DataW.trod_struct ht h
  match xs, hlen with
  | [y0, y1, y2, y3], _ => exact ⟨y0, y1, y2, y3, n, hl, by simpa using hf 0 f0 rfl, by simpa using hf 1 f1 rfl, by simpa using hf 2 f2 rfl, by simpa using hf 3 f3 rfl⟩
theorem open_up {fuel : Nat} {v0 v1 v2 v3 v4 : Value} {x : DataW H × List MemPlace} (h : DataW.trod enc Try.prog w base spare held fuel 34 [v0, v1, v2, v3, v4] = some x) :
    ∃ u : Wr.Up, Value.agg #[v0, v1, v2, v3, v4] = upVal u v2 v3 v4 ∧ IdsV w v2 u.ps ∧ FactsV w v3 u.says ∧ IdsV w v4 u.ts ∧ (∀ f, f ∈ u.says → FFit f) ∧ (u.ps.length ≤ 9223372036854775807 ∧ u.says.length ≤ 9223372036854775807 ∧ u.ts.length ≤ 9223372036854775807) := by
  obtain ⟨y0, y1, y2, y3, n, _, g0, g1, g2, g3⟩ := trod_struct4 Try.underlying34 h
  simp [O_cells23, O_cells24, O_cells25] at g0 g1 g2 g3
  obtain ⟨i, e0, e1⟩ := open_id g0
  obtain ⟨ps, hps, hl1⟩ := open_ids g1
  obtain ⟨says, hsy, hl2, hf⟩ := open_factsC g2
  obtain ⟨ts, hts, hl3⟩ := open_ids g3
  exact ⟨⟨i, ps, says, ts⟩, by rw [e0, e1], hps, hsy, hts, hf, hl1, hl2, hl3⟩
end
end Go.Proofs.Ytmfaodapofamfaa

