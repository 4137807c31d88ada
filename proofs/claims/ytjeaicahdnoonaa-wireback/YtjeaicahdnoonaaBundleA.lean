/- Own texts, one behind the other (part 1). -/
import Derived.Test.YtjeaicahdnoonaaRows
import Derived.WalkKit
import Derived.WalkSpells
import Derived.WalkLawsBesides
import Derived.Deep.QuietTactic
import Derived.BigQuiet
import Derived.LoopN
import Derived.Lib.IndexBytes
import Derived.Defers
import Derived.Recover
import Derived.RegionTactic
import Derived.ChangeAlike
import Derived.WalkSmall
import Derived.Sort.Grow
import Derived.Lib.Builder
import Derived.Lib.AppendStr
import Derived.Lib.OthersKept
import Derived.Laws.Externs
import Derived.Lib.UnsafeStr
import Derived.Deep.RegionHeld3
import Derived.Deep.DeepCutAuto
import Derived.Deep.RegionLaw
import Derived.RegionDies
import Derived.Deep.RegionHeld2
import Derived.Lib.Atoi
import Derived.BigRegion
import Derived.Lib.AtoiBound
import Derived.Lib.SliceRun
import Derived.Lib.LazyBuf
import Derived.Laws.AppendOwnNone
import Derived.Lib.AppendZeros
import Derived.Deep.OwnRows
import Derived.RangeFuncNested
import Derived.RangeFuncBound
import Derived.RangeFuncCalls
import Derived.RangeFuncLeaves
import Derived.Shelf.Abstract
import Derived.Shelf.RegionOpen
import Derived.OwnWalkIn
import Derived.TacticsInMore
import Derived.LoopNIn
import Derived.LoopIn
import Derived.Deep.MidRow
import Derived.Deep.WholeRow
import Derived.Deep.Slices
import Derived.Orders
import Derived.ProofKit
import Derived.Deep.Strs
import Derived.Deep.RegionWith
import Derived.Deep.Cut
/- What the bytes of updates lean on: rows, facts, their order. -/
namespace Go.Proofs.Ytjeaicahdnoonaa
namespace Rl

structure Fc where
  pred : Int
  args : List Int
def cmpI (a b : Int) : Int := if a < b then -1 else if b < a then 1 else 0
def cmpL : List Int → List Int → Int
  | [], [] => 0
  | [], _ :: _ => -1
  | _ :: _, [] => 1
  | a :: x, b :: y => if cmpI a b = 0 then cmpL x y else cmpI a b
def ord (f g : Fc) : Int := if cmpI f.pred g.pred = 0 then cmpL f.args g.args else cmpI f.pred g.pred

theorem cmpI_zero {a b : Int} : cmpI a b = 0 ↔ a = b := by
  unfold cmpI
  split
  · constructor
    · intro h; exact absurd h (by decide)
    · intro h; omega
  · split
    · constructor
      · intro h; exact absurd h (by decide)
      · intro h; omega
    · constructor
      · intro _; omega
      · intro _; rfl
theorem cmpI_self (a : Int) : cmpI a a = 0 := cmpI_zero.mpr rfl
theorem cmpL_zero : ∀ {x y : List Int}, cmpL x y = 0 ↔ x = y := by
  intro x
  induction x with
  | nil =>
    intro y
    cases y with
    | nil => simp [cmpL]
    | cons b y => simp [cmpL]
  | cons a x ih =>
    intro y
    cases y with
    | nil => simp [cmpL]
    | cons b y =>
      simp only [cmpL]
      split
      · rename_i h
        rw [cmpI_zero] at h
        rw [ih, h]
        simp
      · rename_i h
        constructor
        · intro h2; exact absurd h2 h
        · intro h2
          injection h2 with h2 _
          exact absurd (cmpI_zero.mpr h2) h
theorem ord_zero {f g : Fc} : ord f g = 0 ↔ f = g := by
  obtain ⟨p, x⟩ := f
  obtain ⟨q, y⟩ := g
  unfold ord
  simp only
  by_cases h : cmpI p q = 0
  · rw [if_pos h, cmpL_zero]
    rw [cmpI_zero] at h
    subst h
    simp
  · rw [if_neg h]
    constructor
    · intro h2; exact absurd h2 h
    · intro h2
      injection h2 with h2 _
      exact absurd (cmpI_zero.mpr h2) h
theorem ord_self (f : Fc) : ord f f = 0 := ord_zero.mpr rfl
end Rl

end Go.Proofs.Ytjeaicahdnoonaa

namespace Go.Proofs.Ytjeaicahdnoonaa
open Go.RowKit

end Go.Proofs.Ytjeaicahdnoonaa

namespace Go.Proofs.Ytjeaicahdnoonaa
open Go.RowKit

end Go.Proofs.Ytjeaicahdnoonaa

namespace Go.Proofs.Ytjeaicahdnoonaa
open Go.RowKit

theorem ownsRow_below {w w' : World} {base : Nat} {e : TypeId} {size : Nat} {v : Value} {n : Nat} {xs : List Value} (h : w.ownsRow base e size v n xs) (hb : Below w.heap.size w w') : w'.ownsRow base e size v n xs := by
  obtain ⟨h1, h2⟩ := h
  refine ⟨h1, ?_⟩
  rcases h2 with h2 | ⟨g, cap, cur, hv, hg, hbk, r⟩
  · exact .inl h2
  · refine .inr ⟨g, cap, cur, hv, hg, ?_, r⟩
    have hlt : g < w.heap.size := by
      rcases Nat.lt_or_ge g w.heap.size with h | h
      · exact h
      · rw [Array.getElem?_eq_none h] at hbk; cases hbk
    rw [hb.block g hlt]; exact hbk

theorem own_slice {w : World} {base : Nat} {e : TypeId} {size : Nat} {v : Value} {n : Nat} {xs : List Value} (h : w.ownsRow base e size v n xs) : ∃ ao cap, v = .slice ao n cap := by
  rcases h.2 with ⟨hv, h0⟩ | ⟨g, cap, cur, hv, _⟩
  · exact ⟨none, 0, by rw [hv, h0]⟩
  · exact ⟨_, _, hv⟩

end Go.Proofs.Ytjeaicahdnoonaa

namespace Go.Proofs.Ytjeaicahdnoonaa
open Go.RowKit

set_option maxRecDepth 100000 in
set_option maxHeartbeats 400000 in
theorem between_any (n a b : Int) (w : World) : Calls Try.prog 19 #[.int .i64 n, .int .i64 a, .int .i64 b] w fun e w' => e = .returned (.bool (decide (a ≤ n) && decide (n ≤ b))) ∧ w' = w := by
  by_cases h : a ≤ n
  · go_enter Try.func19, Try.ntmps19
    go_wp2
    go_ret
    exact ⟨by simp [h], rfl⟩
  · have hd : decide (a ≤ n) = false := by simpa using h
    go_enter Try.func19, Try.ntmps19
    go_wp2
    go_ret
    exact ⟨rfl, rfl⟩

end Go.Proofs.Ytjeaicahdnoonaa

namespace Go.Proofs.Ytjeaicahdnoonaa
namespace Tr

def between (n a b : Int) : Bool := decide (a ≤ n) && decide (n ≤ b)
end Tr

end Go.Proofs.Ytjeaicahdnoonaa

namespace Go.Proofs.Ytjeaicahdnoonaa
namespace Sc

def intD (l : List Int) (i : Nat) : Int := l.getD i 0
def isNum (n : Int) : Bool := Tr.between n (-1000000) 1000000
end Sc

end Go.Proofs.Ytjeaicahdnoonaa

namespace Go.Proofs.Ytjeaicahdnoonaa
open Go.RowKit

theorem cell_below {w w' : World} (hb : Below w.heap.size w w') {b o : Nat} {v : Value} (h : w.cell? ⟨b, o, none⟩ = some v) : w'.cell? ⟨b, o, none⟩ = some v :=
  (hb.cell (p := ⟨b, o, none⟩) (World.block_lt_of_cell? w _ h)).trans h

end Go.Proofs.Ytjeaicahdnoonaa

namespace Go.Proofs.Ytjeaicahdnoonaa
open Go.RowKit

def IntsAt (w : World) (ao : Option Addr) (l : List Int) : Prop :=
  l = [] ∨ ∃ b off, ao = some ⟨b, off, none⟩ ∧ ∀ i, i < l.length → w.cell? ⟨b, off + i, none⟩ = some (.int .i64 (Sc.intD l i))
def IntsV (w : World) (v : Value) (l : List Int) : Prop := ∃ ao cap, v = .slice ao l.length cap ∧ IntsAt w ao l
/-- A program's value. -/
abbrev progVal (va vn vr : Value) : Value := .agg #[va, vn, vr]
theorem intsV_below {w w' : World} {v : Value} {l : List Int} (h : IntsV w v l) (hb : Below w.heap.size w w') : IntsV w' v l := by
  obtain ⟨ao, cap, rfl, h⟩ := h
  refine ⟨ao, cap, rfl, ?_⟩
  rcases h with h | ⟨b, off, rfl, hc⟩
  · exact .inl h
  · exact .inr ⟨b, off, rfl, fun i hi => cell_below hb (hc i hi)⟩
end Go.Proofs.Ytjeaicahdnoonaa

namespace Go.Proofs.Ytjeaicahdnoonaa
open Go.RowKit Go.Sort Go.Lib

/-- Blocks were laid, answers were drawn; nothing else. -/
def Gr (w w' : World) : Prop := ∃ q os, w' = grow (w.drewN q) os
theorem Gr.refl (w : World) : Gr w w := ⟨0, #[], by rw [grow_empty]; rfl⟩
theorem Gr.trans {a b c : World} (h : Gr a b) (k : Gr b c) : Gr a c := by
  obtain ⟨q, os, rfl⟩ := h
  obtain ⟨q2, os2, rfl⟩ := k
  refine ⟨q + q2, os ++ os2, ?_⟩
  show ({ a with drawn := a.drawn + q + q2, heap := a.heap ++ os ++ os2 } : World) = { a with drawn := a.drawn + (q + q2), heap := a.heap ++ (os ++ os2) }
  rw [Nat.add_assoc, Array.append_assoc]
theorem Gr.alloc {a b : World} (h : Gr a b) (o : Obj) : Gr a (b.alloc o) := h.trans ⟨0, #[o], by rw [alloc_eq_grow]; rfl⟩
theorem Gr.drew {a b : World} (h : Gr a b) : Gr a b.drew := h.trans ⟨1, #[], by rw [grow_empty]; rfl⟩
theorem Gr.below {a b : World} (h : Gr a b) : Below a.heap.size a b := by
  obtain ⟨q, os, rfl⟩ := h
  refine ⟨rfl, rfl, rfl, ?_, fun k hk => ?_⟩
  · show a.heap.size ≤ (a.heap ++ os).size
    simp
  · show (a.heap ++ os)[k]? = a.heap[k]?
    rw [Array.getElem?_append_left hk]

def Rl.factD (l : List Rl.Fc) (i : Nat) : Rl.Fc := l.getD i ⟨0, []⟩
def FactIn (w : World) (b off : Nat) (f : Rl.Fc) : Prop :=
  w.cell? ⟨b, off, none⟩ = some (.int .i64 f.pred) ∧ ∃ v, w.cell? ⟨b, off + 1, none⟩ = some v ∧ IntsV w v f.args
def FactsAt (w : World) (ao : Option Addr) (l : List Rl.Fc) : Prop :=
  l = [] ∨ ∃ b off, ao = some ⟨b, off, none⟩ ∧ ∀ i, i < l.length → FactIn w b (off + i * 2) (Rl.factD l i)
def FactsV (w : World) (v : Value) (l : List Rl.Fc) : Prop := ∃ ao cap, v = .slice ao l.length cap ∧ (l.length ≤ cap ∧ (ao = none → cap = 0)) ∧ FactsAt w ao l
/-- Lengths that are lengths. -/
def FFit (f : Rl.Fc) : Prop := f.args.length ≤ 9223372036854775807
theorem factIn_below {w w' : World} {b off : Nat} {f : Rl.Fc} (h : FactIn w b off f) (hb : Below w.heap.size w w') : FactIn w' b off f := by
  obtain ⟨h0, v, h1, h2⟩ := h
  exact ⟨cell_below hb h0, v, cell_below hb h1, intsV_below h2 hb⟩
theorem factsV_below {w w' : World} {v : Value} {l : List Rl.Fc} (h : FactsV w v l) (hb : Below w.heap.size w w') : FactsV w' v l := by
  obtain ⟨ao, cap, rfl, hc, h⟩ := h
  refine ⟨ao, cap, rfl, hc, ?_⟩
  rcases h with h | ⟨b, off, rfl, h⟩
  · exact .inl h
  · exact .inr ⟨b, off, rfl, fun i hi => factIn_below (h i hi) hb⟩
theorem facts_at {w : World} {ao : Option Addr} {l : List Rl.Fc} (h : FactsAt w ao l) (i : Nat) (hi : i < l.length) : ∃ b off, ao = some ⟨b, off, none⟩ ∧ FactIn w b (off + i * 2) (Rl.factD l i) := by
  rcases h with h | ⟨b, off, ha, hc⟩
  · rw [h] at hi; exact absurd hi (by simp)
  · exact ⟨b, off, ha, hc i hi⟩
theorem factD_drop (l : List Rl.Fc) (k : Nat) (hk : k < l.length) : l.drop k = Rl.factD l k :: l.drop (k + 1) := by
  rw [List.drop_eq_getElem_cons hk]
  simp [Rl.factD, List.getD_eq_getElem?_getD, hk]
theorem factD_mem (l : List Rl.Fc) (k : Nat) (hk : k < l.length) : Rl.factD l k ∈ l := by simp [Rl.factD, hk]
theorem factD_get (l : List Rl.Fc) (k : Nat) (hk : k < l.length) : l[k]? = some (Rl.factD l k) := by simp [Rl.factD, hk]
theorem ints_at {w : World} {ao : Option Addr} {l : List Int} (h : IntsAt w ao l) (i : Nat) (hi : i < l.length) : ∃ b off, ao = some ⟨b, off, none⟩ ∧ w.cell? ⟨b, off + i, none⟩ = some (.int .i64 (Sc.intD l i)) := by
  rcases h with h | ⟨b, off, ha, hc⟩
  · rw [h] at hi; exact absurd hi (by simp)
  · exact ⟨b, off, ha, hc i hi⟩

end Go.Proofs.Ytjeaicahdnoonaa

namespace Go.Proofs.Ytjeaicahdnoonaa
open Go.RowKit


end Go.Proofs.Ytjeaicahdnoonaa

namespace Go.Proofs.Ytjeaicahdnoonaa
open Go.RowKit

abbrev goneOn : Ending := .returned (.tuple #[])
end Go.Proofs.Ytjeaicahdnoonaa

namespace Go.Proofs.Ytjeaicahdnoonaa
open Go.RowKit

theorem below_two (w : World) (o1 o2 : Obj) : Below w.heap.size w ((w.alloc o1).alloc o2) := ((Below.refl _ _).alloc (Nat.le_refl _) _).alloc (by simp) _
theorem two_blocks {w w3 : World} {o1 o2 : Obj} (hb : Below ((w.alloc o1).alloc o2).heap.size ((w.alloc o1).alloc o2) w3) : w3.heap[w.heap.size]? = some o1 ∧ w3.heap[w.heap.size + 1]? = some o2 := by
  constructor
  · exact (hb.block _ (by simp; omega)).trans ((((Below.refl _ (w.alloc o1)).alloc (Nat.le_refl _) o2).block _ (by simp)).trans (heap_alloc_new w o1))
  · have := heap_alloc_new (w.alloc o1) o2
    exact (hb.block _ (by simp)).trans (by simpa using this)

end Go.Proofs.Ytjeaicahdnoonaa

namespace Go.Proofs.Ytjeaicahdnoonaa
open Go.RowKit

set_option maxRecDepth 100000 in
set_option maxHeartbeats 400000 in
theorem isNaN_any (x : Int) (w : World) : Calls Try.prog 61 #[.int .i64 x] w fun e w' => e = .returned (.bool false) ∧ w' = w := by
  have h : (x != x) = false := by simp
  go_enter Try.func61, Try.ntmps61
  go_wp2_with fail
  go_ret
  exact ⟨rfl, rfl⟩
set_option maxRecDepth 100000 in
set_option maxHeartbeats 400000 in
theorem cmpI_any (x y : Int) (w : World) : Calls Try.prog 55 #[.int .i64 x, .int .i64 y] w fun e w' => e = .returned (.int .i64 (Rl.cmpI x y)) ∧ w' = w := by
  have HC : Hid (Rl.cmpI x y = if x < y then -1 else if y < x then 1 else 0) := rfl
  go_enter Try.func55, Try.ntmps55
  go_wp2_with fail
  refine (isNaN_any x _).mono ?_
  rintro e w1 ⟨rfl, rfl⟩
  go_wp2_with fail
  refine (isNaN_any y _).mono ?_
  rintro e w1 ⟨rfl, rfl⟩
  by_cases h1 : x < y
  · have HV : Hid (Rl.cmpI x y = -1) := by show _ = _; rw [HC.out, if_pos h1]
    go_wp2_with fail
    go_ret
    exact ⟨by rw [HV.out]; rfl, rfl⟩
  · by_cases h2 : y < x
    · have HV : Hid (Rl.cmpI x y = 1) := by show _ = _; rw [HC.out, if_neg h1, if_pos h2]
      go_wp2_with fail
      go_ret
      exact ⟨by rw [HV.out]; rfl, rfl⟩
    · have HV : Hid (Rl.cmpI x y = 0) := by show _ = _; rw [HC.out, if_neg h1, if_neg h2]
      go_wp2_with fail
      go_ret
      exact ⟨by rw [HV.out]; rfl, rfl⟩
theorem cmpL_drop (x y : List Int) (k : Nat) (hx : k < x.length) (hy : k < y.length) : Rl.cmpL (x.drop k) (y.drop k) = if Rl.cmpI (Sc.intD x k) (Sc.intD y k) = 0 then Rl.cmpL (x.drop (k + 1)) (y.drop (k + 1)) else Rl.cmpI (Sc.intD x k) (Sc.intD y k) := by
  have h1 : x.drop k = Sc.intD x k :: x.drop (k + 1) := by rw [List.drop_eq_getElem_cons hx]; simp [Sc.intD, List.getD_eq_getElem?_getD, hx]
  have h2 : y.drop k = Sc.intD y k :: y.drop (k + 1) := by rw [List.drop_eq_getElem_cons hy]; simp [Sc.intD, List.getD_eq_getElem?_getD, hy]
  rw [h1, h2, Rl.cmpL]
theorem cmpL_left (x y : List Int) (k : Nat) (hx : k < x.length) (hy : y.length ≤ k) : Rl.cmpL (x.drop k) (y.drop k) = 1 := by
  rw [List.drop_of_length_le hy, List.drop_eq_getElem_cons hx]
  rfl
theorem cmpL_right (x y : List Int) (k : Nat) (hx : x.length ≤ k) (hy : k < y.length) : Rl.cmpL (x.drop k) (y.drop k) = -1 := by
  rw [List.drop_of_length_le hx, List.drop_eq_getElem_cons hy]
  rfl

set_option maxRecDepth 100000 in
set_option maxHeartbeats 1000000 in
theorem cmpInts_any (x y : List Int) (v u : Value) (w : World) (hV : IntsV w v x) (hU : IntsV w u y) (hx : x.length ≤ 9223372036854775807) :
    Calls Try.prog 60 #[v, u] w fun e w' => e = .returned (.int .i64 (Rl.cmpL x y)) ∧ w' = w := by
  obtain ⟨ao, cap, rfl, hA⟩ := hV
  obtain ⟨bo, cbp, rfl, hB⟩ := hU
  have HA : Hid (IntsAt w ao x) := hA
  have HB : Hid (IntsAt w bo y) := hB
  clear hA hB
  go_enter Try.func60, Try.ntmps60
  go_wp2_with fail
  go_loopw [11] (fun i wr => ∃ k : Nat, k ≤ x.length ∧ k ≤ y.length ∧ i = .int .i64 k ∧ wr = w ∧ Rl.cmpL (x.drop k) (y.drop k) = Rl.cmpL x y) (fun i _ => x.length - (intOf i).toNat)
  case atStart => exact ⟨0, Nat.zero_le _, Nat.zero_le _, rfl, rfl, rfl⟩
  case round =>
    obtain ⟨k, hk, hk2, rfl, rfl, hq⟩ := hrel
    have HQ : Hid _ := hq
    clear hq
    by_cases hl : k < x.length
    · obtain ⟨b, off, rfl, p0⟩ := ints_at HA.out k hl
      by_cases hl2 : k < y.length
      · obtain ⟨b2, off2, rfl, p1⟩ := ints_at HB.out k hl2
        have HD : Hid (Rl.cmpL x y = if Rl.cmpI (Sc.intD x k) (Sc.intD y k) = 0 then Rl.cmpL (x.drop (k + 1)) (y.drop (k + 1)) else Rl.cmpI (Sc.intD x k) (Sc.intD y k)) := by show _ = _; rw [← HQ.out]; exact cmpL_drop x y k hl hl2
        clear HQ
        generalize Sc.intD x k = a at *
        generalize Sc.intD y k = b' at *
        go_wp2_with fail
        refine (cmpI_any a b' _).mono ?_
        rintro e w1 ⟨rfl, rfl⟩
        cases hc : (Rl.cmpI a b' != 0)
        · have h0 : Rl.cmpI a b' = 0 := by simpa using hc
          have HV : Hid (Rl.cmpL (x.drop (k + 1)) (y.drop (k + 1)) = Rl.cmpL x y) := by show _ = _; rw [HD.out, if_pos h0]
          clear HD h0
          go_wp2_with fail
          go_roundw
          case rel => exact ⟨k + 1, by omega, by omega, by go_num, trivial, HV.out⟩
          case measure => simp [intOf]; omega
        · have h0 : ¬ Rl.cmpI a b' = 0 := by simpa using hc
          have HV : Hid (Rl.cmpL x y = Rl.cmpI a b') := by show _ = _; rw [HD.out, if_neg h0]
          clear HD h0
          go_wp2_with fail
          go_ret
          exact ⟨by rw [HV.out]; rfl, rfl⟩
      · have HV : Hid (Rl.cmpL x y = 1) := by show _ = _; rw [← HQ.out]; exact cmpL_left x y k hl (by omega)
        go_wp2_with fail
        go_ret
        exact ⟨by rw [HV.out]; rfl, rfl⟩
    · by_cases hl2 : x.length < y.length
      · have HV : Hid (Rl.cmpL x y = -1) := by show _ = _; rw [← HQ.out]; exact cmpL_right x y k (by omega) (by omega)
        go_wp2_with fail
        go_ret
        exact ⟨by rw [HV.out]; rfl, rfl⟩
      · have HV : Hid (Rl.cmpL x y = 0) := by show _ = _; rw [← HQ.out, List.drop_of_length_le (by omega), List.drop_of_length_le (by omega)]; rfl
        go_wp2_with fail
        go_ret
        exact ⟨by rw [HV.out]; rfl, rfl⟩

/-- A fact's value. -/
abbrev fcVal (p : Int) (v : Value) : Value := .agg #[.int .i64 p, v]

def Rl.orI (x y : Int) : Int := if x = 0 then y else x
set_option maxRecDepth 100000 in
set_option maxHeartbeats 1000000 in
theorem or2_any (b : Nat) (x y : Int) (w : World) (h0 : w.cell? ⟨b, 0, none⟩ = some (.int .i64 x)) (h1 : w.cell? ⟨b, 1, none⟩ = some (.int .i64 y)) :
    Calls Try.prog 54 #[.slice (some ⟨b, 0, none⟩) 2 2] w fun e w' => e = .returned (.int .i64 (Rl.orI x y)) ∧ w' = w := by
  go_enter Try.func54, Try.ntmps54
  go_wp2_with fail
  go_loopw [8] (fun i wr => ∃ k : Nat, k ≤ 2 ∧ i = .int .i64 k ∧ wr = w ∧ (1 ≤ k → x = 0) ∧ (2 ≤ k → y = 0)) (fun i _ => 2 - (intOf i).toNat)
  case atStart => exact ⟨0, by omega, rfl, rfl, by omega, by omega⟩
  case round =>
    obtain ⟨k, hk, rfl, rfl, hx, hy⟩ := hrel
    have HX : Hid _ := hx
    have HY : Hid _ := hy
    clear hx hy
    match k, hk with
    | 0, _ =>
      cases hc : (x != 0)
      · have h9 : x = 0 := by simpa using hc
        have HZ : Hid (x = 0) := h9
        clear h9
        go_wp2_with fail
        go_roundw
        case rel => exact ⟨1, by omega, by go_num, trivial, fun _ => HZ.out, fun h => absurd h (by omega)⟩
        case measure => simp [intOf]
      · have HV : Hid (Rl.orI x y = x) := if_neg (by simpa using hc)
        go_wp2_with fail
        go_ret
        exact ⟨by rw [HV.out]; rfl, rfl⟩
    | 1, _ =>
      have HV : Hid (Rl.orI x y = y) := if_pos (HX.out (by omega))
      cases hc : (y != 0)
      · have HZ : Hid (y = 0) := by show y = 0; simpa using hc
        go_wp2_with fail
        go_roundw
        case rel => exact ⟨2, by omega, by go_num, trivial, fun _ => HX.out (by omega), fun _ => HZ.out⟩
        case measure => simp [intOf]
      · go_wp2_with fail
        go_ret
        exact ⟨by rw [HV.out]; rfl, rfl⟩
    | 2, _ =>
      have HV : Hid (Rl.orI x y = 0) := by show _ = _; unfold Rl.orI; rw [if_pos (HX.out (by omega))]; exact HY.out (by omega)
      go_wp2_with fail
      go_ret
      exact ⟨by rw [HV.out]; rfl, rfl⟩

set_option maxRecDepth 100000 in
set_option maxHeartbeats 1000000 in
theorem Order_any (f g : Rl.Fc) (v u : Value) (w : World) (hV : IntsV w v f.args) (hU : IntsV w u g.args) (hx : FFit f) (hy : FFit g) :
    Calls Try.prog 36 #[fcVal f.pred v, fcVal g.pred u] w fun e w' => e = .returned (.int .i64 (Rl.ord f g)) ∧ Gr w w' := by
  obtain ⟨p, x⟩ := f
  obtain ⟨q, y⟩ := g
  have hV : IntsV w v x := hV
  have hU : IntsV w u y := hU
  obtain ⟨ao, cap, rfl, _⟩ := id hV
  obtain ⟨bo, cbp, rfl, _⟩ := id hU
  have HV : Hid (∀ z, Below w.heap.size w z → Calls Try.prog 60 #[.slice ao x.length cap, .slice bo y.length cbp] z fun e w' => e = .returned (.int .i64 (Rl.cmpL x y)) ∧ w' = z) := fun z hz => cmpInts_any x y _ _ z (intsV_below hV hz) (intsV_below hU hz) hx
  have HG : Hid (Gr w (((w.alloc (.cells #[.int .i64 p, .slice ao x.length cap] 49)).alloc (.cells #[.int .i64 q, .slice bo y.length cbp] 49)))) := ((Gr.refl w).alloc _).alloc _
  have t2 := two_blocks (w := w) (o1 := .cells #[.int .i64 p, .slice ao x.length cap] 49) (o2 := .cells #[.int .i64 q, .slice bo y.length cbp] 49) (Below.refl _ _)
  have HO : Hid (Rl.ord ⟨p, x⟩ ⟨q, y⟩ = Rl.orI (Rl.cmpI p q) (Rl.cmpL x y)) := rfl
  clear hV hU hx hy
  go_enter Try.func36, Try.ntmps36
  go_upto_region 1 with fail
  generalize (w.alloc (.cells #[.int .i64 p, .slice ao x.length cap] 49)).alloc (.cells #[.int .i64 q, .slice bo y.length cbp] 49) = w2 at *
  have c0 : w2.cell? ⟨w.heap.size, 0, none⟩ = some (.int .i64 p) := by rw [Lib.cell_of_heap t2.1]; rfl
  have c1 : w2.cell? ⟨w.heap.size, 1, none⟩ = some (.slice ao x.length cap) := by rw [Lib.cell_of_heap t2.1]; rfl
  have d0 : w2.cell? ⟨w.heap.size + 1, 0, none⟩ = some (.int .i64 q) := by rw [Lib.cell_of_heap t2.2]; rfl
  have d1 : w2.cell? ⟨w.heap.size + 1, 1, none⟩ = some (.slice bo y.length cbp) := by rw [Lib.cell_of_heap t2.2]; rfl
  have HB : Hid (Below w.heap.size w w2) := HG.out.below
  clear t2
  generalize Rl.cmpL x y = cl at *
  have HI : Hid (∀ z, Calls Try.prog 55 #[.int .i64 p, .int .i64 q] z fun e w' => e = .returned (.int .i64 (Rl.cmpI p q)) ∧ w' = z) := fun z => cmpI_any p q z
  generalize Rl.cmpI p q = ci at *
  have HGA : ∀ a b o, Gr a b → Gr a (b.alloc o) := fun _ _ o h => h.alloc o
  have HGD : ∀ a b, Gr a b → Gr a b.drew := fun _ _ h => h.drew
  have HGR : Gr w2 w2 := Gr.refl w2
  have HV2 : Hid (∀ z, Gr w2 z → Calls Try.prog 60 #[.slice ao x.length cap, .slice bo y.length cbp] z fun e w' => e = .returned (.int .i64 cl) ∧ w' = z) := fun z hz => HV.out z (HB.out.trans (hz.below.mono HB.out.size))
  go_region_held3 (fun yy => yy.cell? ⟨w.heap.size, 0, none⟩ = some (.int .i64 p) ∧ yy.cell? ⟨w.heap.size, 1, none⟩ = some (.slice ao x.length cap) ∧ yy.cell? ⟨w.heap.size + 1, 0, none⟩ = some (.int .i64 q) ∧ yy.cell? ⟨w.heap.size + 1, 1, none⟩ = some (.slice bo y.length cbp) ∧ Gr w2 yy) (go_keep) (first
    | (go_at_call 55; refine Calls.mono (HI.out _) ?_; rintro e z1 ⟨rfl, rfl⟩)
    | (go_at_call 60; refine Calls.mono (HV2.out _ ?_) ?_; (simp [*]); rintro e z1 ⟨rfl, rfl⟩)
    | (go_at_call 54; refine Calls.mono (or2_any _ ci cl _ ?_ ?_) ?_; (simp); (simp); rintro e z1 ⟨rfl, rfl⟩))
  have HF : Hid (Gr w (w2.alloc (.cells #[.int .i64 ci, .int .i64 cl] 3)).drew) := (HG.out.alloc _).drew
  clear HGA HGD HGR HV2 HV HI HB c0 c1 d0 d1 HG
  go_wp2_with fail
  go_ret
  exact ⟨by rw [HO.out]; rfl, HF.out⟩

end Go.Proofs.Ytjeaicahdnoonaa

namespace Go.Proofs.Ytjeaicahdnoonaa
open Go.RowKit


end Go.Proofs.Ytjeaicahdnoonaa

namespace Go.Proofs.Ytjeaicahdnoonaa
open Go.RowKit

abbrev treeVal (v : Value) : Value := .agg #[v]

end Go.Proofs.Ytjeaicahdnoonaa

namespace Go.Proofs.Ytjeaicahdnoonaa
open Go.RowKit

end Go.Proofs.Ytjeaicahdnoonaa

namespace Go.Proofs.Ytjeaicahdnoonaa
open Go.RowKit

end Go.Proofs.Ytjeaicahdnoonaa

namespace Go.Proofs.Ytjeaicahdnoonaa
open Go.RowKit

theorem rl_new (w : World) (o : Obj) : (w.alloc o).heap[w.heap.size]? = some o := by show (w.heap.push o)[w.heap.size]? = some o; simp
/-- A fact, and the value of its numbers' list. -/
abbrev Fv := Rl.Fc × Value
def fcCells (x : Fv) : List Value := [.int .i64 x.1.pred, x.2]
/-- A row of facts of one's own: block g. -/
abbrev FRow (w : World) (B g cap : Nat) (q : List Fv) : Prop := w.ownsRow B 49 2 (.slice (some ⟨g, 0, none⟩) q.length cap) q.length (q.map fcCells).flatten
section
variable {w w' : World} {B g cap : Nat} {q : List Fv}
end

end Go.Proofs.Ytjeaicahdnoonaa

namespace Go.Proofs.Ytjeaicahdnoonaa
open Go.Shelf Go.RowKit Go.Lib Go.Sort

end Go.Proofs.Ytjeaicahdnoonaa

namespace Go.Proofs.Ytjeaicahdnoonaa
open Go.RowKit

/-- Facts in new memory: the row, and each one's numbers. -/
def FactsP (B : Nat) (w : World) (v : Value) (s : List Rl.Fc) : Prop :=
  ∃ q : List Fv, q.map (·.1) = s ∧ w.ownsRow B 49 2 v q.length (q.map fcCells).flatten ∧ ∀ p, p ∈ q → w.ownsRow B 3 1 p.2 p.1.args.length (p.1.args.map (Value.int .i64))
theorem rl_own_le {w : World} {base base' size n : Nat} {e : TypeId} {v : Value} {xs : List Value} (h : w.ownsRow base e size v n xs) (hb : base' ≤ base) : w.ownsRow base' e size v n xs := by
  obtain ⟨h1, h2⟩ := h
  refine ⟨h1, ?_⟩
  rcases h2 with h2 | ⟨g, cap, cur, hv, hg, r⟩
  · exact .inl h2
  · exact .inr ⟨g, cap, cur, hv, Nat.le_trans hb hg, r⟩
theorem ownsRow_forms9 {w : World} {base size n : Nat} {e : TypeId} {v : Value} {xs : List Value} (h : w.ownsRow base e size v n xs) : (v = .slice none 0 0 ∧ n = 0) ∨ ∃ g cap, v = .slice (some ⟨g, 0, none⟩) n cap := by
  rcases h.2 with h2 | ⟨g, cap, cur, hv, _⟩
  · exact .inl h2
  · exact .inr ⟨g, cap, hv⟩
theorem news2 (w : World) (a b : Value) (e : TypeId) : ∀ j z, [a, b][j]? = some z → (w.alloc (.cells #[a, b] e)).cell? ((⟨w.heap.size, 0, none⟩ : Addr).add j) = some z := by
  intro j z hj
  have hbx := rl_new w (.cells #[a, b] e)
  match j, hj with
  | 0, hj =>
    have hz : a = z := by simpa using hj
    subst hz
    rw [Addr.add_lit, Lib.cell_of_heap hbx]
    rfl
  | 1, hj =>
    have hz : b = z := by simpa using hj
    subst hz
    rw [Addr.add_lit, Lib.cell_of_heap hbx]
    rfl
end Go.Proofs.Ytjeaicahdnoonaa

namespace Go.Proofs.Ytjeaicahdnoonaa
open Go.RowKit

set_option maxRecDepth 100000 in
set_option maxHeartbeats 1000000 in
theorem OrderOf_any (f g : Rl.Fc) (v u : Value) (w : World) (hV : IntsV w v f.args) (hU : IntsV w u g.args) (hx : FFit f) (hy : FFit g) :
    Calls Try.prog 21 #[fcVal f.pred v, fcVal g.pred u] w fun e w' => e = .returned (.int .i64 (Rl.ord f g)) ∧ Below w.heap.size w w' := by
  obtain ⟨p, x⟩ := f
  obtain ⟨q, y⟩ := g
  have hV : IntsV w v x := hV
  have hU : IntsV w u y := hU
  have hx : x.length ≤ 9223372036854775807 := hx
  have hy : y.length ≤ 9223372036854775807 := hy
  obtain ⟨ao, cap, rfl, hA⟩ := hV
  obtain ⟨bo, cbp, rfl, hB⟩ := hU
  have HA : Hid (IntsAt w ao x) := hA
  have HB : Hid (IntsAt w bo y) := hB
  have t2 := two_blocks (w := w) (o1 := .cells #[.int .i64 p, .slice ao x.length cap] 49) (o2 := .cells #[.int .i64 q, .slice bo y.length cbp] 49) (Below.refl _ _)
  have hbw := below_two w (.cells #[.int .i64 p, .slice ao x.length cap] 49) (.cells #[.int .i64 q, .slice bo y.length cbp] 49)
  have HO : Hid (Rl.ord ⟨p, x⟩ ⟨q, y⟩ = if Rl.cmpI p q = 0 then Rl.cmpL x y else Rl.cmpI p q) := rfl
  clear hA hB
  have c0 : ((w.alloc (.cells #[.int .i64 p, .slice ao x.length cap] 49)).alloc (.cells #[.int .i64 q, .slice bo y.length cbp] 49)).cell? ⟨w.heap.size, 0, none⟩ = some (.int .i64 p) := by rw [Lib.cell_of_heap t2.1]; rfl
  have c1 : ((w.alloc (.cells #[.int .i64 p, .slice ao x.length cap] 49)).alloc (.cells #[.int .i64 q, .slice bo y.length cbp] 49)).cell? ⟨w.heap.size, 1, none⟩ = some (.slice ao x.length cap) := by rw [Lib.cell_of_heap t2.1]; rfl
  have d0 : ((w.alloc (.cells #[.int .i64 p, .slice ao x.length cap] 49)).alloc (.cells #[.int .i64 q, .slice bo y.length cbp] 49)).cell? ⟨w.heap.size + 1, 0, none⟩ = some (.int .i64 q) := by rw [Lib.cell_of_heap t2.2]; rfl
  have d1 : ((w.alloc (.cells #[.int .i64 p, .slice ao x.length cap] 49)).alloc (.cells #[.int .i64 q, .slice bo y.length cbp] 49)).cell? ⟨w.heap.size + 1, 1, none⟩ = some (.slice bo y.length cbp) := by rw [Lib.cell_of_heap t2.2]; rfl
  clear t2
  by_cases hpq : p = q
  · subst hpq
    have HO2 : Hid (Rl.ord ⟨p, x⟩ ⟨p, y⟩ = Rl.cmpL x y) := by show _ = _; rw [HO.out, if_pos (Rl.cmpI_self p)]
    have g0 : (p != p) = false := by simp
    clear HO
    go_enter Try.func21, Try.ntmps21
    go_wp2_with fail
    generalize (w.alloc (.cells #[.int .i64 p, .slice ao x.length cap] 49)).alloc (.cells #[.int .i64 p, .slice bo y.length cbp] 49) = w2 at *
    have HCA : Hid (∀ k, k < x.length → ∃ b off, ao = some ⟨b, off, none⟩ ∧ w2.cell? ⟨b, off + k, none⟩ = some (.int .i64 (Sc.intD x k))) := fun k hk => by
      obtain ⟨b, off, h1, h2⟩ := ints_at HA.out k hk
      exact ⟨b, off, h1, cell_below hbw h2⟩
    have HCB : Hid (∀ k, k < y.length → ∃ b off, bo = some ⟨b, off, none⟩ ∧ w2.cell? ⟨b, off + k, none⟩ = some (.int .i64 (Sc.intD y k))) := fun k hk => by
      obtain ⟨b, off, h1, h2⟩ := ints_at HB.out k hk
      exact ⟨b, off, h1, cell_below hbw h2⟩
    clear HA HB
    have HBW : Hid (∀ n, Below w.heap.size w (w2.drewN n)) := fun n => ⟨hbw.os, hbw.tape, hbw.output, hbw.size, hbw.block⟩
    clear hbw
    go_loopw [5] (fun i wr => ∃ k nq : Nat, k ≤ x.length ∧ k ≤ y.length ∧ i = .int .i64 k ∧ wr = w2.drewN nq ∧ Rl.cmpL (x.drop k) (y.drop k) = Rl.cmpL x y) (fun i _ => x.length - (intOf i).toNat)
    case atStart => exact ⟨0, 0, Nat.zero_le _, Nat.zero_le _, rfl, rfl, rfl⟩
    case round =>
      obtain ⟨k, nq, hk, hk2, rfl, rfl, hq⟩ := hrel
      have HQ : Hid _ := hq
      clear hq
      by_cases hl : k < x.length
      · by_cases hl2 : k < y.length
        · obtain ⟨b, off, rfl, p0⟩ := HCA.out k hl
          obtain ⟨b2, off2, rfl, p1⟩ := HCB.out k hl2
          have HD : Hid (Rl.cmpL x y = if Rl.cmpI (Sc.intD x k) (Sc.intD y k) = 0 then Rl.cmpL (x.drop (k + 1)) (y.drop (k + 1)) else Rl.cmpI (Sc.intD x k) (Sc.intD y k)) := by show _ = _; rw [← HQ.out]; exact cmpL_drop x y k hl hl2
          clear HQ
          generalize Sc.intD x k = a at *
          generalize Sc.intD y k = b' at *
          have c1n : ∀ n, (w2.drewN n).cell? ⟨w.heap.size, 1, none⟩ = some (.slice (some ⟨b, off, none⟩) x.length cap) := fun _ => c1
          have d1n : ∀ n, (w2.drewN n).cell? ⟨w.heap.size + 1, 1, none⟩ = some (.slice (some ⟨b2, off2, none⟩) y.length cbp) := fun _ => d1
          have p0n : ∀ n, (w2.drewN n).cell? ⟨b, off + k, none⟩ = some (.int .i64 a) := fun _ => p0
          have p1n : ∀ n, (w2.drewN n).cell? ⟨b2, off2 + k, none⟩ = some (.int .i64 b') := fun _ => p1
          go_upto_region 8 with fail
          have e1 := c1n nq
          have e2 := d1n nq
          have e3 := p0n nq
          have e4 := p1n nq
          generalize hz : w2.drewN nq = z at *
          go_region_held3 (fun yy => yy.cell? ⟨w.heap.size, 1, none⟩ = some (.slice (some ⟨b, off, none⟩) x.length cap) ∧ yy.cell? ⟨w.heap.size + 1, 1, none⟩ = some (.slice (some ⟨b2, off2, none⟩) y.length cbp) ∧ yy.cell? ⟨b, off + k, none⟩ = some (.int .i64 a) ∧ yy.cell? ⟨b2, off2 + k, none⟩ = some (.int .i64 b')) (go_keep) (fail)
          clear e1 e2 e3 e4
          have hzd : z.drew = w2.drewN (nq + 1) := by rw [← hz]; rfl
          rw [hzd]
          clear hz hzd
          have HI : Hid (Rl.cmpI a b' = if a < b' then -1 else if b' < a then 1 else 0) := rfl
          by_cases h1 : a < b'
          · have HV : Hid (Rl.cmpL x y = -1) := by
              show _ = _
              have h3 : Rl.cmpI a b' = -1 := by rw [HI.out, if_pos h1]
              rw [HD.out, if_neg (by rw [h3]; decide), h3]
            go_wp2_with fail
            go_ret
            exact ⟨by rw [HO2.out, HV.out]; rfl, HBW.out _⟩
          · go_upto_region 10 with fail
            have e1 := c1n (nq + 1)
            have e2 := d1n (nq + 1)
            have e3 := p0n (nq + 1)
            have e4 := p1n (nq + 1)
            generalize hz : w2.drewN (nq + 1) = z at *
            go_region_held3 (fun yy => yy.cell? ⟨w.heap.size, 1, none⟩ = some (.slice (some ⟨b, off, none⟩) x.length cap) ∧ yy.cell? ⟨w.heap.size + 1, 1, none⟩ = some (.slice (some ⟨b2, off2, none⟩) y.length cbp) ∧ yy.cell? ⟨b, off + k, none⟩ = some (.int .i64 a) ∧ yy.cell? ⟨b2, off2 + k, none⟩ = some (.int .i64 b')) (go_keep) (fail)
            clear e1 e2 e3 e4
            have hzd : z.drew = w2.drewN (nq + 1 + 1) := by rw [← hz]; rfl
            rw [hzd]
            clear hz hzd
            by_cases h2 : b' < a
            · have HV : Hid (Rl.cmpL x y = 1) := by
                show _ = _
                have h3 : Rl.cmpI a b' = 1 := by rw [HI.out, if_neg h1, if_pos h2]
                rw [HD.out, if_neg (by rw [h3]; decide), h3]
              go_wp2_with fail
              go_ret
              exact ⟨by rw [HO2.out, HV.out]; rfl, HBW.out _⟩
            · have HV : Hid (Rl.cmpL (x.drop (k + 1)) (y.drop (k + 1)) = Rl.cmpL x y) := by
                show _ = _
                have h3 : Rl.cmpI a b' = 0 := by rw [HI.out, if_neg h1, if_neg h2]
                rw [HD.out, if_pos h3]
              go_wp2_with fail
              go_roundw
              case rel => exact ⟨k + 1, nq + 1 + 1, by omega, by omega, by go_num, rfl, HV.out⟩
              case measure => simp [intOf]; omega
        · have HV : Hid (Rl.cmpL x y = 1) := by show _ = _; rw [← HQ.out]; exact cmpL_left x y k hl (by omega)
          have hyx : y.length < x.length := by omega
          have hyx2 : ¬ x.length < y.length := by omega
          go_wp2_with fail
          go_ret
          exact ⟨by rw [HO2.out, HV.out]; rfl, HBW.out _⟩
      · by_cases hl2 : x.length < y.length
        · have HV : Hid (Rl.cmpL x y = -1) := by show _ = _; rw [← HQ.out]; exact cmpL_right x y k (by omega) (by omega)
          go_wp2_with fail
          go_ret
          exact ⟨by rw [HO2.out, HV.out]; rfl, HBW.out _⟩
        · have HV : Hid (Rl.cmpL x y = 0) := by show _ = _; rw [← HQ.out, List.drop_of_length_le (by omega), List.drop_of_length_le (by omega)]; rfl
          have hyx : ¬ y.length < x.length := by omega
          go_wp2_with fail
          go_ret
          exact ⟨by rw [HO2.out, HV.out]; rfl, HBW.out _⟩
  · have g0 : (p != q) = true := by simpa using hpq
    have HO2 : Hid (Rl.ord ⟨p, x⟩ ⟨q, y⟩ = Rl.cmpI p q) := by show _ = _; rw [HO.out, if_neg (fun h => hpq (Rl.cmpI_zero.mp h))]
    have HC : Hid (Rl.cmpI p q = if p < q then -1 else if q < p then 1 else 0) := rfl
    clear HO
    by_cases h1 : p < q
    · have HV : Hid (Rl.cmpI p q = -1) := by show _ = _; rw [HC.out, if_pos h1]
      go_enter Try.func21, Try.ntmps21
      go_wp2_with fail
      go_ret
      exact ⟨by rw [HO2.out, HV.out]; rfl, hbw⟩
    · have HV : Hid (Rl.cmpI p q = 1) := by show _ = _; rw [HC.out, if_neg h1, if_pos (by omega)]
      go_enter Try.func21, Try.ntmps21
      go_wp2_with fail
      go_ret
      exact ⟨by rw [HO2.out, HV.out]; rfl, hbw⟩

end Go.Proofs.Ytjeaicahdnoonaa

namespace Go.Proofs.Ytjeaicahdnoonaa
open Go.RowKit

set_option maxRecDepth 100000 in
set_option maxHeartbeats 1000000 in
theorem SameFacts_refl (l : List Rl.Fc) (v u : Value) (w : World) (hV : FactsV w v l) (hU : FactsV w u l) (hl : l.length ≤ 9223372036854775807) (hf : ∀ f, f ∈ l → FFit f) :
    Calls Try.prog 38 #[v, u] w fun e w' => e = .returned (.bool true) ∧ Below w.heap.size w w' := by
  obtain ⟨ao, cap, rfl, _, hA⟩ := hV
  obtain ⟨bo, cbp, rfl, _, hB⟩ := hU
  have HA : Hid (FactsAt w ao l) := hA
  have HB : Hid (FactsAt w bo l) := hB
  have HF : Hid (∀ f, f ∈ l → FFit f) := hf
  have hne : ((l.length : Int) != (l.length : Int)) = false := by simp
  clear hA hB hf
  go_enter Try.func38, Try.ntmps38
  go_wp2_with fail
  go_loopw [5] (fun i wr => ∃ k : Nat, k ≤ l.length ∧ i = .int .i64 k ∧ Below w.heap.size w wr) (fun i _ => l.length - (intOf i).toNat)
  case atStart => exact ⟨0, Nat.zero_le _, rfl, Below.refl _ _⟩
  case round =>
    obtain ⟨k, hk, rfl, hbw⟩ := hrel
    by_cases hlt : k < l.length
    · obtain ⟨b, off, rfl, p0, fv, p1, hIv⟩ := facts_at HA.out k hlt
      obtain ⟨b2, off2, rfl, r0, gv, r1, hJv⟩ := facts_at HB.out k hlt
      have hmem := factD_mem l k hlt
      have HIV : Hid (IntsV w fv (Rl.factD l k).args ∧ IntsV w gv (Rl.factD l k).args ∧ FFit (Rl.factD l k)) := ⟨hIv, hJv, HF.out _ hmem⟩
      obtain ⟨af, cf, rfl, _⟩ := hIv
      obtain ⟨ag, cg, rfl, _⟩ := hJv
      have a0 := cell_below hbw p0
      have a1 := cell_below hbw p1
      have c0 := cell_below hbw r0
      have c1 := cell_below hbw r1
      clear p0 p1 r0 r1 hmem
      generalize Rl.factD l k = g at *
      have HN : Hid (∀ z, Below wr.heap.size wr z → Calls Try.prog 21 #[fcVal g.pred (.slice af g.args.length cf), fcVal g.pred (.slice ag g.args.length cg)] z fun e w' => e = .returned (.int .i64 0) ∧ Below wr.heap.size wr w' ∧ w'.cell? ⟨b, off + k * 2, none⟩ = some (.int .i64 g.pred) ∧ w'.cell? ⟨b, off + k * 2 + 1, none⟩ = some (.slice af g.args.length cf) ∧ w'.cell? ⟨b2, off2 + k * 2, none⟩ = some (.int .i64 g.pred) ∧ w'.cell? ⟨b2, off2 + k * 2 + 1, none⟩ = some (.slice ag g.args.length cg)) := by
        intro z hz
        have hzw := hbw.trans (hz.mono hbw.size)
        refine (OrderOf_any g g _ _ z (intsV_below HIV.out.1 hzw) (intsV_below HIV.out.2.1 hzw) HIV.out.2.2 HIV.out.2.2).mono ?_
        rintro e w' ⟨h1, h2⟩
        have h3 := hz.trans (h2.mono hz.size)
        rw [Rl.ord_self] at h1
        exact ⟨h1, h3, cell_below h3 a0, cell_below h3 a1, cell_below h3 c0, cell_below h3 c1⟩
      have HGA : ∀ b o, Below wr.heap.size wr b → Below wr.heap.size wr (b.alloc o) := fun _ o h => h.alloc h.size o
      have HGD : ∀ b, Below wr.heap.size wr b → Below wr.heap.size wr b.drew := fun _ h => ⟨h.os, h.tape, h.output, h.size, h.block⟩
      have HGR : Below wr.heap.size wr wr := Below.refl _ _
      go_upto_region 6 with fail
      go_region_held3 (fun yy => yy.cell? ⟨b, off + k * 2, none⟩ = some (.int .i64 g.pred) ∧ yy.cell? ⟨b, off + k * 2 + 1, none⟩ = some (.slice af g.args.length cf) ∧ yy.cell? ⟨b2, off2 + k * 2, none⟩ = some (.int .i64 g.pred) ∧ yy.cell? ⟨b2, off2 + k * 2 + 1, none⟩ = some (.slice ag g.args.length cg) ∧ Below wr.heap.size wr yy) (go_keep) (
        (go_at_call 21; refine Calls.mono (HN.out _ ?_) ?_; (simp [*]); rintro e w2 ⟨rfl, hb2, hz2, hz3, hz4, hz5⟩))
      clear HGA HGD HGR HN hz2 hz3 hz4 hz5
      have hb3 := hbw.trans (hb2.mono hbw.size)
      clear a0 a1 c0 c1 hb2 hbw
      go_wp2_with fail
      go_roundw
      case rel => exact ⟨k + 1, by omega, by go_num, hb3⟩
      case measure => simp [intOf]; omega
    · go_wp2_with fail
      go_ret
      exact ⟨rfl, hbw⟩

end Go.Proofs.Ytjeaicahdnoonaa

namespace Go.Proofs.Ytjeaicahdnoonaa
open Go.RowKit

namespace Md
theorem take_same {l m : List Rl.Fc} {k : Nat} (h : l.take k = m.take k) (hl : k < l.length) (hm : k < m.length) (he : Rl.factD l k = Rl.factD m k) : l.take (k + 1) = m.take (k + 1) := by
  rw [List.take_add_one, List.take_add_one, factD_get l k hl, factD_get m k hm, h, he]
theorem all_same {l m : List Rl.Fc} {k : Nat} (h : l.take k = m.take k) (hlm : l.length = m.length) (hk : ¬ k < l.length) : l = m := by
  rw [List.take_of_length_le (by omega), List.take_of_length_le (by omega)] at h
  exact h
end Md
set_option maxRecDepth 100000 in
set_option maxHeartbeats 1000000 in
theorem SameFacts_any (l m : List Rl.Fc) (v u : Value) (w : World) (hV : FactsV w v l) (hU : FactsV w u m) (hl : l.length ≤ 9223372036854775807) (hf : ∀ f, f ∈ l → FFit f) (hg : ∀ f, f ∈ m → FFit f) :
    Calls Try.prog 38 #[v, u] w fun e w' => ∃ t, e = .returned (.bool t) ∧ (t = true ↔ l = m) ∧ Below w.heap.size w w' := by
  obtain ⟨ao, cap, rfl, _, hA⟩ := hV
  obtain ⟨bo, cbp, rfl, _, hB⟩ := hU
  have HA : Hid (FactsAt w ao l) := hA
  have HB : Hid (FactsAt w bo m) := hB
  have HF : Hid ((∀ f, f ∈ l → FFit f) ∧ ∀ f, f ∈ m → FFit f) := ⟨hf, hg⟩
  clear hA hB hf hg
  by_cases hlen : l.length = m.length
  · rw [← hlen]
    have HLEN : Hid (l.length = m.length) := hlen
    have hne : ((l.length : Int) != (l.length : Int)) = false := by simp
    clear hlen
    go_enter Try.func38, Try.ntmps38
    go_wp2_with fail
    go_loopw [5] (fun i wr => ∃ k : Nat, k ≤ l.length ∧ i = .int .i64 k ∧ Hid (l.take k = m.take k) ∧ Below w.heap.size w wr) (fun i _ => l.length - (intOf i).toNat)
    case atStart => exact ⟨0, Nat.zero_le _, rfl, rfl, Below.refl _ _⟩
    case round =>
      obtain ⟨k, hk, rfl, HTK, hbw⟩ := hrel
      by_cases hlt : k < l.length
      · obtain ⟨b, off, rfl, p0, fv, p1, hIv⟩ := facts_at HA.out k hlt
        have hltm : k < m.length := by rw [← HLEN.out]; exact hlt
        obtain ⟨b2, off2, rfl, r0, gv, r1, hJv⟩ := facts_at HB.out k hltm
        have HIV : Hid (IntsV w fv (Rl.factD l k).args ∧ IntsV w gv (Rl.factD m k).args ∧ FFit (Rl.factD l k) ∧ FFit (Rl.factD m k)) := ⟨hIv, hJv, HF.out.1 _ (factD_mem l k hlt), HF.out.2 _ (factD_mem m k hltm)⟩
        have HNX : Hid (Rl.factD l k = Rl.factD m k → l.take (k + 1) = m.take (k + 1)) := fun e => Md.take_same HTK.out hlt hltm e
        have HNO : Hid (¬ Rl.factD l k = Rl.factD m k → ¬ l = m) := fun h e => h (by rw [e])
        obtain ⟨af, cf, rfl, _⟩ := hIv
        obtain ⟨ag, cg, rfl, _⟩ := hJv
        have a0 := cell_below hbw p0
        have a1 := cell_below hbw p1
        have c0 := cell_below hbw r0
        have c1 := cell_below hbw r1
        clear p0 p1 r0 r1 hltm HTK
        generalize Rl.factD l k = g at *
        generalize Rl.factD m k = g2 at *
        have HN : Hid (∀ z, Below wr.heap.size wr z → Calls Try.prog 21 #[fcVal g.pred (.slice af g.args.length cf), fcVal g2.pred (.slice ag g2.args.length cg)] z fun e w' => e = .returned (.int .i64 (Rl.ord g g2)) ∧ Below wr.heap.size wr w' ∧ w'.cell? ⟨b, off + k * 2, none⟩ = some (.int .i64 g.pred) ∧ w'.cell? ⟨b, off + k * 2 + 1, none⟩ = some (.slice af g.args.length cf) ∧ w'.cell? ⟨b2, off2 + k * 2, none⟩ = some (.int .i64 g2.pred) ∧ w'.cell? ⟨b2, off2 + k * 2 + 1, none⟩ = some (.slice ag g2.args.length cg)) := by
          intro z hz
          have hzw := hbw.trans (hz.mono hbw.size)
          refine (OrderOf_any g g2 _ _ z (intsV_below HIV.out.1 hzw) (intsV_below HIV.out.2.1 hzw) HIV.out.2.2.1 HIV.out.2.2.2).mono ?_
          rintro e w' ⟨h1, h2⟩
          have h3 := hz.trans (h2.mono hz.size)
          exact ⟨h1, h3, cell_below h3 a0, cell_below h3 a1, cell_below h3 c0, cell_below h3 c1⟩
        have HGA : ∀ b o, Below wr.heap.size wr b → Below wr.heap.size wr (b.alloc o) := fun _ o h => h.alloc h.size o
        have HGD : ∀ b, Below wr.heap.size wr b → Below wr.heap.size wr b.drew := fun _ h => ⟨h.os, h.tape, h.output, h.size, h.block⟩
        have HGR : Below wr.heap.size wr wr := Below.refl _ _
        by_cases ho : Rl.ord g g2 = 0
        · have HE : Hid _ := HNX.out (Rl.ord_zero.mp ho)
          rw [ho] at HN
          clear ho HNX HNO
          go_upto_region 6 with fail
          go_region_held3 (fun yy => yy.cell? ⟨b, off + k * 2, none⟩ = some (.int .i64 g.pred) ∧ yy.cell? ⟨b, off + k * 2 + 1, none⟩ = some (.slice af g.args.length cf) ∧ yy.cell? ⟨b2, off2 + k * 2, none⟩ = some (.int .i64 g2.pred) ∧ yy.cell? ⟨b2, off2 + k * 2 + 1, none⟩ = some (.slice ag g2.args.length cg) ∧ Below wr.heap.size wr yy) (go_keep) (
            (go_at_call 21; refine Calls.mono (HN.out _ ?_) ?_; (simp [*]); rintro e w2 ⟨rfl, hb2, hz2, hz3, hz4, hz5⟩))
          clear HGA HGD HGR HN hz2 hz3 hz4 hz5
          have hb3 := hbw.trans (hb2.mono hbw.size)
          clear a0 a1 c0 c1 hb2 hbw
          go_wp2_with fail
          go_roundw
          case rel => exact ⟨k + 1, by omega, by go_num, HE.out, hb3⟩
          case measure => simp [intOf]; omega
        · have HE : Hid (¬ l = m) := HNO.out (fun e => ho (Rl.ord_zero.mpr e))
          have gne : (Rl.ord g g2 != 0) = true := by simpa using ho
          generalize Rl.ord g g2 = od at *
          clear ho HNX HNO
          go_upto_region 6 with fail
          go_region_held3 (fun yy => yy.cell? ⟨b, off + k * 2, none⟩ = some (.int .i64 g.pred) ∧ yy.cell? ⟨b, off + k * 2 + 1, none⟩ = some (.slice af g.args.length cf) ∧ yy.cell? ⟨b2, off2 + k * 2, none⟩ = some (.int .i64 g2.pred) ∧ yy.cell? ⟨b2, off2 + k * 2 + 1, none⟩ = some (.slice ag g2.args.length cg) ∧ Below wr.heap.size wr yy) (go_keep) (
            (go_at_call 21; refine Calls.mono (HN.out _ ?_) ?_; (simp [*]); rintro e w2 ⟨rfl, hb2, hz2, hz3, hz4, hz5⟩))
          clear HGA HGD HGR HN hz2 hz3 hz4 hz5
          have hb3 := hbw.trans (hb2.mono hbw.size)
          clear a0 a1 c0 c1 hb2 hbw
          go_wp2_with fail
          go_ret
          exact ⟨false, rfl, ⟨fun h => (by cases h), fun h => absurd h HE.out⟩, hb3⟩
      · have HE : Hid (l = m) := Md.all_same HTK.out HLEN.out hlt
        go_wp2_with fail
        go_ret
        exact ⟨true, rfl, ⟨fun _ => HE.out, fun _ => rfl⟩, hbw⟩
  · have HE : Hid (¬ l = m) := fun e => hlen (by rw [e])
    have hne : ((l.length : Int) != (m.length : Int)) = true := by simp; omega
    have hne2 : (l.length != m.length) = true := by simpa using hlen
    clear hlen
    go_enter Try.func38, Try.ntmps38
    go_wp2_with fail
    go_ret
    exact ⟨false, rfl, ⟨fun h => (by cases h), fun h => absurd h HE.out⟩, Below.refl _ _⟩
end Go.Proofs.Ytjeaicahdnoonaa

namespace Go.Proofs.Ytjeaicahdnoonaa
open Go.RowKit

set_option maxRecDepth 100000 in
set_option maxHeartbeats 400000 in
theorem fact_any (p : Int) (a : Option Addr) (n c : Nat) (w : World) :
    Calls Try.prog 51 #[.int .i64 p, .slice a n c] w fun e w' => e = .returned (fcVal p (.slice a n c)) ∧ Below w.heap.size w w' := by
  have hb0 : ∀ o, Below w.heap.size w (w.alloc o) := fun o => (Below.refl _ _).alloc (Nat.le_refl _) o
  go_enter Try.func51, Try.ntmps51
  go_wp2_with fail
  have hGa := rl_new w (.cells #[.int .i64 p, .slice a n c] 49)
  have d0 : (w.alloc (.cells #[.int .i64 p, .slice a n c] 49)).cell? ⟨w.heap.size, 0, none⟩ = some (.int .i64 p) := by rw [Lib.cell_of_heap hGa]; rfl
  have d1 : (w.alloc (.cells #[.int .i64 p, .slice a n c] 49)).cell? ⟨w.heap.size, 1, none⟩ = some (.slice a n c) := by rw [Lib.cell_of_heap hGa]; rfl
  refine bodyPost_ret (v := fcVal p (.slice a n c)) (by simp [results, Try.results51, go_sem, d0, d1]) rfl ⟨rfl, hb0 _⟩

end Go.Proofs.Ytjeaicahdnoonaa

namespace Go.Proofs.Ytjeaicahdnoonaa
namespace Fx

abbrev Edge := Nat × Nat × Int
end Fx
end Go.Proofs.Ytjeaicahdnoonaa

namespace Go.Proofs.Ytjeaicahdnoonaa
open Go.RowKit Go.Shelf

attribute [local go_sem] Oper.semAt_some

/-- What comes of a rule: a predicate that there is, and 0 or 1. -/
abbrev HP (n : Nat) := { p : Int × Int // 0 ≤ p.1 ∧ p.1 < (n : Int) ∧ (p.2 = 0 ∨ p.2 = 1) }
namespace St
end St

abbrev hangEnc {n : Nat} (p : HP n) : Array Value := #[.int .i64 p.1.1, .int .i64 p.1.2]

end Go.Proofs.Ytjeaicahdnoonaa

namespace Go.Proofs.Ytjeaicahdnoonaa
open Go.RowKit

theorem blw_drewN (w : World) (n : Nat) : Below w.heap.size w (w.drewN n) := ⟨rfl, rfl, rfl, Nat.le_refl _, fun _ _ => rfl⟩
end Go.Proofs.Ytjeaicahdnoonaa

namespace Go.Proofs.Ytjeaicahdnoonaa
open Go.RowKit

namespace St
end St

theorem _root_.Go.World.grownBy.trans_row {a b c : World} {LB : Nat} (h : a.grownBy b (some LB)) (k : b.grownBy c (some LB)) : a.grownBy c (some LB) :=
  ⟨k.os.trans h.os, k.tape.trans h.tape, k.output.trans h.output, Nat.le_trans h.size k.size, fun j hj hn => (k.block j (Nat.lt_of_lt_of_le hj h.size) hn).trans (h.block j hj hn)⟩

end Go.Proofs.Ytjeaicahdnoonaa

namespace Go.Proofs.Ytjeaicahdnoonaa
open Go.RowKit

theorem own_type {W W' : World} {B e c n : Nat} {v : Value} {xs : List Value} (h : W.ownsRow B e c v n xs) (hk : ∀ (k : Nat) (a : Array Value), W.heap[k]? = some (.cells a e) → W'.heap[k]? = some (.cells a e)) : W'.ownsRow B e c v n xs := by
  obtain ⟨h1, h2⟩ := h
  refine ⟨h1, ?_⟩
  rcases h2 with h2 | ⟨g, cap, cur, hv, hg, hh, r⟩
  · exact .inl h2
  · exact .inr ⟨g, cap, cur, hv, hg, hk g cur hh, r⟩
theorem own_cells {W : World} {B e c n : Nat} {v : Value} {xs : List Value} (h : W.ownsRow B e c v n xs) : ∃ ao cap, v = .slice ao n cap ∧ n ≤ cap ∧ (n = 0 ∨ ∃ g, ao = some ⟨g, 0, none⟩ ∧ ∀ j, j < n * c → W.cell? ⟨g, j, none⟩ = xs[j]?) := by
  rcases ownsRow_forms9 h with ⟨rfl, rfl⟩ | ⟨g, cap, rfl⟩
  · exact ⟨none, 0, rfl, Nat.le_refl _, .inl rfl⟩
  · refine ⟨_, cap, rfl, ?_, .inr ⟨g, rfl, fun j hj => h.cellAt j hj⟩⟩
    rcases h.2 with ⟨h2, _⟩ | ⟨g2, cap2, cur, hv, _, _, hle, _⟩
    · cases h2
    · injection hv with _ _ h3
      omega
end Go.Proofs.Ytjeaicahdnoonaa

namespace Go.Proofs.Ytjeaicahdnoonaa
open Go.RowKit

section
variable {P : Program} {ops : Array Oper} {Q : Exit → Act → World → Prop} {i : Nat} {o : Oper} {K : Act → World → Prop} {a : Act} {w w' : World}
end

end Go.Proofs.Ytjeaicahdnoonaa

namespace Go.Proofs.Ytjeaicahdnoonaa
open Go.RowKit

theorem own_ints {W : World} {B : Nat} {v : Value} {l : List Int} (h : W.ownsRow B 3 1 v l.length (l.map (Value.int .i64))) : IntsV W v l := by
  obtain ⟨ao, cap, rfl, _, hc⟩ := own_cells h
  refine ⟨ao, cap, rfl, ?_⟩
  rcases hc with h0 | ⟨g, rfl, hc⟩
  · exact .inl (List.length_eq_zero_iff.mp h0)
  · refine .inr ⟨g, 0, rfl, fun i hi => ?_⟩
    rw [Nat.zero_add, hc i (by omega)]
    simp [Sc.intD, hi]
namespace St
end St

theorem own_ty {W : World} {B c n k : Nat} {e t : TypeId} {v : Value} {xs : List Value} {a : Array Value} (h : W.ownsRow B e c v n xs) (hk : v.ownBlock = some k) (ha : W.heap[k]? = some (.cells a t)) : t = e := by
  rcases h.2 with ⟨h2, _⟩ | ⟨g, cap, cur, hv, _, hh, _⟩
  · rw [h2] at hk; cases hk
  · rw [hv] at hk
    have hg : g = k := by simpa [Value.ownBlock] using hk
    subst hg
    rw [hh] at ha
    injection ha with ha
    injection ha with _ ha _
    exact ha.symm

end Go.Proofs.Ytjeaicahdnoonaa

namespace Go.Proofs.Ytjeaicahdnoonaa
open Go.RowKit

/-- A row of numbers of one's own. -/
abbrev IRow (w : World) (B : Nat) (v : Value) (l : List Int) : Prop := w.ownsRow B 3 1 v l.length (l.map (Value.int .i64))
end Go.Proofs.Ytjeaicahdnoonaa

namespace Go.Proofs.Ytjeaicahdnoonaa
open Go.RowKit

/-- A fact's value. -/
abbrev factVal (pred : Int) (v : Value) : Value := .agg #[.int .i64 pred, v]

end Go.Proofs.Ytjeaicahdnoonaa

namespace Go.Proofs.Ytjeaicahdnoonaa
open Go.Shelf Go.RowKit Go.Lib Go.Sort

abbrev Nv := List Int × Value
end Go.Proofs.Ytjeaicahdnoonaa

namespace Go.Proofs.Ytjeaicahdnoonaa
open Go.RowKit

namespace Ru
end Ru
theorem ints_cell {w : World} {ao : Option Addr} {l : List Int} (h : IntsAt w ao l) {k : Nat} (hk : k < l.length) : ∃ b off, ao = some ⟨b, off, none⟩ ∧ w.cell? ⟨b, off + k, none⟩ = some (.int .i64 (Sc.intD l k)) := by
  rcases h with h | ⟨b, off, ha, hc⟩
  · rw [h] at hk; exact absurd hk (by simp)
  · exact ⟨b, off, ha, hc k hk⟩
end Go.Proofs.Ytjeaicahdnoonaa

namespace Go.Proofs.Ytjeaicahdnoonaa
open Go.RowKit

theorem new_below (y : World) (o : Obj) : Below y.heap.size y (y.alloc o) := (Below.refl _ _).alloc (Nat.le_refl _) o
end Go.Proofs.Ytjeaicahdnoonaa

namespace Go.Proofs.Ytjeaicahdnoonaa
open Go.RowKit

namespace Tr
end Tr

end Go.Proofs.Ytjeaicahdnoonaa

namespace Go.Proofs.Ytjeaicahdnoonaa
open Go.RowKit

theorem A_cells3 : Try.prog.cellsOf 3 = 1 := by kernel_rfl
section
variable {H : Type} {enc : TypeId × Value → H} {w : World} {base : Nat} {spare : Nat → Bool} {held : Bool}

/-- A slice whose elements can be read. -/
theorem open_row {α : Type} {st e : TypeId} {k : Nat} (ht : Try.prog.underlying st = some (.slice e)) (hk : Try.prog.cellsOf e = k) (hk0 : 0 < k) (d : α) (In : Nat → Nat → α → Prop)
    (el : ∀ n cs' y b off, cs'.length = k → (∀ j, j < k → w.cell? ⟨b, off + j, none⟩ = cs'[j]?) → DataW.trod enc Try.prog w base spare held n e cs' = some y → ∃ a, In b off a)
    {fuel : Nat} {v : Value} {x : DataW H × List MemPlace} (h : DataW.trod enc Try.prog w base spare held fuel st [v] = some x) :
    ∃ (ao : Option Addr) (l : List α) (cap : Nat), v = .slice ao l.length cap ∧ l.length ≤ 9223372036854775807 ∧ (l = [] ∨ ∃ b off, ao = some ⟨b, off, none⟩ ∧ ∀ i, i < l.length → In b (off + i * k) (l.getD i d)) := by
  haveI : Inhabited α := ⟨d⟩
  rcases Deep.open_slice ht h with ⟨hv, _⟩ | ⟨a, len, cap, m, n, D, Pl, hv, hb, hl, hm, hmm, hx, hel⟩
  · have hv' : v = .slice none 0 0 := by simpa using hv
    exact ⟨none, [], 0, hv', by simp, .inl rfl⟩
  · have hv' : v = .slice (some a) len cap := by simpa using hv
    have hlm : len ≤ m := by rw [hmm]; split <;> omega
    by_cases h0 : len = 0
    · subst h0
      exact ⟨some a, [], cap, hv', by simp, .inl rfl⟩
    · obtain ⟨b, off, spot⟩ := a
      have hspot : spot = none := by
        obtain ⟨cs', h1, _⟩ := hel 0 (by omega)
        rw [hk] at h1
        obtain ⟨_, hlen, hcell⟩ := World.cells?_some h1
        have hc := hcell 0 hk0
        cases hcs : cs'[0]? with
        | none => rw [List.getElem?_eq_none_iff] at hcs; omega
        | some u =>
          rw [hcs] at hc
          simpa [Addr.add] using World.cell?_spot hc
      subst hspot
      have each : ∀ i, i < len → ∃ q : α, In b (off + i * k) q := by
        intro i hi
        obtain ⟨cs', h1, h2⟩ := hel i (by omega)
        rw [hk] at h1
        obtain ⟨_, hlen, hcell⟩ := World.cells?_some h1
        refine el n cs' _ b (off + i * k) hlen (fun j hj => ?_) h2
        have := hcell j hj
        rw [Deep.add_add, WideShapes.add_plain] at this
        rw [← this, Nat.add_assoc]
      obtain ⟨q, hq⟩ := Deep.choose_lt each
      refine ⟨some ⟨b, off, none⟩, (List.range len).map q, cap, by rw [hv']; simp, by unfold maxLen at hm; simp; omega, .inr ⟨b, off, rfl, fun i hi => ?_⟩⟩
      have hi' : i < len := by simpa using hi
      have ht : ((List.range len).map q).getD i d = q i := by
        rw [List.getD_eq_getElem?_getD, List.getElem?_map, List.getElem?_range hi']
        rfl
      rw [ht]
      exact hq i hi'

theorem trod_struct2 {t : TypeId} {f0 f1 : Field} {fuel : Nat} {cs : List Value} {x : DataW H × List MemPlace} (ht : Try.prog.underlying t = some (.struct #[f0, f1])) (h : DataW.trod enc Try.prog w base spare held fuel t cs = some x) :
    ∃ y0 y1 n, cs.length = Try.prog.cellsOf t ∧ DataW.trod enc Try.prog w base spare held n f0.type ((cs.drop f0.offset).take (Try.prog.cellsOf f0.type)) = some y0 ∧
      DataW.trod enc Try.prog w base spare held n f1.type ((cs.drop f1.offset).take (Try.prog.cellsOf f1.type)) = some y1 := by
  obtain ⟨xs, n, _, rfl, hl, hlen, hf⟩ := DataW.trod_struct ht h
  match xs, hlen with
  | [y0, y1], _ => exact ⟨y0, y1, n, hl, by simpa using hf 0 f0 rfl, by simpa using hf 1 f1 rfl⟩
end

end Go.Proofs.Ytjeaicahdnoonaa

namespace Go.Proofs.Ytjeaicahdnoonaa
open Go.RowKit

theorem P_cells28 : Try.prog.cellsOf 49 = 2 := by kernel_rfl
theorem P_cells22 : Try.prog.cellsOf 47 = 1 := by kernel_rfl
section
variable {H : Type} {enc : TypeId × Value → H} {w : World} {base : Nat} {spare : Nat → Bool} {held : Bool}

/-- A slice whose elements can be read; its length is no more than its room. -/
theorem open_rowC {α : Type} {st e : TypeId} {k : Nat} (ht : Try.prog.underlying st = some (.slice e)) (hk : Try.prog.cellsOf e = k) (hk0 : 0 < k) (d : α) (In : Nat → Nat → α → Prop)
    (el : ∀ n cs' y b off, cs'.length = k → (∀ j, j < k → w.cell? ⟨b, off + j, none⟩ = cs'[j]?) → DataW.trod enc Try.prog w base spare held n e cs' = some y → ∃ a, In b off a)
    {fuel : Nat} {v : Value} {x : DataW H × List MemPlace} (h : DataW.trod enc Try.prog w base spare held fuel st [v] = some x) :
    ∃ (ao : Option Addr) (l : List α) (cap : Nat), v = .slice ao l.length cap ∧ l.length ≤ cap ∧ l.length ≤ 9223372036854775807 ∧ (l = [] ∨ ∃ b off, ao = some ⟨b, off, none⟩ ∧ ∀ i, i < l.length → In b (off + i * k) (l.getD i d)) := by
  obtain ⟨ao, l, cap, hv, hm, hl⟩ := open_row ht hk hk0 d In el h
  refine ⟨ao, l, cap, hv, ?_, hm, hl⟩
  rcases Deep.open_slice ht h with ⟨hv2, _⟩ | ⟨a, len, cap2, m, n, D, Pl, hv2, hb, hl2, _⟩
  · have hv' : v = .slice none 0 0 := by simpa using hv2
    rw [hv] at hv'
    injection hv' with _ h1 h2
    omega
  · have hv' : v = .slice (some a) len cap2 := by simpa using hv2
    rw [hv] at hv'
    injection hv' with _ h1 h2
    omega

theorem open_ints {fuel : Nat} {v : Value} {x : DataW H × List MemPlace} (h : DataW.trod enc Try.prog w base spare held fuel 47 [v] = some x) : ∃ l, IntsV w v l ∧ l.length ≤ 9223372036854775807 := by
  obtain ⟨ao, l, cap, hv, _, hmx, hl⟩ := open_rowC Try.underlying47 A_cells3 (by decide) (0 : Int) (fun b off a => w.cell? ⟨b, off, none⟩ = some (.int .i64 a)) (fun n cs' y b off hlen hc h2 => by
    match cs', hlen with
    | [v0], _ =>
      obtain ⟨k0, e0, _, _⟩ := DataW.trod_int Try.underlying3 h2
      simp at e0
      subst e0
      exact ⟨k0, hc 0 (by decide)⟩) h
  refine ⟨l, ⟨ao, cap, hv, ?_⟩, hmx⟩
  rcases hl with h | ⟨b, off, he, hc⟩
  · exact .inl h
  · exact .inr ⟨b, off, he, fun i hi => by have := hc i hi; rw [Nat.mul_one] at this; exact this⟩
theorem open_fact {fuel : Nat} {v0 v1 : Value} {x : DataW H × List MemPlace} (h : DataW.trod enc Try.prog w base spare held fuel 49 [v0, v1] = some x) : ∃ pred args, v0 = .int .i64 pred ∧ IntsV w v1 args ∧ args.length ≤ 9223372036854775807 := by
  obtain ⟨y0, y1, n, _, g0, g1⟩ := trod_struct2 Try.underlying49 h
  simp [A_cells3, P_cells22] at g0 g1
  obtain ⟨k0, e0, _, _⟩ := DataW.trod_int Try.underlying3 g0
  obtain ⟨l1, hl1, hm1⟩ := open_ints g1
  simp at e0
  exact ⟨k0, l1, e0, hl1, hm1⟩
end

end Go.Proofs.Ytjeaicahdnoonaa

namespace Go.Proofs.Ytjeaicahdnoonaa
open Go.RowKit

section
variable {H : Type} {enc : TypeId × Value → H} {w : World} {base : Nat} {spare : Nat → Bool} {held : Bool}

theorem open_factsC {fuel : Nat} {v : Value} {x : DataW H × List MemPlace} (h : DataW.trod enc Try.prog w base spare held fuel 25 [v] = some x) : ∃ l, FactsV w v l ∧ l.length ≤ 9223372036854775807 ∧ ∀ f, f ∈ l → FFit f := by
  obtain ⟨ao, l, cap, hv, hcp, hmx, hl⟩ := open_rowC Try.underlying25 P_cells28 (by decide) (⟨0, []⟩ : Rl.Fc) (fun b off f => FactIn w b off f ∧ FFit f) (fun n cs' y b off hlen hc h2 => by
    match cs', hlen with
    | [v0, v1], _ =>
      obtain ⟨pr, ar, e0, hI, hm⟩ := open_fact h2
      exact ⟨⟨pr, ar⟩, ⟨by rw [← e0]; exact hc 0 (by decide), v1, hc 1 (by decide), hI⟩, hm⟩) h
  refine ⟨l, ⟨ao, cap, hv, ⟨hcp, fun e => ?_⟩, ?_⟩, hmx, fun f hf => ?_⟩
  · subst e
    rcases Deep.open_slice Try.underlying25 h with ⟨hv2, _⟩ | ⟨a, len, cap2, m, n, D, Pl, hv2, _⟩
    · have hv' : v = .slice none 0 0 := by simpa using hv2
      rw [hv] at hv'
      injection hv' with _ _ h2
    · have hv' : v = .slice (some a) len cap2 := by simpa using hv2
      rw [hv] at hv'
      injection hv' with h1
      cases h1
  · rcases hl with h | ⟨b, off, he, hc⟩
    · exact .inl h
    · exact .inr ⟨b, off, he, fun i hi => (hc i hi).1⟩
  · obtain ⟨i, hi, rfl⟩ := List.getElem_of_mem hf
    rcases hl with h | ⟨b, off, he, hc⟩
    · rw [h] at hi; simp at hi
    · have := (hc i hi).2
      rwa [List.getD_eq_getElem?_getD, List.getElem?_eq_getElem hi] at this
end
end Go.Proofs.Ytjeaicahdnoonaa

/- Updates as bytes, plain: what Check says, the bytes of an update, and the update of bytes; nothing of the program stands here. -/
namespace Go.Proofs.Ytjeaicahdnoonaa
namespace Wr

structure Id where
  a : Int
  n : Int
deriving DecidableEq
structure Up where
  id : Id
  ps : List Id
  says : List Rl.Fc
  ts : List Id

def isId (x : Id) : Bool := decide (0 ≤ x.a ∧ x.a ≤ 5 ∧ 1 ≤ x.n ∧ x.n ≤ 200)
def idOrd (x y : Id) : Int := if Rl.cmpI x.a y.a = 0 then Rl.cmpI x.n y.n else Rl.cmpI x.a y.a
def rise {α : Type} (o : α → α → Int) : List α → Bool
  | x :: y :: r => decide (o x y < 0) && rise o (y :: r)
  | _ => true
def numOk (n : Int) : Bool := decide (-1000000 ≤ n ∧ n ≤ 1000000)
def factOk (f : Rl.Fc) : Bool := decide (0 ≤ f.pred ∧ f.pred ≤ 9 ∧ f.args.length ≤ 3) && f.args.all numOk
def lacks (u : Up) : Bool := decide (1 < u.id.n) && !(u.ps.contains (Id.mk u.id.a (u.id.n - 1)))
/-- What Check says of an update. -/
def check (u : Up) : Int :=
  if isId u.id = false then 3
  else if 6 < u.ps.length ∨ 6 < u.says.length ∨ 6 < u.ts.length then 2
  else if u.ps.all isId = false ∨ u.ts.all isId = false then 3
  else if rise idOrd u.ps = false ∨ rise idOrd u.ts = false then 4
  else if lacks u = true then 5
  else if u.says.all factOk = false then 3
  else if rise Rl.ord u.says = false then 4 else 0

/-- What is right for the bytes: numbers that they can tell. -/
structure Right (u : Up) : Prop where
  id : isId u.id = true
  ps : u.ps.length ≤ 6
  says : u.says.length ≤ 6
  ts : u.ts.length ≤ 6
  pid : ∀ x, x ∈ u.ps → isId x = true
  tid : ∀ x, x ∈ u.ts → isId x = true
  fs : ∀ f, f ∈ u.says → factOk f = true
theorem right_of {u : Up} (h : check u = 0) : Right u := by
  unfold check at h
  split at h
  · cases h
  · rename_i h1
    split at h
    · cases h
    · rename_i h2
      split at h
      · cases h
      · rename_i h3
        split at h
        · cases h
        · split at h
          · cases h
          · split at h
            · cases h
            · rename_i h6
              have e1 : isId u.id = true := by simpa using h1
              have e3 : u.ps.all isId = true ∧ u.ts.all isId = true := by
                constructor
                · cases hx : u.ps.all isId with
                  | true => rfl
                  | false => exact absurd (Or.inl hx) h3
                · cases hx : u.ts.all isId with
                  | true => rfl
                  | false => exact absurd (Or.inr hx) h3
              have e6 : u.says.all factOk = true := by
                cases hx : u.says.all factOk with
                | true => rfl
                | false => exact absurd hx h6
              exact ⟨e1, by omega, by omega, by omega, fun x hx => List.all_eq_true.mp e3.1 x hx, fun x hx => List.all_eq_true.mp e3.2 x hx, fun x hx => List.all_eq_true.mp e6 x hx⟩

abbrev By := List UInt8
def le : Nat → Int → By
  | 0, _ => []
  | k + 1, n => UInt8.ofNat (n % 256).toNat :: le k (n / 256)
def encId (x : Id) : By := le 1 x.a ++ le 2 x.n
def encIds (l : List Id) : By := le 1 l.length ++ (l.map encId).flatten
def encArgs (l : List Int) : By := le 1 l.length ++ (l.map (le 4)).flatten
def encF (f : Rl.Fc) : By := le 1 f.pred ++ encArgs f.args
def encFs (l : List Rl.Fc) : By := le 1 l.length ++ (l.map encF).flatten
def enc (u : Up) : By := encId u.id ++ (encIds u.ps ++ (encFs u.says ++ encIds u.ts))

abbrev Rd (α : Type) := By → Option (α × By)
def num : Nat → Rd Nat
  | 0, l => some (0, l)
  | _ + 1, [] => none
  | k + 1, b :: l => (num k l).map fun x => (b.toNat + 256 * x.1, x.2)
def rep {α : Type} (p : Rd α) : Nat → Rd (List α)
  | 0, l => some ([], l)
  | k + 1, l => (p l).bind fun x => (rep p k x.2).map fun y => (x.1 :: y.1, y.2)
def listP {α : Type} (p : Rd α) : Rd (List α) := fun l => (num 1 l).bind fun x => rep p x.1 x.2
def idP : Rd Id := fun l => (num 1 l).bind fun x => (num 2 x.2).map fun y => (⟨x.1, y.1⟩, y.2)
def sgn (n : Nat) : Int := if 2147483647 < n then (n : Int) - 4294967296 else n
def argP : Rd Int := fun l => (num 4 l).map fun x => (sgn x.1, x.2)
def factP : Rd Rl.Fc := fun l => (num 1 l).bind fun x => (listP argP x.2).map fun y => (⟨x.1, y.1⟩, y.2)
def upP : Rd Up := fun l => (idP l).bind fun x => (listP idP x.2).bind fun y => (listP factP y.2).bind fun z => (listP idP z.2).map fun t => (⟨x.1, y.1, z.1, t.1⟩, t.2)
/-- The update that has just these bytes. -/
def dec (l : By) : Option Up := (upP l).bind fun x => if x.2 = [] then some x.1 else none

theorem num_le : ∀ (k : Nat) (n : Int) (r : By), num k (le k n ++ r) = some ((n % (256 ^ k : Nat)).toNat, r)
  | 0, n, r => by simp [num, le, Int.emod_one]
  | k + 1, n, r => by
    show (num k (le k (n / 256) ++ r)).map _ = _
    rw [num_le k]
    simp only [Option.map_some]
    congr 2
    have h1 : 0 ≤ n % 256 := Int.emod_nonneg _ (by decide)
    have h2 : n % 256 < 256 := Int.emod_lt_of_pos _ (by decide)
    have e1 : (UInt8.ofNat (n % 256).toNat).toNat = (n % 256).toNat := by
      rw [UInt8.toNat_ofNat']
      exact Nat.mod_eq_of_lt (by omega)
    rw [e1]
    have hp : 0 < (256 ^ k : Nat) := Nat.pow_pos (by decide)
    have hq : n % ((256 ^ (k + 1) : Nat) : Int) = n % 256 + 256 * (n / 256 % ((256 ^ k : Nat) : Int)) := by
      rw [Nat.pow_succ, Nat.mul_comm, Int.natCast_mul]
      generalize hP : ((256 ^ k : Nat) : Int) = P
      have hP0 : 0 < P := by rw [← hP]; exact_mod_cast hp
      have a1 := Int.mul_ediv_add_emod n 256
      have a2 := Int.mul_ediv_add_emod (n / 256) P
      have b1 : 0 ≤ n / 256 % P := Int.emod_nonneg _ (by omega)
      have b2 : n / 256 % P < P := Int.emod_lt_of_pos _ hP0
      have hh : n = (n % 256 + 256 * (n / 256 % P)) + (256 * P) * (n / 256 / P) := by
        have : (256 * P) * (n / 256 / P) = 256 * (P * (n / 256 / P)) := Int.mul_assoc _ _ _
        rw [this]
        show n = _
        have c : ((256 : Nat) : Int) = 256 := rfl
        omega
      have c : ((256 : Nat) : Int) = 256 := rfl
      rw [c]
      conv => lhs; rw [hh]
      rw [Int.add_mul_emod_self_left]
      refine Int.emod_eq_of_lt (by omega) ?_
      have : 256 * (n / 256 % P) ≤ 256 * (P - 1) := by omega
      omega
    have hz : 0 ≤ n / 256 % ((256 ^ k : Nat) : Int) := Int.emod_nonneg _ (by omega)
    rw [hq]
    omega
theorem le_num : ∀ (k : Nat) {l r : By} {n : Nat}, num k l = some (n, r) → l = le k n ++ r ∧ n < 256 ^ k
  | 0, l, r, n, h => by
    simp only [num, Option.some.injEq, Prod.mk.injEq] at h
    obtain ⟨rfl, rfl⟩ := h
    exact ⟨rfl, by simp⟩
  | k + 1, [], r, n, h => by simp [num] at h
  | k + 1, b :: l, r, n, h => by
    simp only [num, Option.map_eq_some_iff, Prod.exists, Prod.mk.injEq] at h
    obtain ⟨m, q, h1, h2, h3⟩ := h
    subst h2 h3
    obtain ⟨h4, h5⟩ := le_num k h1
    have hb := b.toNat_lt
    have e1 : (((b.toNat + 256 * m : Nat) : Int) % 256).toNat = b.toNat := by omega
    have e2 : ((b.toNat + 256 * m : Nat) : Int) / 256 = m := by omega
    refine ⟨?_, ?_⟩
    · show _ = UInt8.ofNat (((b.toNat + 256 * m : Nat) : Int) % 256).toNat :: (le k (((b.toNat + 256 * m : Nat) : Int) / 256) ++ q)
      rw [e1, e2, ← h4, UInt8.ofNat_toNat]
    · rw [Nat.pow_succ]
      omega
theorem le_mod (k : Nat) (n m : Int) (h : n % (256 ^ k : Nat) = m % (256 ^ k : Nat)) : le k n = le k m := by
  have h1 := num_le k n []
  have h2 := num_le k m []
  rw [h] at h1
  rw [List.append_nil] at h1 h2
  have e1 := (le_num k h1).1
  have e2 := (le_num k h2).1
  rw [e1]
  exact e2.symm

theorem rep_enc {α : Type} (p : Rd α) (e : α → By) : ∀ (xs : List α) (r : By), (∀ x, x ∈ xs → ∀ r, p (e x ++ r) = some (x, r)) → rep p xs.length ((xs.map e).flatten ++ r) = some (xs, r)
  | [], r, _ => rfl
  | x :: xs, r, h => by
    show (p ((e x ++ (xs.map e).flatten) ++ r)).bind _ = _
    rw [List.append_assoc, h x (by simp), Option.bind_some, rep_enc p e xs r (fun y hy => h y (by simp [hy]))]
    rfl
theorem enc_rep {α : Type} (p : Rd α) (e : α → By) (h : ∀ l x r, p l = some (x, r) → l = e x ++ r) : ∀ (k : Nat) {l r : By} {xs : List α}, rep p k l = some (xs, r) → xs.length = k ∧ l = (xs.map e).flatten ++ r
  | 0, l, r, xs, hr => by
    simp only [rep, Option.some.injEq, Prod.mk.injEq] at hr
    obtain ⟨rfl, rfl⟩ := hr
    exact ⟨rfl, rfl⟩
  | k + 1, l, r, xs, hr => by
    simp only [rep, Option.bind_eq_some_iff, Option.map_eq_some_iff, Prod.exists, Prod.mk.injEq] at hr
    obtain ⟨x, q, h1, ys, s, h2, h3, h4⟩ := hr
    subst h3 h4
    obtain ⟨i1, i2⟩ := enc_rep p e h k h2
    refine ⟨by simp [i1], ?_⟩
    rw [h _ _ _ h1, i2]
    simp
theorem num1 {n : Int} (h : 0 ≤ n ∧ n < 256) (r : By) : num 1 (le 1 n ++ r) = some (n.toNat, r) := by
  rw [num_le]
  congr 2
  have : n % ((256 ^ 1 : Nat) : Int) = n := Int.emod_eq_of_lt h.1 (by show n < 256; exact h.2)
  rw [this]
theorem num2 {n : Int} (h : 0 ≤ n ∧ n < 65536) (r : By) : num 2 (le 2 n ++ r) = some (n.toNat, r) := by
  rw [num_le]
  congr 2
  have : n % ((256 ^ 2 : Nat) : Int) = n := Int.emod_eq_of_lt h.1 (by show n < 65536; exact h.2)
  rw [this]
theorem idP_enc {x : Id} (h : isId x = true) (r : By) : idP (encId x ++ r) = some (x, r) := by
  have h := of_decide_eq_true h
  unfold idP encId
  rw [List.append_assoc, num1 (by omega), Option.bind_some, num2 (by omega)]
  simp only [Option.map_some]
  obtain ⟨a, n⟩ := x
  dsimp only at h ⊢
  rw [Int.toNat_of_nonneg (by omega), Int.toNat_of_nonneg (by omega)]
theorem listP_enc {α : Type} (p : Rd α) (e : α → By) (xs : List α) (hl : xs.length < 256) (r : By) (h : ∀ x, x ∈ xs → ∀ r, p (e x ++ r) = some (x, r)) : listP p ((le 1 xs.length ++ (xs.map e).flatten) ++ r) = some (xs, r) := by
  unfold listP
  rw [List.append_assoc, num1 (by omega), Option.bind_some]
  exact rep_enc p e xs r h
theorem argP_enc {n : Int} (h : numOk n = true) (r : By) : argP (le 4 n ++ r) = some (n, r) := by
  have h := of_decide_eq_true h
  unfold argP
  rw [num_le]
  simp only [Option.map_some]
  congr 2
  have c : ((256 ^ 4 : Nat) : Int) = 4294967296 := rfl
  rw [c]
  unfold sgn
  split <;> omega
theorem factP_enc {f : Rl.Fc} (h : factOk f = true) (r : By) : factP (encF f ++ r) = some (f, r) := by
  unfold factOk at h
  rw [Bool.and_eq_true, decide_eq_true_eq] at h
  unfold factP encF encArgs
  rw [List.append_assoc, num1 (by omega), Option.bind_some, listP_enc argP (le 4) f.args (by omega) r (fun x hx r => argP_enc (List.all_eq_true.mp h.2 x hx) r)]
  simp only [Option.map_some]
  obtain ⟨p, a⟩ := f
  dsimp only at h ⊢
  rw [Int.toNat_of_nonneg (by omega)]
/-- What is encoded is decoded as it was. -/
theorem dec_enc {u : Up} (h : Right u) : dec (enc u) = some u := by
  have h0 : upP (enc u) = some (u, []) := by
    unfold upP enc
    rw [idP_enc h.id, Option.bind_some]
    unfold encIds encFs
    rw [listP_enc idP encId u.ps (by have := h.ps; omega) _ (fun x hx r => idP_enc (h.pid x hx) r), Option.bind_some]
    rw [listP_enc factP encF u.says (by have := h.says; omega) _ (fun x hx r => factP_enc (h.fs x hx) r), Option.bind_some]
    have := listP_enc idP encId u.ts (by have := h.ts; omega) [] (fun x hx r => idP_enc (h.tid x hx) r)
    rw [List.append_nil] at this
    rw [this]
    rfl
  unfold dec
  rw [h0, Option.bind_some, if_pos rfl]
theorem enc_idP {l r : By} {x : Id} (h : idP l = some (x, r)) : l = encId x ++ r := by
  simp only [idP, Option.bind_eq_some_iff, Option.map_eq_some_iff, Prod.exists, Prod.mk.injEq] at h
  obtain ⟨a, q, h1, n, s, h2, h3, h4⟩ := h
  subst h3 h4
  rw [(le_num 1 h1).1, (le_num 2 h2).1]
  unfold encId
  rw [List.append_assoc]
theorem enc_listP {α : Type} (p : Rd α) (e : α → By) (h : ∀ l x r, p l = some (x, r) → l = e x ++ r) {l r : By} {xs : List α} (hl : listP p l = some (xs, r)) : l = (le 1 xs.length ++ (xs.map e).flatten) ++ r ∧ xs.length < 256 := by
  simp only [listP, Option.bind_eq_some_iff, Prod.exists] at hl
  obtain ⟨n, q, h1, h2⟩ := hl
  obtain ⟨i1, i2⟩ := enc_rep p e h n h2
  obtain ⟨j1, j2⟩ := le_num 1 h1
  refine ⟨?_, by omega⟩
  rw [j1, i2, i1, List.append_assoc]
theorem enc_argP {l r : By} {x : Int} (h : argP l = some (x, r)) : l = le 4 x ++ r := by
  simp only [argP, Option.map_eq_some_iff, Prod.exists, Prod.mk.injEq] at h
  obtain ⟨n, q, h1, h3, h4⟩ := h
  subst h3 h4
  obtain ⟨i1, i2⟩ := le_num 4 h1
  rw [i1]
  congr 1
  refine le_mod 4 _ _ ?_
  have c : ((256 ^ 4 : Nat) : Int) = 4294967296 := rfl
  rw [c]
  unfold sgn
  split <;> omega
theorem enc_factP {l r : By} {x : Rl.Fc} (h : factP l = some (x, r)) : l = encF x ++ r := by
  simp only [factP, Option.bind_eq_some_iff, Option.map_eq_some_iff, Prod.exists, Prod.mk.injEq] at h
  obtain ⟨a, q, h1, n, s, h2, h3, h4⟩ := h
  subst h3 h4
  rw [(le_num 1 h1).1, (enc_listP argP (le 4) (fun _ _ _ h => enc_argP h) h2).1]
  unfold encF encArgs
  simp only [List.append_assoc]
/-- And nothing else is. -/
theorem enc_dec {l : By} {u : Up} (h : dec l = some u) : enc u = l := by
  simp only [dec, Option.bind_eq_some_iff, Prod.exists] at h
  obtain ⟨u', r, h, h'⟩ := h
  split at h'
  · rename_i hr
    cases h'
    subst hr
    simp only [upP, Option.bind_eq_some_iff, Option.map_eq_some_iff, Prod.exists, Prod.mk.injEq] at h
    obtain ⟨x, q1, h1, y, q2, h2, z, q3, h3, t, q4, h4, h5, h6⟩ := h
    subst h5 h6
    rw [enc_idP h1, (enc_listP idP encId (fun _ _ _ h => enc_idP h) h2).1, (enc_listP factP encF (fun _ _ _ h => enc_factP h) h3).1, (enc_listP idP encId (fun _ _ _ h => enc_idP h) h4).1]
    unfold enc encIds encFs
    simp only [List.append_assoc, List.append_nil]
  · cases h'

/-- What a reader does: with what is left, and whether there were too few, to a thing, what is left then, and whether there were. -/
def Step {α : Type} (p : Rd α) (s : By × Bool) (x : α) (t : By × Bool) : Prop :=
  (s.2 = true → t.2 = true) ∧ (s.2 = false → (t.2 = true → p s.1 = none) ∧ (t.2 = false → p s.1 = some (x, t.1)))
theorem Step.bad {α : Type} {p : Rd α} {s t : By × Bool} {x : α} (h : s.2 = true) (h' : t.2 = true) : Step p s x t := ⟨fun _ => h', fun e => by rw [h] at e; cases e⟩
theorem Step.none {α : Type} {p : Rd α} {s t : By × Bool} {x : α} (h : p s.1 = none) (h' : t.2 = true) : Step p s x t := ⟨fun _ => h', fun _ => ⟨fun _ => h, fun e => by rw [h'] at e; cases e⟩⟩
theorem Step.some {α : Type} {p : Rd α} {s t : By × Bool} {x : α} (h : p s.1 = some (x, t.1)) (h' : t.2 = s.2) : Step p s x t :=
  ⟨fun e => h'.trans e, fun e => ⟨fun e2 => by (rw [h', e] at e2; cases e2), fun _ => h⟩⟩
theorem Step.bind {α β γ : Type} {p : Rd α} {q : α → Rd β} {f : α → β → γ} {g : Rd γ} (hg : ∀ l, g l = (p l).bind fun x => (q x.1 x.2).map fun y => (f x.1 y.1, y.2))
    {s t r : By × Bool} {x : α} {y : β} (h1 : Step p s x t) (h2 : Step (q x) t y r) : Step g s (f x y) r := by
  refine ⟨fun e => h2.1 (h1.1 e), fun e => ?_⟩
  obtain ⟨a, b⟩ := h1.2 e
  cases ht : t.2 with
  | true =>
    have hr := h2.1 ht
    exact ⟨fun _ => by rw [hg, a ht]; rfl, fun e2 => by rw [hr] at e2; cases e2⟩
  | false =>
    obtain ⟨c, d⟩ := h2.2 ht
    exact ⟨fun e2 => by rw [hg, b ht, Option.bind_some, c e2]; rfl, fun e2 => by rw [hg, b ht, Option.bind_some, d e2]; rfl⟩
theorem Step.map {α β : Type} {p : Rd α} {f : α → β} {g : Rd β} (hg : ∀ l, g l = (p l).map fun x => (f x.1, x.2)) {s t : By × Bool} {x : α} (h1 : Step p s x t) : Step g s (f x) t :=
  ⟨h1.1, fun e => ⟨fun e2 => by rw [hg, (h1.2 e).1 e2]; rfl, fun e2 => by rw [hg, (h1.2 e).2 e2]; rfl⟩⟩
theorem rep_snoc {α : Type} (p : Rd α) : ∀ (k : Nat) (l : By), rep p (k + 1) l = (rep p k l).bind fun x => (p x.2).map fun y => (x.1 ++ [y.1], y.2)
  | 0, l => by
    show (p l).bind _ = (p l).map _
    cases p l <;> rfl
  | k + 1, l => by
    show (p l).bind (fun x => (rep p (k + 1) x.2).map _) = ((p l).bind fun x => (rep p k x.2).map _).bind _
    cases h : p l with
    | none => rfl
    | some x =>
      simp only [Option.bind_some]
      rw [rep_snoc p k]
      cases h2 : rep p k x.2 with
      | none => rfl
      | some y =>
        simp only [Option.bind_some, Option.map_some]
        cases h3 : p y.2 with
        | none => rfl
        | some z => rfl
theorem rep_none {α : Type} (p : Rd α) (l : By) (k : Nat) (h : rep p k l = none) : ∀ n, k ≤ n → rep p n l = none := by
  intro n hn
  induction n with
  | zero => rw [Nat.le_zero.mp hn] at h; exact h
  | succ n ih =>
    by_cases e : k = n + 1
    · rw [← e]; exact h
    · rw [rep_snoc, ih (by omega)]; rfl
theorem Step.zero {α : Type} (p : Rd α) (s : By × Bool) : Step (rep p 0) s [] s := Step.some rfl rfl
theorem Step.snoc {α : Type} {p : Rd α} {k : Nat} {s t r : By × Bool} {xs : List α} {x : α} (h1 : Step (rep p k) s xs t) (h2 : Step p t x r) : Step (rep p (k + 1)) s (xs ++ [x]) r :=
  Step.bind (q := fun _ => p) (f := fun a b => a ++ [b]) (rep_snoc p k) h1 h2
theorem Step.stop {α : Type} {p : Rd α} {k n : Nat} {s t : By × Bool} {xs : List α} (ys : List α) (h : Step (rep p k) s xs t) (ht : t.2 = true) (hk : k ≤ n) : Step (rep p n) s ys t :=
  ⟨h.1, fun e => ⟨fun _ => rep_none p s.1 k ((h.2 e).1 ht) n hk, fun e2 => by rw [ht] at e2; cases e2⟩⟩
theorem Step.list {α : Type} {p : Rd α} {n : Nat} {s t r : By × Bool} {xs : List α} (h1 : Step (num 1) s n t) (h2 : Step (rep p n) t xs r) : Step (listP p) s xs r :=
  Step.bind (q := fun n => rep p n) (f := fun _ b => b) (fun l => by
    show _ = _
    unfold listP
    cases h : num 1 l with
    | none => rfl
    | some x =>
      simp only [Option.bind_some]
      cases rep p x.1 x.2 <;> rfl) h1 h2
theorem Step.id {a n : Nat} {s t r : By × Bool} (h1 : Step (num 1) s a t) (h2 : Step (num 2) t n r) : Step idP s ⟨a, n⟩ r :=
  Step.bind (q := fun _ => num 2) (f := fun (a n : Nat) => (⟨a, n⟩ : Id)) (fun _ => rfl) h1 h2
theorem Step.arg {n : Nat} {s t : By × Bool} (h1 : Step (num 4) s n t) : Step argP s (sgn n) t := Step.map (f := sgn) (fun _ => rfl) h1
theorem Step.fact {a : Nat} {l : List Int} {s t r : By × Bool} (h1 : Step (num 1) s a t) (h2 : Step (listP argP) t l r) : Step factP s ⟨a, l⟩ r :=
  Step.bind (q := fun _ => listP argP) (f := fun (a : Nat) l => (⟨a, l⟩ : Rl.Fc)) (fun _ => rfl) h1 h2
theorem Step.up {x : Id} {y : List Id} {z : List Rl.Fc} {v : List Id} {s0 s1 s2 s3 s4 : By × Bool} (h1 : Step idP s0 x s1) (h2 : Step (listP idP) s1 y s2) (h3 : Step (listP factP) s2 z s3) (h4 : Step (listP idP) s3 v s4) : Step upP s0 ⟨x, y, z, v⟩ s4 := by
  have a := Step.bind (q := fun _ => listP idP) (f := fun a b => (a, b)) (g := fun l => (listP factP l).bind fun z => (listP idP z.2).map fun t => ((z.1, t.1), t.2)) (fun _ => rfl) h3 h4
  have b := Step.bind (q := fun _ l => (listP factP l).bind fun z => (listP idP z.2).map fun t => ((z.1, t.1), t.2)) (f := fun a b => (a, b)) (g := fun l => (listP idP l).bind fun y => ((listP factP y.2).bind fun z => (listP idP z.2).map fun t => ((z.1, t.1), t.2)).map fun t => ((y.1, t.1), t.2)) (fun _ => rfl) h2 a
  refine Step.bind (q := fun _ l => (listP idP l).bind fun y => ((listP factP y.2).bind fun z => (listP idP z.2).map fun t => ((z.1, t.1), t.2)).map fun t => ((y.1, t.1), t.2)) (f := fun x (t : List Id × List Rl.Fc × List Id) => (⟨x, t.1, t.2.1, t.2.2⟩ : Up)) (fun l => ?_) h1 b
  unfold upP
  cases idP l with
  | none => rfl
  | some x =>
    simp only [Option.bind_some]
    cases listP idP x.2 with
    | none => rfl
    | some y =>
      simp only [Option.bind_some]
      cases listP factP y.2 with
      | none => rfl
      | some z =>
        simp only [Option.bind_some]
        cases listP idP z.2 <;> rfl
theorem dec_bad {l : By} {x : Up} {t : By × Bool} (h : Step upP (l, false) x t) (ht : t.2 = true) : dec l = none := by
  unfold dec
  rw [(h.2 rfl).1 ht]
  rfl
theorem dec_more {l : By} {x : Up} {t : By × Bool} (h : Step upP (l, false) x t) (ht : t.2 = false) (h2 : t.1 ≠ []) : dec l = none := by
  unfold dec
  rw [(h.2 rfl).2 ht, Option.bind_some, if_neg h2]
theorem dec_ok {l : By} {x : Up} {t : By × Bool} (h : Step upP (l, false) x t) (ht : t.2 = false) (h2 : t.1 = []) : dec l = some x := by
  unfold dec
  rw [(h.2 rfl).2 ht, Option.bind_some, if_pos h2]

end Wr
end Go.Proofs.Ytjeaicahdnoonaa

/- Ids and lists of them: the walks of the calls that read them. -/
namespace Go.Proofs.Ytjeaicahdnoonaa
open Go.RowKit

abbrev idVal (x : Wr.Id) : Value := .agg #[.int .i64 x.a, .int .i64 x.n]
def idD (l : List Wr.Id) (i : Nat) : Wr.Id := l.getD i ⟨0, 0⟩
def IdIn (w : World) (b off : Nat) (x : Wr.Id) : Prop := w.cell? ⟨b, off, none⟩ = some (.int .i64 x.a) ∧ w.cell? ⟨b, off + 1, none⟩ = some (.int .i64 x.n)
def IdsAt (w : World) (ao : Option Addr) (l : List Wr.Id) : Prop := l = [] ∨ ∃ b off, ao = some ⟨b, off, none⟩ ∧ ∀ i, i < l.length → IdIn w b (off + i * 2) (idD l i)
def IdsV (w : World) (v : Value) (l : List Wr.Id) : Prop := ∃ ao cap, v = .slice ao l.length cap ∧ (l.length ≤ cap ∧ (ao = none → cap = 0)) ∧ IdsAt w ao l
theorem idsV_below {w w' : World} {v : Value} {l : List Wr.Id} (h : IdsV w v l) (hb : Below w.heap.size w w') : IdsV w' v l := by
  obtain ⟨ao, cap, rfl, hc, h⟩ := h
  refine ⟨ao, cap, rfl, hc, ?_⟩
  rcases h with h | ⟨b, off, rfl, h⟩
  · exact .inl h
  · exact .inr ⟨b, off, rfl, fun i hi => ⟨cell_below hb (h i hi).1, cell_below hb (h i hi).2⟩⟩
theorem ids_at {w : World} {ao : Option Addr} {l : List Wr.Id} (h : IdsAt w ao l) (i : Nat) (hi : i < l.length) : ∃ b off, ao = some ⟨b, off, none⟩ ∧ IdIn w b (off + i * 2) (idD l i) := by
  rcases h with h | ⟨b, off, ha, hc⟩
  · rw [h] at hi; exact absurd hi (by simp)
  · exact ⟨b, off, ha, hc i hi⟩
theorem idD_drop (l : List Wr.Id) (k : Nat) (hk : k < l.length) : l.drop k = idD l k :: l.drop (k + 1) := by
  rw [List.drop_eq_getElem_cons hk]
  simp [idD, List.getD_eq_getElem?_getD, hk]

set_option maxRecDepth 100000 in
set_option maxHeartbeats 1000000 in
theorem isWrongId_any (x : Wr.Id) (w : World) : Calls Try.prog 28 #[idVal x] w fun e w' => e = .returned (.bool (!Wr.isId x)) ∧ Gr w w' := by
  obtain ⟨a, n⟩ := x
  have HG : Hid (Gr w (w.alloc (.cells #[.int .i64 a, .int .i64 n] 23))) := (Gr.refl w).alloc _
  have HB : Hid _ := heap_alloc_new w (.cells #[.int .i64 a, .int .i64 n] 23)
  have HR : Hid (Wr.isId ⟨a, n⟩ = (decide (0 ≤ a) && (decide (a ≤ 5) && (decide (1 ≤ n) && decide (n ≤ 200))))) := by
    show _ = _
    unfold Wr.isId
    simp only [Bool.decide_and]
  go_enter Try.func28, Try.ntmps28
  go_upto_region 1 with fail
  generalize w.alloc (.cells #[.int .i64 a, .int .i64 n] 23) = w2 at *
  have c0 : w2.cell? ⟨w.heap.size, 0, none⟩ = some (.int .i64 a) := by rw [Lib.cell_of_heap HB.out]; rfl
  have c1 : w2.cell? ⟨w.heap.size, 1, none⟩ = some (.int .i64 n) := by rw [Lib.cell_of_heap HB.out]; rfl
  by_cases h1 : a < 0
  · have d1 : decide (a < 0) = true := decide_eq_true h1
    go_wp2_with fail
    go_ret
    exact ⟨by rw [HR.out, decide_eq_false (p := 0 ≤ a) (by omega)]; rfl, HG.out⟩
  · have d1 : decide (a < 0) = false := decide_eq_false h1
    by_cases h2 : 6 ≤ a
    · have d2 : decide (6 ≤ a) = true := decide_eq_true h2
      go_wp2_with fail
      go_ret
      exact ⟨by rw [HR.out, decide_eq_true (p := 0 ≤ a) (by omega), decide_eq_false (p := a ≤ 5) (by omega)]; rfl, HG.out⟩
    · have d2 : decide (6 ≤ a) = false := decide_eq_false h2
      by_cases h3 : n < 1
      · have d3 : decide (n < 1) = true := decide_eq_true h3
        go_wp2_with fail
        go_ret
        exact ⟨by rw [HR.out, decide_eq_true (p := 0 ≤ a) (by omega), decide_eq_true (p := a ≤ 5) (by omega), decide_eq_false (p := 1 ≤ n) (by omega)]; rfl, HG.out⟩
      · have d3 : decide (n < 1) = false := decide_eq_false h3
        by_cases h4 : 200 < n
        · have d4 : decide (200 < n) = true := decide_eq_true h4
          go_wp2_with fail
          go_ret
          exact ⟨by rw [HR.out, decide_eq_true (p := 0 ≤ a) (by omega), decide_eq_true (p := a ≤ 5) (by omega), decide_eq_true (p := 1 ≤ n) (by omega), decide_eq_false (p := n ≤ 200) (by omega)]; rfl, HG.out⟩
        · have d4 : decide (200 < n) = false := decide_eq_false h4
          go_wp2_with fail
          go_ret
          exact ⟨by rw [HR.out, decide_eq_true (p := 0 ≤ a) (by omega), decide_eq_true (p := a ≤ 5) (by omega), decide_eq_true (p := 1 ≤ n) (by omega), decide_eq_true (p := n ≤ 200) (by omega)]; rfl, HG.out⟩

set_option maxRecDepth 100000 in
set_option maxHeartbeats 1000000 in
theorem isId_any (x : Wr.Id) (w : World) : Calls Try.prog 15 #[idVal x] w fun e w' => e = .returned (.bool (Wr.isId x)) ∧ Gr w w' := by
  obtain ⟨a, n⟩ := x
  have HG : Hid (Gr w (w.alloc (.cells #[.int .i64 a, .int .i64 n] 23))) := (Gr.refl w).alloc _
  have HB : Hid _ := heap_alloc_new w (.cells #[.int .i64 a, .int .i64 n] 23)
  have HR : Hid (Wr.isId ⟨a, n⟩ = ((decide (0 ≤ a) && decide (a ≤ 5)) && (decide (1 ≤ n) && decide (n ≤ 200)))) := by
    show _ = _
    unfold Wr.isId
    simp only [Bool.decide_and, Bool.and_assoc]
  go_enter Try.func15, Try.ntmps15
  go_upto_region 1 with fail
  generalize w.alloc (.cells #[.int .i64 a, .int .i64 n] 23) = w2 at *
  have c0 : w2.cell? ⟨w.heap.size, 0, none⟩ = some (.int .i64 a) := by rw [Lib.cell_of_heap HB.out]; rfl
  have c1 : w2.cell? ⟨w.heap.size, 1, none⟩ = some (.int .i64 n) := by rw [Lib.cell_of_heap HB.out]; rfl
  by_cases hd1 : 0 ≤ a
  rotate_left
  · have d1 : decide (0 ≤ a) = false := decide_eq_false hd1
    go_wp2_with (go_at_call 19; refine Calls.mono (between_any _ _ _ _) ?_; rintro e z1 ⟨rfl, rfl⟩)
    go_ret
    exact ⟨by rw [HR.out, d1]; rfl, HG.out⟩
  have d1 : decide (0 ≤ a) = true := decide_eq_true hd1
  by_cases hd2 : a ≤ 5
  rotate_left
  · have d2 : decide (a ≤ 5) = false := decide_eq_false hd2
    go_wp2_with (go_at_call 19; refine Calls.mono (between_any _ _ _ _) ?_; rintro e z1 ⟨rfl, rfl⟩)
    go_ret
    exact ⟨by rw [HR.out, d1, d2]; rfl, HG.out⟩
  have d2 : decide (a ≤ 5) = true := decide_eq_true hd2
  by_cases hd3 : 1 ≤ n
  rotate_left
  · have d3 : decide (1 ≤ n) = false := decide_eq_false hd3
    go_wp2_with (go_at_call 19; refine Calls.mono (between_any _ _ _ _) ?_; rintro e z1 ⟨rfl, rfl⟩)
    go_ret
    exact ⟨by rw [HR.out, d1, d2, d3]; rfl, HG.out⟩
  have d3 : decide (1 ≤ n) = true := decide_eq_true hd3
  by_cases hd4 : n ≤ 200
  rotate_left
  · have d4 : decide (n ≤ 200) = false := decide_eq_false hd4
    go_wp2_with (go_at_call 19; refine Calls.mono (between_any _ _ _ _) ?_; rintro e z1 ⟨rfl, rfl⟩)
    go_ret
    exact ⟨by rw [HR.out, d1, d2, d3, d4]; rfl, HG.out⟩
  have d4 : decide (n ≤ 200) = true := decide_eq_true hd4
  go_wp2_with (go_at_call 19; refine Calls.mono (between_any _ _ _ _) ?_; rintro e z1 ⟨rfl, rfl⟩)
  go_ret
  exact ⟨by rw [HR.out, d1, d2, d3, d4]; rfl, HG.out⟩

set_option maxRecDepth 100000 in
set_option maxHeartbeats 1000000 in
theorem areIds_any (l : List Wr.Id) (v : Value) (w : World) (hV : IdsV w v l) (hl : l.length ≤ 1000000) : Calls Try.prog 16 #[v] w fun e w' => e = .returned (.bool (l.all Wr.isId)) ∧ Gr w w' := by
  obtain ⟨ao, cap, rfl, _, hA⟩ := hV
  have HA : Hid (∀ z, Gr w z → IdsAt z ao l) := fun z hz => by
    rcases hA with h | ⟨b, off, rfl, h⟩
    · exact .inl h
    · exact .inr ⟨b, off, rfl, fun i hi => ⟨cell_below hz.below (h i hi).1, cell_below hz.below (h i hi).2⟩⟩
  clear hA
  go_enter Try.func16, Try.ntmps16
  go_wp2_with fail
  go_loopw [3] (fun iv wr => ∃ k : Nat, k ≤ l.length ∧ iv = .int .i64 k ∧ Hid (l.all Wr.isId = (l.drop k).all Wr.isId) ∧ Hid (Gr w wr)) (fun iv _ => l.length - (intOf iv).toNat)
  case atStart => exact ⟨0, Nat.zero_le _, rfl, rfl, Gr.refl w⟩
  case round =>
    obtain ⟨k, hk, rfl, HR, HG⟩ := hrel
    by_cases hlt : k < l.length
    · obtain ⟨b, off, rfl, c0, c1⟩ := ids_at (HA.out wr HG.out) k hlt
      have HD : Hid (l.all Wr.isId = (Wr.isId (idD l k) && (l.drop (k + 1)).all Wr.isId)) := by
        show _ = _
        rw [HR.out, idD_drop l k hlt, List.all_cons]
      generalize idD l k = x at *
      obtain ⟨xa, xn⟩ := x
      have HC : Hid (∀ z, Calls Try.prog 15 #[idVal ⟨xa, xn⟩] z fun e w' => e = .returned (.bool (Wr.isId ⟨xa, xn⟩)) ∧ Gr z w') := fun z => isId_any ⟨xa, xn⟩ z
      generalize Wr.isId ⟨xa, xn⟩ = bx at *
      clear HR
      cases bx
      · go_wp2_with (go_at_call 15; refine Calls.mono (HC.out _) ?_; rintro e z1 ⟨rfl, hg1⟩)
        go_ret
        exact ⟨by rw [HD.out]; rfl, HG.out.trans hg1⟩
      · go_wp2_with (go_at_call 15; refine Calls.mono (HC.out _) ?_; rintro e z1 ⟨rfl, hg1⟩)
        have HG1 : Hid (Gr w z1) := HG.out.trans hg1
        go_roundw
        case rel => exact ⟨k + 1, hlt, by go_num, HD.out.trans (by rw [Bool.true_and]), HG1.out⟩
        case measure => simp [intOf]; omega
    · have hdd : decide (k < l.length) = false := decide_eq_false hlt
      have HE : Hid (l.all Wr.isId = true) := by
        show _ = _
        rw [HR.out, List.drop_of_length_le (by omega)]
        rfl
      go_wp2_with fail
      go_ret
      exact ⟨by rw [HE.out]; rfl, HG.out⟩

end Go.Proofs.Ytjeaicahdnoonaa

/- The bytes of numbers, ids, facts and updates, put behind others. -/
namespace Go.Proofs.Ytjeaicahdnoonaa
open Go.RowKit

theorem wr_info5 : (Try.prog.info? 5).map (fun i => (i.zero, i.size, i.bytes)) = some (some (.int .u8 0), 1, 1) := by kernel_rfl
abbrev bVal (b : UInt8) : Value := .int .u8 (b.toNat : Int)
abbrev BRow (w : World) (B : Nat) (v : Value) (l : Wr.By) : Prop := w.ownsRow B 5 1 v l.length (l.map bVal)
/-- All but rows of bytes from B on stand. -/
def KB (B : Nat) (w w' : World) : Prop := Below B w w' ∧ Lib.OthersKept 5 none w w'
theorem KB.refl (B : Nat) (w : World) : KB B w w := ⟨Below.refl _ _, Lib.OthersKept.refl _ _ _⟩
theorem KB.trans {B : Nat} {a b c : World} (h : KB B a b) (k : KB B b c) : KB B a c := ⟨h.1.trans k.1, h.2.trans k.2⟩
theorem KB.alloc {B : Nat} {a b : World} (h : KB B a b) (hB : B ≤ a.heap.size) (o : Obj) : KB B a (b.alloc o) := ⟨h.1.alloc (Nat.le_trans hB h.1.size) o, h.2.alloc o⟩
theorem own_kind {w : World} {B : Nat} {v : Value} {n : Nat} {xs : List Value} (h : w.ownsRow B 5 1 v n xs) : ∀ g, v.ownBlock = some g → ∃ c fz, w.heap[g]? = some (.cells c 5 fz) := by
  intro g hg
  rcases h.2 with ⟨rfl, _⟩ | ⟨g', cap, cur, rfl, _, hgg, _⟩
  · simp [Value.ownBlock] at hg
  · simp [Value.ownBlock] at hg
    subst hg
    exact ⟨cur, _, hgg⟩
theorem KB.grown {B : Nat} {a w w' : World} {v : Value} {n : Nat} {xs : List Value} (h : KB B a w) (hB : B ≤ w.heap.size) (hown : w.ownsRow B 5 1 v n xs) (hg : w.grownBy w' v.ownBlock) : KB B a w' :=
  ⟨h.1.grown hg hB (fun k hk => (hown.lt k hk).1), h.2.grown hg (own_kind hown)⟩

theorem le_snoc : ∀ (k : Nat) (n : Int), Wr.le (k + 1) n = Wr.le k n ++ [UInt8.ofNat (n / (256 ^ k : Nat) % 256).toNat]
  | 0, n => by simp [Wr.le]
  | k + 1, n => by
    show UInt8.ofNat (n % 256).toNat :: Wr.le (k + 1) (n / 256) = UInt8.ofNat (n % 256).toNat :: (Wr.le k (n / 256) ++ _)
    rw [le_snoc k]
    congr 5
    rw [Nat.pow_succ, Nat.mul_comm, Int.natCast_mul, Int.ediv_ediv_of_nonneg (by decide)]
    rfl
theorem le_len : ∀ (k : Nat) (n : Int), (Wr.le k n).length = k
  | 0, _ => rfl
  | k + 1, n => by show (Wr.le k (n / 256)).length + 1 = _; rw [le_len k]
theorem byte_val (n : Int) : bVal (UInt8.ofNat (n % 256).toNat) = .int .u8 (n % 256) := by
  have h1 : 0 ≤ n % 256 := Int.emod_nonneg _ (by decide)
  have h2 : n % 256 < 256 := Int.emod_lt_of_pos _ (by decide)
  have e1 : (UInt8.ofNat (n % 256).toNat).toNat = (n % 256).toNat := by
    rw [UInt8.toNat_ofNat']
    exact Nat.mod_eq_of_lt (by omega)
  unfold bVal
  rw [e1, Int.toNat_of_nonneg h1]
theorem shift_step (n : Int) (k : Nat) : n / (256 ^ k : Nat) / 256 = n / (256 ^ (k + 1) : Nat) := by
  rw [Nat.pow_succ, Int.natCast_mul, Int.ediv_ediv_of_nonneg (by exact_mod_cast Nat.zero_le _)]
  rfl

set_option maxRecDepth 100000 in
set_option maxHeartbeats 1000000 in
theorem put_any (B : Nat) (l : Wr.By) (n : Int) (m : Nat) (v : Value) (w : World) (hown : BRow w B v l) (hB : B ≤ w.heap.size) (hl : l.length ≤ 1000000) (hm : m ≤ 4) :
    Calls Try.prog 39 #[v, .int .i64 n, .int .i64 m] w fun e w' => ∃ v', e = .returned v' ∧ BRow w' B v' (l ++ Wr.le m n) ∧ KB B w w' := by
  obtain ⟨i0, hi, hz0, hz1, hz2⟩ := info_parts wr_info5
  obtain ⟨ao, cap, rfl⟩ := own_slice hown
  go_enter Try.func39, Try.ntmps39
  go_wp2_with fail
  go_loopw [0, 1, 8] (fun vs nv iv wr => ∃ k : Nat, k ≤ m ∧ iv = .int .i64 k ∧ nv = .int .i64 (n / (256 ^ k : Nat)) ∧ BRow wr B vs (l ++ Wr.le k n) ∧ KB B w wr) (fun _ _ iv _ => m - (intOf iv).toNat)
  case atStart => exact ⟨0, Nat.zero_le _, rfl, by simp, by simpa [Wr.le] using hown, KB.refl _ _⟩
  case round =>
    obtain ⟨k, hk, rfl, rfl, ho, hkb⟩ := hrel
    have hlen : (l ++ Wr.le k n).length ≤ 1000010 := by rw [List.length_append, le_len]; omega
    have HL : Hid (l ++ Wr.le (k + 1) n = (l ++ Wr.le k n) ++ [UInt8.ofNat (n / (256 ^ k : Nat) % 256).toNat]) := by show _ = _; rw [le_snoc, List.append_assoc]
    obtain ⟨L, hL⟩ : ∃ L, l ++ Wr.le k n = L := ⟨_, rfl⟩
    have HM : Hid (l ++ Wr.le k n = L) := hL
    rw [hL] at ho hlen HL
    clear hL
    have HS : Hid (n / (256 ^ k : Nat) / 256 = n / (256 ^ (k + 1) : Nat)) := shift_step n k
    have HBV : Hid (bVal (UInt8.ofNat (n / (256 ^ k : Nat) % 256).toNat) = .int .u8 (n / (256 ^ k : Nat) % 256)) := byte_val _
    generalize n / (256 ^ k : Nat) = x at *
    obtain ⟨ao2, cap2, rfl⟩ := own_slice ho
    by_cases hlt : k < m
    · have hsz := hkb.1.size
      go_wp2_with (at_builtin; refine wpList_append_own _ rfl _ _ 38 rfl B 5 i0 (.int .u8 0) 1 1 Try.underlying38 hi hz0 hz1 hz2 rfl (by decide) _ _ _ rfl (ho.alloc _) ⟨wr.heap.size, 0, none⟩ 1 1 [.int .u8 (x % 256)] rfl rfl ?c1 ?c2 ?c3 ?c4 ?c5 ?_)
      case c2 => intro u hu; simp at hu; subst hu; rfl
      case c3 => unfold maxLen; omega
      case c4 => omega
      case c5 => simp; omega
      · intro j u hj
        match j, hj with
        | 0, hj => simp at hj; subst hj; simp [Addr.add]
      intro vs2 w4 hown4 hgrow4 _
      obtain ⟨ao9, cap9, rfl⟩ := own_slice hown4
      have hkb4 : KB B w w4 := (hkb.alloc hB _).grown (by simp; omega) (ho.alloc _) hgrow4
      have hown5 : BRow w4 B (.slice ao9 (L.length + 1) cap9) (l ++ Wr.le (k + 1) n) := by
        rw [HL.out]
        unfold BRow
        rw [List.length_append, List.map_append]
        show w4.ownsRow _ _ _ _ _ (_ ++ [bVal _])
        rw [HBV.out]
        exact hown4
      clear hown4 hgrow4 ho hkb HBV HL
      go_wp2_with fail
      go_roundw
      case rel => exact ⟨k + 1, hlt, by go_num, by rw [HS.out], hown5, hkb4⟩
      case measure => simp [intOf]; omega
    · obtain rfl : k = m := by omega
      go_wp2_with fail
      go_ret
      exact ⟨_, rfl, by rw [HM.out]; exact ho, hkb⟩

theorem KB.drew (B : Nat) (w : World) : KB B w w.drew := ⟨⟨rfl, rfl, rfl, Nat.le_refl _, fun _ _ => rfl⟩, Lib.OthersKept.refl _ _ _⟩
theorem KB.cell {B : Nat} {w w' : World} (h : KB B w w') {b : Nat} {cur : Array Value} {e : TypeId} {fz : Nat × Nat} (hb : w.heap[b]? = some (.cells cur e fz)) (he : e ≠ 5) : w'.heap[b]? = some (.cells cur e fz) :=
  h.2 b _ hb (by simp) (fun c f hc => he (by injection hc))

set_option maxRecDepth 100000 in
set_option maxHeartbeats 1000000 in
theorem putId_any (B : Nat) (l : Wr.By) (x : Wr.Id) (v : Value) (w : World) (hown : BRow w B v l) (hB : B ≤ w.heap.size) (hl : l.length ≤ 900000) :
    Calls Try.prog 41 #[v, idVal x] w fun e w' => ∃ v', e = .returned v' ∧ BRow w' B v' (l ++ Wr.encId x) ∧ KB B w w' := by
  obtain ⟨a, n⟩ := x
  obtain ⟨ao, cap, rfl⟩ := own_slice hown
  have hG : KB B w (w.alloc (.cells #[.int .i64 a, .int .i64 n] 23)) := (KB.refl B w).alloc hB _
  have hA := heap_alloc_new w (.cells #[.int .i64 a, .int .i64 n] 23)
  have hO := hown.alloc (.cells #[.int .i64 a, .int .i64 n] 23)
  have hs : B ≤ (w.alloc (.cells #[.int .i64 a, .int .i64 n] 23)).heap.size := Nat.le_trans hB hG.1.size
  go_enter Try.func41, Try.ntmps41
  go_upto_region 1 with fail
  generalize w.alloc (.cells #[.int .i64 a, .int .i64 n] 23) = w2 at *
  have c0 : w2.cell? ⟨w.heap.size, 0, none⟩ = some (.int .i64 a) := by rw [Lib.cell_of_heap hA]; rfl
  have c1 : w2.cell? ⟨w.heap.size, 1, none⟩ = some (.int .i64 n) := by rw [Lib.cell_of_heap hA]; rfl
  have HP1 : Hid (Calls Try.prog 39 #[.slice ao l.length cap, .int .i64 a, .int .i64 1] w2.drew fun e w' => ∃ v', e = .returned v' ∧ Hid (BRow w' B v' (l ++ Wr.le 1 a)) ∧ Hid (KB B w2 w') ∧ w'.cell? ⟨w.heap.size, 0, none⟩ = some (.int .i64 a) ∧ w'.cell? ⟨w.heap.size, 1, none⟩ = some (.int .i64 n)) := by
    refine (put_any B l a 1 _ w2.drew hO hs (by omega) (by omega)).mono ?_
    rintro e w' ⟨v', rfl, h1, h2⟩
    have h3 : KB B w2 w' := (KB.drew B w2).trans h2
    have hA' := h3.cell hA (by decide)
    exact ⟨v', rfl, h1, h3, by rw [Lib.cell_of_heap hA']; rfl, by rw [Lib.cell_of_heap hA']; rfl⟩
  have HP2 : Hid (∀ z v, Hid (BRow z B v (l ++ Wr.le 1 a)) → Hid (KB B w2 z) → Calls Try.prog 39 #[v, .int .i64 n, .int .i64 2] z fun e w' => ∃ v', e = .returned v' ∧ Hid (BRow w' B v' (l ++ Wr.encId ⟨a, n⟩)) ∧ Hid (KB B w w')) := by
    intro z v h1 h2
    refine (put_any B _ n 2 v z h1.out (Nat.le_trans hs h2.out.1.size) (by rw [List.length_append, le_len]; omega) (by omega)).mono ?_
    rintro e w' ⟨v', rfl, h3, h4⟩
    refine ⟨v', rfl, ?_, hG.trans (h2.out.trans h4)⟩
    rw [List.append_assoc] at h3
    exact h3
  clear hG hA hO hs hown
  go_region_with (go_at_call 39; first | (with_reducible refine Calls.mono HP1.out ?_; rintro e w3 ⟨v3, rfl, ho3, hk3, d0, d1⟩) | (with_reducible refine Calls.mono (HP2.out _ _ ho3 hk3) ?_; rintro e w4 ⟨v4, rfl, ho4, hk4⟩))
  all_goals (go_wp2_with fail)
  all_goals (go_ret)
  all_goals (exact ⟨_, rfl, ho4.out, hk4.out⟩)
theorem encId_len (x : Wr.Id) : (Wr.encId x).length = 3 := by unfold Wr.encId; rw [List.length_append, le_len, le_len]
theorem ids_flat_len (l : List Wr.Id) : ((l.map Wr.encId).flatten).length = 3 * l.length := by
  induction l with
  | nil => rfl
  | cons x l ih => rw [List.map_cons, List.flatten_cons, List.length_append, encId_len, ih, List.length_cons]; omega
theorem encIds_len (l : List Wr.Id) : (Wr.encIds l).length = 1 + 3 * l.length := by unfold Wr.encIds; rw [List.length_append, le_len, ids_flat_len]
theorem ids_flat_snoc (l : List Wr.Id) (k : Nat) (hk : k < l.length) : ((l.take (k + 1)).map Wr.encId).flatten = ((l.take k).map Wr.encId).flatten ++ Wr.encId (idD l k) := by
  rw [List.take_succ_eq_append_getElem hk, List.map_append, List.flatten_append]
  congr 1
  simp [idD, List.getD_eq_getElem?_getD, hk]

set_option maxRecDepth 100000 in
set_option maxHeartbeats 1000000 in
theorem putIds_any (W : World) (l : Wr.By) (xs : List Wr.Id) (v u : Value) (w : World) (hown : BRow w W.heap.size v l) (hW : Below W.heap.size W w) (hU : IdsV W u xs) (hl : l.length ≤ 800000) (hx : xs.length ≤ 255) :
    Calls Try.prog 40 #[v, u] w fun e w' => ∃ v', e = .returned v' ∧ BRow w' W.heap.size v' (l ++ Wr.encIds xs) ∧ KB W.heap.size w w' := by
  obtain ⟨ao, cap, rfl⟩ := own_slice hown
  obtain ⟨au, cu, rfl, _, hA⟩ := hU
  have HA : Hid (IdsAt W au xs) := hA
  have HW : Hid (Below W.heap.size W w) := hW
  have hB := hW.size
  have HP : Hid _ := put_any W.heap.size l xs.length 1 _ w hown hB (by omega) (by omega)
  clear hA hW hown
  go_enter Try.func40, Try.ntmps40
  go_wp2_with fail
  refine Calls.mono HP.out ?_
  rintro e w1 ⟨v1, rfl, ho1, hk1⟩
  obtain ⟨ao1, cap1, rfl⟩ := own_slice ho1
  clear HP
  go_wp2_with fail
  go_loopw [0, 13] (fun vs iv wr => ∃ k : Nat, k ≤ xs.length ∧ iv = .int .i64 k ∧ BRow wr W.heap.size vs ((l ++ Wr.le 1 xs.length) ++ ((xs.take k).map Wr.encId).flatten) ∧ KB W.heap.size w wr) (fun _ iv _ => xs.length - (intOf iv).toNat)
  case atStart => exact ⟨0, Nat.zero_le _, rfl, by simpa using ho1, hk1⟩
  case round =>
    obtain ⟨k, hk, rfl, ho, hkb⟩ := hrel
    have hlen : ((l ++ Wr.le 1 xs.length) ++ ((xs.take k).map Wr.encId).flatten).length ≤ 810000 := by rw [List.length_append, List.length_append, le_len, ids_flat_len, List.length_take]; omega
    have HS : Hid (k < xs.length → ((xs.take (k + 1)).map Wr.encId).flatten = ((xs.take k).map Wr.encId).flatten ++ Wr.encId (idD xs k)) := ids_flat_snoc xs k
    have HE : Hid (¬ k < xs.length → ((xs.take k).map Wr.encId).flatten = (xs.map Wr.encId).flatten) := fun h => by rw [List.take_of_length_le (by omega)]
    by_cases hlt : k < xs.length
    · obtain ⟨b, off, rfl, p0, p1⟩ := ids_at HA.out k hlt
      have HB : Hid _ := HW.out.trans hkb.1
      have a0 := cell_below HB.out p0
      have a1 := cell_below HB.out p1
      have HST : Hid _ := HS.out hlt
      clear HS HE p0 p1
      generalize idD xs k = x at *
      obtain ⟨xa, xn⟩ := x
      obtain ⟨L, hL⟩ : ∃ L, ((l ++ Wr.le 1 xs.length) ++ ((xs.take k).map Wr.encId).flatten) = L := ⟨_, rfl⟩
      have HL : Hid (((l ++ Wr.le 1 xs.length) ++ ((xs.take k).map Wr.encId).flatten) = L) := hL
      rw [hL] at ho hlen
      clear hL
      obtain ⟨ao2, cap2, rfl⟩ := own_slice ho
      have hsz := hkb.1.size
      have HC : Hid (∀ c, Calls Try.prog 41 #[.slice ao2 L.length cap2, idVal ⟨xa, xn⟩] (wr.alloc c) fun e w' => ∃ v', e = .returned v' ∧ Hid (BRow w' W.heap.size v' ((l ++ Wr.le 1 xs.length) ++ ((xs.take (k + 1)).map Wr.encId).flatten)) ∧ Hid (KB W.heap.size w w')) := by
        intro c
        refine (putId_any W.heap.size L ⟨xa, xn⟩ _ _ (ho.alloc c) (by simp; omega) (by omega)).mono ?_
        rintro e w' ⟨v', rfl, h1, h2⟩
        refine ⟨v', rfl, ?_, (hkb.alloc hB c).trans h2⟩
        rw [HST.out, ← List.append_assoc, HL.out]
        exact h1
      clear ho hkb HST HL
      go_wp2_with fail
      refine Calls.mono (HC.out _) ?_
      rintro e w4 ⟨v4, rfl, ho4, hk4⟩
      go_wp2_with fail
      go_roundw
      case rel => exact ⟨k + 1, hlt, by go_num, ho4.out, hk4.out⟩
      case measure => simp [intOf]; omega
    · have HST : Hid _ := HE.out hlt
      clear HS HE
      rw [HST.out, List.append_assoc] at ho
      change BRow _ _ _ (l ++ Wr.encIds xs) at ho
      obtain ⟨ao2, cap2, rfl⟩ := own_slice ho
      have HO : Hid _ := ho
      clear ho HST
      have hdd : decide (k < xs.length) = false := decide_eq_false hlt
      go_wp2_with fail
      go_ret
      exact ⟨_, rfl, HO.out, hkb⟩

end Go.Proofs.Ytjeaicahdnoonaa

/- The bytes of a fact. -/
namespace Go.Proofs.Ytjeaicahdnoonaa
open Go.RowKit

theorem args_flat_len (l : List Int) : ((l.map (Wr.le 4)).flatten).length = 4 * l.length := by
  induction l with
  | nil => rfl
  | cons x l ih => rw [List.map_cons, List.flatten_cons, List.length_append, le_len, ih, List.length_cons]; omega
theorem encF_len (f : Rl.Fc) : (Wr.encF f).length = 2 + 4 * f.args.length := by unfold Wr.encF Wr.encArgs; rw [List.length_append, List.length_append, le_len, le_len, args_flat_len]; omega
theorem args_flat_snoc (l : List Int) (k : Nat) (hk : k < l.length) : ((l.take (k + 1)).map (Wr.le 4)).flatten = ((l.take k).map (Wr.le 4)).flatten ++ Wr.le 4 (Sc.intD l k) := by
  rw [List.take_succ_eq_append_getElem hk, List.map_append, List.flatten_append]
  congr 1
  simp [Sc.intD, List.getD_eq_getElem?_getD, hk]

set_option maxRecDepth 100000 in
set_option maxHeartbeats 1000000 in
theorem putFact_any (W : World) (l : Wr.By) (f : Rl.Fc) (v u : Value) (w : World) (hown : BRow w W.heap.size v l) (hW : Below W.heap.size W w) (hU : IntsV W u f.args) (hl : l.length ≤ 900000) (hx : f.args.length ≤ 255) :
    Calls Try.prog 42 #[v, .agg #[.int .i64 f.pred, u]] w fun e w' => ∃ v', e = .returned v' ∧ BRow w' W.heap.size v' (l ++ Wr.encF f) ∧ KB W.heap.size w w' := by
  obtain ⟨p, xs⟩ := f
  dsimp only at hU hx ⊢
  obtain ⟨ao, cap, rfl⟩ := own_slice hown
  obtain ⟨au, cu, rfl, hA⟩ := hU
  have HA : Hid (IntsAt W au xs) := hA
  have HW : Hid (Below W.heap.size W w) := hW
  have hB := hW.size
  have hG : KB W.heap.size w (w.alloc (.cells #[.int .i64 p, .slice au xs.length cu] 49)) := (KB.refl W.heap.size w).alloc hB _
  have hBx := heap_alloc_new w (.cells #[.int .i64 p, .slice au xs.length cu] 49)
  have hO := hown.alloc (.cells #[.int .i64 p, .slice au xs.length cu] 49)
  have hs : W.heap.size ≤ (w.alloc (.cells #[.int .i64 p, .slice au xs.length cu] 49)).heap.size := Nat.le_trans hB hG.1.size
  clear hA hW hown
  go_enter Try.func42, Try.ntmps42
  go_upto_region 1 with fail
  generalize w.alloc (.cells #[.int .i64 p, .slice au xs.length cu] 49) = w2 at *
  have c0 : w2.cell? ⟨w.heap.size, 0, none⟩ = some (.int .i64 p) := by rw [Lib.cell_of_heap hBx]; rfl
  have c1 : w2.cell? ⟨w.heap.size, 1, none⟩ = some (.slice au xs.length cu) := by rw [Lib.cell_of_heap hBx]; rfl
  have HP1 : Hid (Calls Try.prog 39 #[.slice ao l.length cap, .int .i64 p, .int .i64 1] w2.drew fun e w' => ∃ v', e = .returned v' ∧ Hid (BRow w' W.heap.size v' (l ++ Wr.le 1 p)) ∧ Hid (KB W.heap.size w2 w') ∧ w'.cell? ⟨w.heap.size, 0, none⟩ = some (.int .i64 p) ∧ w'.cell? ⟨w.heap.size, 1, none⟩ = some (.slice au xs.length cu)) := by
    refine (put_any W.heap.size l p 1 _ w2.drew hO hs (by omega) (by omega)).mono ?_
    rintro e w' ⟨v', rfl, h1, h2⟩
    have h3 : KB W.heap.size w2 w' := (KB.drew _ w2).trans h2
    have hA' := h3.cell hBx (by decide)
    exact ⟨v', rfl, h1, h3, by rw [Lib.cell_of_heap hA']; rfl, by rw [Lib.cell_of_heap hA']; rfl⟩
  have HP2 : Hid (∀ z v, Hid (BRow z W.heap.size v (l ++ Wr.le 1 p)) → Hid (KB W.heap.size w2 z) → Calls Try.prog 39 #[v, .int .i64 xs.length, .int .i64 1] z fun e w' => ∃ v', e = .returned v' ∧ BRow w' W.heap.size v' (l ++ Wr.le 1 p ++ Wr.le 1 xs.length) ∧ KB W.heap.size w2 w' ∧ w'.cell? ⟨w.heap.size, 1, none⟩ = some (.slice au xs.length cu)) := by
    intro z v h1 h2
    refine (put_any W.heap.size _ xs.length 1 v z h1.out (Nat.le_trans hs h2.out.1.size) (by rw [List.length_append, le_len]; omega) (by omega)).mono ?_
    rintro e w' ⟨v', rfl, h3, h4⟩
    have h5 := h2.out.trans h4
    have hA' := h5.cell hBx (by decide)
    exact ⟨v', rfl, h3, h5, by rw [Lib.cell_of_heap hA']; rfl⟩
  clear hO hBx
  go_cut [0] from 7 to 14 (fun v1 z => BRow z W.heap.size v1 (l ++ Wr.le 1 p ++ Wr.le 1 xs.length) ∧ KB W.heap.size w2 z ∧ z.cell? ⟨w.heap.size, 1, none⟩ = some (.slice au xs.length cu))
  case first =>
    go_region_with (go_at_call 39; first | (with_reducible refine Calls.mono HP1.out ?_; rintro e w3 ⟨v3, rfl, ho3, hk3, d0, d1⟩) | (with_reducible refine Calls.mono (HP2.out _ _ ho3 hk3) ?_; rintro e w4 ⟨v4, rfl, ho4, hk4, e1⟩))
    all_goals (go_wp2_with fail; go_meet; exact ⟨ho4, hk4, e1⟩)
  case rest =>
    obtain ⟨ho1, hk1, e1⟩ := hcut
    obtain ⟨ao1, cap1, rfl⟩ := own_slice ho1
    clear HP1 HP2 c0 c1
    go_wp2_with fail
    go_loopw [0, 18] (fun vs iv wr => ∃ k : Nat, k ≤ xs.length ∧ iv = .int .i64 k ∧ BRow wr W.heap.size vs ((l ++ Wr.le 1 p ++ Wr.le 1 xs.length) ++ ((xs.take k).map (Wr.le 4)).flatten) ∧ KB W.heap.size w wr) (fun _ iv _ => xs.length - (intOf iv).toNat)
    case atStart => exact ⟨0, Nat.zero_le _, rfl, by simpa using ho1, hG.trans hk1⟩
    case round =>
      obtain ⟨k, hk, rfl, ho, hkb⟩ := hrel
      have hlen : ((l ++ Wr.le 1 p ++ Wr.le 1 xs.length) ++ ((xs.take k).map (Wr.le 4)).flatten).length ≤ 910000 := by rw [List.length_append, List.length_append, List.length_append, le_len, le_len, args_flat_len, List.length_take]; omega
      have HS : Hid (k < xs.length → ((xs.take (k + 1)).map (Wr.le 4)).flatten = ((xs.take k).map (Wr.le 4)).flatten ++ Wr.le 4 (Sc.intD xs k)) := args_flat_snoc xs k
      have HE : Hid (¬ k < xs.length → ((xs.take k).map (Wr.le 4)).flatten = (xs.map (Wr.le 4)).flatten) := fun h => by rw [List.take_of_length_le (by omega)]
      by_cases hlt : k < xs.length
      · obtain ⟨b, off, rfl, p0⟩ := ints_at HA.out k hlt
        have HB : Hid _ := HW.out.trans hkb.1
        have a0 := cell_below HB.out p0
        have HST : Hid _ := HS.out hlt
        clear HS HE p0
        generalize Sc.intD xs k = x at *
        obtain ⟨L, hL⟩ : ∃ L, ((l ++ Wr.le 1 p ++ Wr.le 1 xs.length) ++ ((xs.take k).map (Wr.le 4)).flatten) = L := ⟨_, rfl⟩
        have HL : Hid (((l ++ Wr.le 1 p ++ Wr.le 1 xs.length) ++ ((xs.take k).map (Wr.le 4)).flatten) = L) := hL
        rw [hL] at ho hlen
        clear hL
        obtain ⟨ao2, cap2, rfl⟩ := own_slice ho
        have hsz := hkb.1.size
        have HC : Hid (Calls Try.prog 39 #[.slice ao2 L.length cap2, .int .i64 x, .int .i64 4] wr fun e w' => ∃ v', e = .returned v' ∧ Hid (BRow w' W.heap.size v' ((l ++ Wr.le 1 p ++ Wr.le 1 xs.length) ++ ((xs.take (k + 1)).map (Wr.le 4)).flatten)) ∧ Hid (KB W.heap.size w w')) := by
          refine (put_any W.heap.size L x 4 _ _ ho (by omega) (by omega) (by omega)).mono ?_
          rintro e w' ⟨v', rfl, h1, h2⟩
          refine ⟨v', rfl, ?_, hkb.trans h2⟩
          rw [HST.out, ← List.append_assoc, HL.out]
          exact h1
        clear ho hkb HST HL
        go_wp2_with fail
        refine Calls.mono HC.out ?_
        rintro e w4 ⟨v4, rfl, ho4, hk4⟩
        go_wp2_with fail
        go_roundw
        case rel => exact ⟨k + 1, hlt, by go_num, ho4.out, hk4.out⟩
        case measure => simp [intOf]; omega
      · have HST : Hid _ := HE.out hlt
        clear HS HE
        rw [HST.out, List.append_assoc, List.append_assoc] at ho
        change BRow _ _ _ (l ++ Wr.encF ⟨p, xs⟩) at ho
        obtain ⟨ao2, cap2, rfl⟩ := own_slice ho
        have HO : Hid _ := ho
        clear ho HST
        have hdd : decide (k < xs.length) = false := decide_eq_false hlt
        go_wp2_with fail
        go_ret
        exact ⟨_, rfl, HO.out, hkb⟩
end Go.Proofs.Ytjeaicahdnoonaa

/- The order of ids; whether lists rise. -/
namespace Go.Proofs.Ytjeaicahdnoonaa
open Go.RowKit
namespace Wr

theorem rise_step {α : Type} (o : α → α → Int) (d : α) : ∀ (l : List α) (k : Nat), k + 1 < l.length → rise o (l.drop k) = (decide (o (l.getD k d) (l.getD (k + 1) d) < 0) && rise o (l.drop (k + 1)))
  | [], k, h => by simp at h
  | [_], k, h => by simp at h
  | x :: y :: r, 0, _ => rfl
  | x :: y :: r, k + 1, h => by
    rw [List.drop_succ_cons, rise_step o d (y :: r) k (by simpa using h)]
    rfl
theorem rise_end {α : Type} (o : α → α → Int) : ∀ (l : List α) (k : Nat), ¬ k + 1 < l.length → rise o (l.drop k) = true
  | [], k, _ => by simp [rise]
  | [_], 0, _ => rfl
  | [_], k + 1, _ => by simp [rise]
  | _ :: _ :: _, 0, h => absurd (by simp) h
  | x :: y :: r, k + 1, h => by
    rw [List.drop_succ_cons]
    exact rise_end o (y :: r) k (by simpa using h)
theorem idOrd_zero {x y : Id} : idOrd x y = 0 ↔ x = y := by
  obtain ⟨a, n⟩ := x
  obtain ⟨b, m⟩ := y
  unfold idOrd
  dsimp only
  split
  · rename_i h
    rw [Rl.cmpI_zero] at h
    rw [Rl.cmpI_zero, h]
    simp
  · rename_i h
    constructor
    · intro e; exact absurd e h
    · intro e
      injection e with e1 e2
      exact absurd (Rl.cmpI_zero.mpr e1) h

end Wr

set_option maxRecDepth 100000 in
set_option maxHeartbeats 1000000 in
theorem uOrder_any (x y : Wr.Id) (w : World) : Calls Try.prog 31 #[idVal x, idVal y] w fun e w' => e = .returned (.int .i64 (Wr.idOrd x y)) ∧ Gr w w' := by
  obtain ⟨p, n⟩ := x
  obtain ⟨q, m⟩ := y
  have HG : Hid (Gr w (((w.alloc (.cells #[.int .i64 p, .int .i64 n] 23)).alloc (.cells #[.int .i64 q, .int .i64 m] 23)))) := ((Gr.refl w).alloc _).alloc _
  have t2 := two_blocks (w := w) (o1 := .cells #[.int .i64 p, .int .i64 n] 23) (o2 := .cells #[.int .i64 q, .int .i64 m] 23) (Below.refl _ _)
  have HO : Hid (Wr.idOrd ⟨p, n⟩ ⟨q, m⟩ = Rl.orI (Rl.cmpI p q) (Rl.cmpI n m)) := rfl
  go_enter Try.func31, Try.ntmps31
  go_upto_region 1 with fail
  generalize (w.alloc (.cells #[.int .i64 p, .int .i64 n] 23)).alloc (.cells #[.int .i64 q, .int .i64 m] 23) = w2 at *
  have c0 : w2.cell? ⟨w.heap.size, 0, none⟩ = some (.int .i64 p) := by rw [Lib.cell_of_heap t2.1]; rfl
  have c1 : w2.cell? ⟨w.heap.size, 1, none⟩ = some (.int .i64 n) := by rw [Lib.cell_of_heap t2.1]; rfl
  have d0 : w2.cell? ⟨w.heap.size + 1, 0, none⟩ = some (.int .i64 q) := by rw [Lib.cell_of_heap t2.2]; rfl
  have d1 : w2.cell? ⟨w.heap.size + 1, 1, none⟩ = some (.int .i64 m) := by rw [Lib.cell_of_heap t2.2]; rfl
  clear t2
  have HGA : ∀ a b o, Gr a b → Gr a (b.alloc o) := fun _ _ o h => h.alloc o
  have HGD : ∀ a b, Gr a b → Gr a b.drew := fun _ _ h => h.drew
  have HGR : Gr w2 w2 := Gr.refl w2
  go_region_held3 (fun yy => yy.cell? ⟨w.heap.size, 0, none⟩ = some (.int .i64 p) ∧ yy.cell? ⟨w.heap.size, 1, none⟩ = some (.int .i64 n) ∧ yy.cell? ⟨w.heap.size + 1, 0, none⟩ = some (.int .i64 q) ∧ yy.cell? ⟨w.heap.size + 1, 1, none⟩ = some (.int .i64 m) ∧ Gr w2 yy) (go_keep) (first
    | (go_at_call 55; refine Calls.mono (cmpI_any _ _ _) ?_; rintro e z1 ⟨rfl, rfl⟩)
    | (go_at_call 54; refine Calls.mono (or2_any _ (Rl.cmpI p q) (Rl.cmpI n m) _ ?_ ?_) ?_; (simp); (simp); rintro e z1 ⟨rfl, rfl⟩))
  have HF : Hid (Gr w (w2.alloc (.cells #[.int .i64 (Rl.cmpI p q), .int .i64 (Rl.cmpI n m)] 3)).drew) := (HG.out.alloc _).drew
  clear HGA HGD HGR c0 c1 d0 d1 HG
  go_wp2_with fail
  go_ret
  exact ⟨by rw [HO.out]; rfl, HF.out⟩

set_option maxRecDepth 100000 in
set_option maxHeartbeats 1000000 in
theorem IdOrder_any (x y : Wr.Id) (w : World) : Calls Try.prog 50 #[idVal x, idVal y] w fun e w' => e = .returned (.int .i64 (Wr.idOrd x y)) ∧ Gr w w' := by
  obtain ⟨p, n⟩ := x
  obtain ⟨q, m⟩ := y
  have HG : Hid (Gr w (((w.alloc (.cells #[.int .i64 p, .int .i64 n] 23)).alloc (.cells #[.int .i64 q, .int .i64 m] 23)))) := ((Gr.refl w).alloc _).alloc _
  have t2 := two_blocks (w := w) (o1 := .cells #[.int .i64 p, .int .i64 n] 23) (o2 := .cells #[.int .i64 q, .int .i64 m] 23) (Below.refl _ _)
  have HO : Hid (Wr.idOrd ⟨p, n⟩ ⟨q, m⟩ = if Rl.cmpI p q = 0 then Rl.cmpI n m else Rl.cmpI p q) := rfl
  go_enter Try.func50, Try.ntmps50
  go_upto_region 1 with fail
  generalize (w.alloc (.cells #[.int .i64 p, .int .i64 n] 23)).alloc (.cells #[.int .i64 q, .int .i64 m] 23) = w2 at *
  have c0 : w2.cell? ⟨w.heap.size, 0, none⟩ = some (.int .i64 p) := by rw [Lib.cell_of_heap t2.1]; rfl
  have c1 : w2.cell? ⟨w.heap.size, 1, none⟩ = some (.int .i64 n) := by rw [Lib.cell_of_heap t2.1]; rfl
  have d0 : w2.cell? ⟨w.heap.size + 1, 0, none⟩ = some (.int .i64 q) := by rw [Lib.cell_of_heap t2.2]; rfl
  have d1 : w2.cell? ⟨w.heap.size + 1, 1, none⟩ = some (.int .i64 m) := by rw [Lib.cell_of_heap t2.2]; rfl
  clear t2
  by_cases he : p = q
  · subst he
    have e1 : decide (p < p) = false := decide_eq_false (by omega)
    have e2 : decide (p = p) = true := decide_eq_true rfl
    have e3 : (p == p) = true := by simp
    rw [Rl.cmpI_self, if_pos rfl] at HO
    by_cases hn : n = m
    · subst hn
      have f3 : (n == n) = true := by simp
      go_wp2_with fail
      go_ret
      exact ⟨by rw [HO.out, Rl.cmpI_self]; rfl, HG.out⟩
    · have f3 : (n == m) = false := by simpa using hn
      by_cases hnm : n < m
      · have g : decide (n < m) = true := decide_eq_true hnm
        go_wp2_with fail
        go_ret
        exact ⟨by rw [HO.out]; unfold Rl.cmpI; rw [if_pos hnm]; rfl, HG.out⟩
      · have g : decide (n < m) = false := decide_eq_false hnm
        go_wp2_with fail
        go_ret
        exact ⟨by rw [HO.out]; unfold Rl.cmpI; rw [if_neg (by omega), if_pos (by omega)]; rfl, HG.out⟩
  · have e3 : (p == q) = false := by simpa using he
    have e4 : decide (p = q) = false := decide_eq_false he
    rw [if_neg (fun h => he (Rl.cmpI_zero.mp h))] at HO
    by_cases hl : p < q
    · have g : decide (p < q) = true := decide_eq_true hl
      go_wp2_with fail
      go_ret
      exact ⟨by rw [HO.out]; unfold Rl.cmpI; rw [if_pos hl]; rfl, HG.out⟩
    · have g : decide (p < q) = false := decide_eq_false hl
      go_wp2_with fail
      go_ret
      exact ⟨by rw [HO.out]; unfold Rl.cmpI; rw [if_neg (by omega), if_pos (by omega)]; rfl, HG.out⟩

set_option maxRecDepth 100000 in
set_option maxHeartbeats 1000000 in
theorem idsRise_any (l : List Wr.Id) (v : Value) (w : World) (hV : IdsV w v l) (hl : l.length ≤ 1000000) : Calls Try.prog 17 #[v] w fun e w' => e = .returned (.bool (Wr.rise Wr.idOrd l)) ∧ Below w.heap.size w w' := by
  obtain ⟨ao, cap, rfl, _, hA⟩ := hV
  have HA : Hid (IdsAt w ao l) := hA
  clear hA
  go_enter Try.func17, Try.ntmps17
  go_wp2_with fail
  go_loopw [3] (fun iv wr => ∃ k : Nat, 1 ≤ k ∧ k ≤ l.length + 1 ∧ iv = .int .i64 k ∧ Hid (Wr.rise Wr.idOrd l = Wr.rise Wr.idOrd (l.drop (k - 1))) ∧ Below w.heap.size w wr) (fun iv _ => l.length + 2 - (intOf iv).toNat)
  case atStart => exact ⟨1, Nat.le_refl _, by omega, rfl, rfl, Below.refl _ _⟩
  case round =>
    obtain ⟨k, hk1, hk, rfl, HR, hbw⟩ := hrel
    obtain ⟨j, hkj⟩ : ∃ j, k = j + 1 := ⟨k - 1, by omega⟩
    by_cases hlt : k < l.length
    · have hltj : j < l.length := by omega
      have hwr : IntKind.i64.wrap ((k : Int) - 1) = (j : Int) := by
        have e : ((k : Int) - 1) = (j : Int) := by omega
        rw [e]
        simp [IntKind.wrap, IntKind.bits, IntKind.signed]
        omega
      have HD : Hid (Wr.rise Wr.idOrd l = (decide (Wr.idOrd (idD l j) (idD l k) < 0) && Wr.rise Wr.idOrd (l.drop j.succ))) := by
        show _ = _
        rw [HR.out, hkj, Nat.add_sub_cancel]
        exact Wr.rise_step Wr.idOrd ⟨0, 0⟩ l j (by omega)
      have HKJ : Hid (k = j + 1) := hkj
      clear hkj
      obtain ⟨b, off, rfl, p0, p1⟩ := ids_at HA.out j hltj
      obtain ⟨b2, off2, hv2, r0, r1⟩ := ids_at HA.out k hlt
      injection hv2 with hv2
      injection hv2 with hb2 ho2 _
      subst hb2 ho2
      have a0 := cell_below hbw p0
      have a1 := cell_below hbw p1
      have c0 := cell_below hbw r0
      have c1 := cell_below hbw r1
      clear p0 p1 r0 r1 HR
      generalize idD l j = x at *
      generalize idD l k = y at *
      obtain ⟨xa, xn⟩ := x
      obtain ⟨ya, yn⟩ := y
      have HN : Hid (∀ z, Below wr.heap.size wr z → Calls Try.prog 50 #[idVal ⟨xa, xn⟩, idVal ⟨ya, yn⟩] z fun e w' => e = .returned (.int .i64 (Wr.idOrd ⟨xa, xn⟩ ⟨ya, yn⟩)) ∧ Below wr.heap.size wr w' ∧ w'.cell? ⟨b, off + j * 2, none⟩ = some (.int .i64 xa) ∧ w'.cell? ⟨b, off + j * 2 + 1, none⟩ = some (.int .i64 xn) ∧ w'.cell? ⟨b, off + k * 2, none⟩ = some (.int .i64 ya) ∧ w'.cell? ⟨b, off + k * 2 + 1, none⟩ = some (.int .i64 yn)) := by
        intro z hz
        refine (IdOrder_any ⟨xa, xn⟩ ⟨ya, yn⟩ z).mono ?_
        rintro e w' ⟨h1, h2⟩
        have h3 := hz.trans (h2.below.mono hz.size)
        exact ⟨h1, h3, cell_below h3 a0, cell_below h3 a1, cell_below h3 c0, cell_below h3 c1⟩
      generalize hod : Wr.idOrd ⟨xa, xn⟩ ⟨ya, yn⟩ = od at *
      have HGA : ∀ b o, Below wr.heap.size wr b → Below wr.heap.size wr (b.alloc o) := fun _ o h => h.alloc h.size o
      have HGD : ∀ b, Below wr.heap.size wr b → Below wr.heap.size wr b.drew := fun _ h => ⟨h.os, h.tape, h.output, h.size, h.block⟩
      have HGR : Below wr.heap.size wr wr := Below.refl _ _
      clear hod
      by_cases ho : 0 ≤ od
      · have hod : decide (0 ≤ od) = true := decide_eq_true ho
        have HE : Hid (Wr.rise Wr.idOrd l = false) := by
          show _ = _
          rw [HD.out, decide_eq_false (by omega)]
          rfl
        clear HD
        go_upto_region 4 with fail
        go_region_held3 (fun yy => yy.cell? ⟨b, off + j * 2, none⟩ = some (.int .i64 xa) ∧ yy.cell? ⟨b, off + j * 2 + 1, none⟩ = some (.int .i64 xn) ∧ yy.cell? ⟨b, off + k * 2, none⟩ = some (.int .i64 ya) ∧ yy.cell? ⟨b, off + k * 2 + 1, none⟩ = some (.int .i64 yn) ∧ Below wr.heap.size wr yy) (go_keep) (
          (go_at_call 50; refine Calls.mono (HN.out _ ?_) ?_; (simp [*]); rintro e w2 ⟨rfl, hb2, hz2, hz3, hz4, hz5⟩))
        clear HGA HGD HGR HN hz2 hz3 hz4 hz5
        have hb3 := hbw.trans (hb2.mono hbw.size)
        clear a0 a1 c0 c1 hb2 hbw
        go_wp2_with fail
        go_ret
        exact ⟨by rw [HE.out]; rfl, hb3⟩
      · have hod : decide (0 ≤ od) = false := decide_eq_false ho
        have HE : Hid (Wr.rise Wr.idOrd l = Wr.rise Wr.idOrd (l.drop k)) := by
          show _ = _
          rw [HD.out, decide_eq_true (by omega), Bool.true_and, HKJ.out]
        clear HD
        go_upto_region 4 with fail
        go_region_held3 (fun yy => yy.cell? ⟨b, off + j * 2, none⟩ = some (.int .i64 xa) ∧ yy.cell? ⟨b, off + j * 2 + 1, none⟩ = some (.int .i64 xn) ∧ yy.cell? ⟨b, off + k * 2, none⟩ = some (.int .i64 ya) ∧ yy.cell? ⟨b, off + k * 2 + 1, none⟩ = some (.int .i64 yn) ∧ Below wr.heap.size wr yy) (go_keep) (
          (go_at_call 50; refine Calls.mono (HN.out _ ?_) ?_; (simp [*]); rintro e w2 ⟨rfl, hb2, hz2, hz3, hz4, hz5⟩))
        clear HGA HGD HGR HN hz2 hz3 hz4 hz5
        have hb3 := hbw.trans (hb2.mono hbw.size)
        clear a0 a1 c0 c1 hb2 hbw
        go_wp2_with fail
        go_roundw
        case rel => exact ⟨k + 1, by omega, by omega, by go_num, HE.out, hb3⟩
        case measure => simp [intOf]; omega
    · have hltI : decide (k < l.length) = false := decide_eq_false hlt
      have HE : Hid (Wr.rise Wr.idOrd l = true) := HR.out.trans (Wr.rise_end Wr.idOrd l (k - 1) (by omega))
      go_wp2_with fail
      go_ret
      exact ⟨by rw [HE.out]; rfl, hbw⟩

set_option maxRecDepth 100000 in
set_option maxHeartbeats 1000000 in
theorem RiseId_any (l : List Wr.Id) (v : Value) (w : World) (hV : IdsV w v l) (hl : l.length ≤ 1000000) : Calls Try.prog 30 #[v, .func (.func 31) #[] #[]] w fun e w' => e = .returned (.bool (Wr.rise Wr.idOrd l)) ∧ Below w.heap.size w w' := by
  obtain ⟨ao, cap, rfl, _, hA⟩ := hV
  have HA : Hid (IdsAt w ao l) := hA
  clear hA
  go_enter Try.func30, Try.ntmps30
  go_wp2_with fail
  go_loopw [5] (fun iv wr => ∃ k : Nat, 1 ≤ k ∧ k ≤ l.length + 1 ∧ iv = .int .i64 k ∧ Hid (Wr.rise Wr.idOrd l = Wr.rise Wr.idOrd (l.drop (k - 1))) ∧ Below w.heap.size w wr) (fun iv _ => l.length + 2 - (intOf iv).toNat)
  case atStart => exact ⟨1, Nat.le_refl _, by omega, rfl, rfl, Below.refl _ _⟩
  case round =>
    obtain ⟨k, hk1, hk, rfl, HR, hbw⟩ := hrel
    obtain ⟨j, hkj⟩ : ∃ j, k = j + 1 := ⟨k - 1, by omega⟩
    by_cases hlt : k < l.length
    · have hltj : j < l.length := by omega
      have hwr : IntKind.i64.wrap ((k : Int) - 1) = (j : Int) := by
        have e : ((k : Int) - 1) = (j : Int) := by omega
        rw [e]
        simp [IntKind.wrap, IntKind.bits, IntKind.signed]
        omega
      have HD : Hid (Wr.rise Wr.idOrd l = (decide (Wr.idOrd (idD l j) (idD l k) < 0) && Wr.rise Wr.idOrd (l.drop j.succ))) := by
        show _ = _
        rw [HR.out, hkj, Nat.add_sub_cancel]
        exact Wr.rise_step Wr.idOrd ⟨0, 0⟩ l j (by omega)
      have HKJ : Hid (k = j + 1) := hkj
      clear hkj
      obtain ⟨b, off, rfl, p0, p1⟩ := ids_at HA.out j hltj
      obtain ⟨b2, off2, hv2, r0, r1⟩ := ids_at HA.out k hlt
      injection hv2 with hv2
      injection hv2 with hb2 ho2 _
      subst hb2 ho2
      have a0 := cell_below hbw p0
      have a1 := cell_below hbw p1
      have c0 := cell_below hbw r0
      have c1 := cell_below hbw r1
      clear p0 p1 r0 r1 HR
      generalize idD l j = x at *
      generalize idD l k = y at *
      obtain ⟨xa, xn⟩ := x
      obtain ⟨ya, yn⟩ := y
      have HN : Hid (∀ z, Below wr.heap.size wr z → Calls Try.prog 31 #[idVal ⟨xa, xn⟩, idVal ⟨ya, yn⟩] z fun e w' => e = .returned (.int .i64 (Wr.idOrd ⟨xa, xn⟩ ⟨ya, yn⟩)) ∧ Below wr.heap.size wr w' ∧ w'.cell? ⟨b, off + j * 2, none⟩ = some (.int .i64 xa) ∧ w'.cell? ⟨b, off + j * 2 + 1, none⟩ = some (.int .i64 xn) ∧ w'.cell? ⟨b, off + k * 2, none⟩ = some (.int .i64 ya) ∧ w'.cell? ⟨b, off + k * 2 + 1, none⟩ = some (.int .i64 yn)) := by
        intro z hz
        refine (uOrder_any ⟨xa, xn⟩ ⟨ya, yn⟩ z).mono ?_
        rintro e w' ⟨h1, h2⟩
        have h3 := hz.trans (h2.below.mono hz.size)
        exact ⟨h1, h3, cell_below h3 a0, cell_below h3 a1, cell_below h3 c0, cell_below h3 c1⟩
      generalize hod : Wr.idOrd ⟨xa, xn⟩ ⟨ya, yn⟩ = od at *
      have HGA : ∀ b o, Below wr.heap.size wr b → Below wr.heap.size wr (b.alloc o) := fun _ o h => h.alloc h.size o
      have HGD : ∀ b, Below wr.heap.size wr b → Below wr.heap.size wr b.drew := fun _ h => ⟨h.os, h.tape, h.output, h.size, h.block⟩
      have HGR : Below wr.heap.size wr wr := Below.refl _ _
      clear hod
      by_cases ho : 0 ≤ od
      · have hod : decide (0 ≤ od) = true := decide_eq_true ho
        have HE : Hid (Wr.rise Wr.idOrd l = false) := by
          show _ = _
          rw [HD.out, decide_eq_false (by omega)]
          rfl
        clear HD
        go_upto_region 4 with fail
        go_region_held3 (fun yy => yy.cell? ⟨b, off + j * 2, none⟩ = some (.int .i64 xa) ∧ yy.cell? ⟨b, off + j * 2 + 1, none⟩ = some (.int .i64 xn) ∧ yy.cell? ⟨b, off + k * 2, none⟩ = some (.int .i64 ya) ∧ yy.cell? ⟨b, off + k * 2 + 1, none⟩ = some (.int .i64 yn) ∧ Below wr.heap.size wr yy) (go_keep) (
          (go_at_call 31; refine Calls.mono (HN.out _ ?_) ?_; (simp [*]); rintro e w2 ⟨rfl, hb2, hz2, hz3, hz4, hz5⟩))
        clear HGA HGD HGR HN hz2 hz3 hz4 hz5
        have hb3 := hbw.trans (hb2.mono hbw.size)
        clear a0 a1 c0 c1 hb2 hbw
        go_wp2_with fail
        go_ret
        exact ⟨by rw [HE.out]; rfl, hb3⟩
      · have hod : decide (0 ≤ od) = false := decide_eq_false ho
        have HE : Hid (Wr.rise Wr.idOrd l = Wr.rise Wr.idOrd (l.drop k)) := by
          show _ = _
          rw [HD.out, decide_eq_true (by omega), Bool.true_and, HKJ.out]
        clear HD
        go_upto_region 4 with fail
        go_region_held3 (fun yy => yy.cell? ⟨b, off + j * 2, none⟩ = some (.int .i64 xa) ∧ yy.cell? ⟨b, off + j * 2 + 1, none⟩ = some (.int .i64 xn) ∧ yy.cell? ⟨b, off + k * 2, none⟩ = some (.int .i64 ya) ∧ yy.cell? ⟨b, off + k * 2 + 1, none⟩ = some (.int .i64 yn) ∧ Below wr.heap.size wr yy) (go_keep) (
          (go_at_call 31; refine Calls.mono (HN.out _ ?_) ?_; (simp [*]); rintro e w2 ⟨rfl, hb2, hz2, hz3, hz4, hz5⟩))
        clear HGA HGD HGR HN hz2 hz3 hz4 hz5
        have hb3 := hbw.trans (hb2.mono hbw.size)
        clear a0 a1 c0 c1 hb2 hbw
        go_wp2_with fail
        go_roundw
        case rel => exact ⟨k + 1, by omega, by omega, by go_num, HE.out, hb3⟩
        case measure => simp [intOf]; omega
    · have hltI : decide (k < l.length) = false := decide_eq_false hlt
      have HE : Hid (Wr.rise Wr.idOrd l = true) := HR.out.trans (Wr.rise_end Wr.idOrd l (k - 1) (by omega))
      go_wp2_with fail
      go_ret
      exact ⟨by rw [HE.out]; rfl, hbw⟩

set_option maxRecDepth 100000 in
set_option maxHeartbeats 1000000 in
theorem RiseF_any (l : List Rl.Fc) (v : Value) (w : World) (hV : FactsV w v l) (hl : l.length ≤ 1000000) (hf : ∀ f, f ∈ l → FFit f) : Calls Try.prog 35 #[v, .func (.func 36) #[] #[]] w fun e w' => e = .returned (.bool (Wr.rise Rl.ord l)) ∧ Below w.heap.size w w' := by
  obtain ⟨ao, cap, rfl, _, hA⟩ := hV
  have HA : Hid (FactsAt w ao l) := hA
  have HF : Hid (∀ f, f ∈ l → FFit f) := hf
  clear hf
  clear hA
  go_enter Try.func35, Try.ntmps35
  go_wp2_with fail
  go_loopw [5] (fun iv wr => ∃ k : Nat, 1 ≤ k ∧ k ≤ l.length + 1 ∧ iv = .int .i64 k ∧ Hid (Wr.rise Rl.ord l = Wr.rise Rl.ord (l.drop (k - 1))) ∧ Below w.heap.size w wr) (fun iv _ => l.length + 2 - (intOf iv).toNat)
  case atStart => exact ⟨1, Nat.le_refl _, by omega, rfl, rfl, Below.refl _ _⟩
  case round =>
    obtain ⟨k, hk1, hk, rfl, HR, hbw⟩ := hrel
    obtain ⟨j, hkj⟩ : ∃ j, k = j + 1 := ⟨k - 1, by omega⟩
    by_cases hlt : k < l.length
    · have hltj : j < l.length := by omega
      have hwr : IntKind.i64.wrap ((k : Int) - 1) = (j : Int) := by
        have e : ((k : Int) - 1) = (j : Int) := by omega
        rw [e]
        simp [IntKind.wrap, IntKind.bits, IntKind.signed]
        omega
      have HD : Hid (Wr.rise Rl.ord l = (decide (Rl.ord (Rl.factD l j) (Rl.factD l k) < 0) && Wr.rise Rl.ord (l.drop j.succ))) := by
        show _ = _
        rw [HR.out, hkj, Nat.add_sub_cancel]
        exact Wr.rise_step Rl.ord ⟨0, []⟩ l j (by omega)
      have HKJ : Hid (k = j + 1) := hkj
      clear hkj
      obtain ⟨b, off, rfl, p0, fv, p1, hIv⟩ := facts_at HA.out j hltj
      obtain ⟨b2, off2, hv2, r0, gv, r1, hJv⟩ := facts_at HA.out k hlt
      injection hv2 with hv2
      injection hv2 with hb2 ho2 _
      subst hb2 ho2
      have HIV : Hid (IntsV w fv (Rl.factD l j).args ∧ IntsV w gv (Rl.factD l k).args ∧ FFit (Rl.factD l j) ∧ FFit (Rl.factD l k)) := ⟨hIv, hJv, HF.out _ (factD_mem l j hltj), HF.out _ (factD_mem l k hlt)⟩
      obtain ⟨af, cf, rfl, _⟩ := hIv
      obtain ⟨ag, cg, rfl, _⟩ := hJv
      have a0 := cell_below hbw p0
      have a1 := cell_below hbw p1
      have c0 := cell_below hbw r0
      have c1 := cell_below hbw r1
      clear p0 p1 r0 r1 HR
      generalize Rl.factD l j = x at *
      generalize Rl.factD l k = y at *
      have HN : Hid (∀ z, Below wr.heap.size wr z → Calls Try.prog 36 #[fcVal x.pred (.slice af x.args.length cf), fcVal y.pred (.slice ag y.args.length cg)] z fun e w' => e = .returned (.int .i64 (Rl.ord x y)) ∧ Below wr.heap.size wr w' ∧ w'.cell? ⟨b, off + j * 2, none⟩ = some (.int .i64 x.pred) ∧ w'.cell? ⟨b, off + j * 2 + 1, none⟩ = some (.slice af x.args.length cf) ∧ w'.cell? ⟨b, off + k * 2, none⟩ = some (.int .i64 y.pred) ∧ w'.cell? ⟨b, off + k * 2 + 1, none⟩ = some (.slice ag y.args.length cg)) := by
        intro z hz
        have hzw := hbw.trans (hz.mono hbw.size)
        refine (Order_any x y _ _ z (intsV_below HIV.out.1 hzw) (intsV_below HIV.out.2.1 hzw) HIV.out.2.2.1 HIV.out.2.2.2).mono ?_
        rintro e w' ⟨h1, h2⟩
        have h3 := hz.trans (h2.below.mono hz.size)
        exact ⟨h1, h3, cell_below h3 a0, cell_below h3 a1, cell_below h3 c0, cell_below h3 c1⟩
      generalize hod : Rl.ord x y = od at *
      have HGA : ∀ b o, Below wr.heap.size wr b → Below wr.heap.size wr (b.alloc o) := fun _ o h => h.alloc h.size o
      have HGD : ∀ b, Below wr.heap.size wr b → Below wr.heap.size wr b.drew := fun _ h => ⟨h.os, h.tape, h.output, h.size, h.block⟩
      have HGR : Below wr.heap.size wr wr := Below.refl _ _
      clear hod
      by_cases ho : 0 ≤ od
      · have hod : decide (0 ≤ od) = true := decide_eq_true ho
        have HE : Hid (Wr.rise Rl.ord l = false) := by
          show _ = _
          rw [HD.out, decide_eq_false (by omega)]
          rfl
        clear HD
        go_upto_region 4 with fail
        go_region_held3 (fun yy => yy.cell? ⟨b, off + j * 2, none⟩ = some (.int .i64 x.pred) ∧ yy.cell? ⟨b, off + j * 2 + 1, none⟩ = some (.slice af x.args.length cf) ∧ yy.cell? ⟨b, off + k * 2, none⟩ = some (.int .i64 y.pred) ∧ yy.cell? ⟨b, off + k * 2 + 1, none⟩ = some (.slice ag y.args.length cg) ∧ Below wr.heap.size wr yy) (go_keep) (
          (go_at_call 36; refine Calls.mono (HN.out _ ?_) ?_; (simp [*]); rintro e w2 ⟨rfl, hb2, hz2, hz3, hz4, hz5⟩))
        clear HGA HGD HGR HN hz2 hz3 hz4 hz5
        have hb3 := hbw.trans (hb2.mono hbw.size)
        clear a0 a1 c0 c1 hb2 hbw
        go_wp2_with fail
        go_ret
        exact ⟨by rw [HE.out]; rfl, hb3⟩
      · have hod : decide (0 ≤ od) = false := decide_eq_false ho
        have HE : Hid (Wr.rise Rl.ord l = Wr.rise Rl.ord (l.drop k)) := by
          show _ = _
          rw [HD.out, decide_eq_true (by omega), Bool.true_and, HKJ.out]
        clear HD
        go_upto_region 4 with fail
        go_region_held3 (fun yy => yy.cell? ⟨b, off + j * 2, none⟩ = some (.int .i64 x.pred) ∧ yy.cell? ⟨b, off + j * 2 + 1, none⟩ = some (.slice af x.args.length cf) ∧ yy.cell? ⟨b, off + k * 2, none⟩ = some (.int .i64 y.pred) ∧ yy.cell? ⟨b, off + k * 2 + 1, none⟩ = some (.slice ag y.args.length cg) ∧ Below wr.heap.size wr yy) (go_keep) (
          (go_at_call 36; refine Calls.mono (HN.out _ ?_) ?_; (simp [*]); rintro e w2 ⟨rfl, hb2, hz2, hz3, hz4, hz5⟩))
        clear HGA HGD HGR HN hz2 hz3 hz4 hz5
        have hb3 := hbw.trans (hb2.mono hbw.size)
        clear a0 a1 c0 c1 hb2 hbw
        go_wp2_with fail
        go_roundw
        case rel => exact ⟨k + 1, by omega, by omega, by go_num, HE.out, hb3⟩
        case measure => simp [intOf]; omega
    · have hltI : decide (k < l.length) = false := decide_eq_false hlt
      have HE : Hid (Wr.rise Rl.ord l = true) := HR.out.trans (Wr.rise_end Rl.ord l (k - 1) (by omega))
      go_wp2_with fail
      go_ret
      exact ⟨by rw [HE.out]; rfl, hbw⟩

end Go.Proofs.Ytjeaicahdnoonaa

