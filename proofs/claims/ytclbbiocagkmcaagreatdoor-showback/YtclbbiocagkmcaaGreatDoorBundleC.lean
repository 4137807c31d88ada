/- Own texts, one behind the other (part 3). -/
import Derived.Test.YtclbbiocagkmcaaGreatDoorBundleB
import Derived.Test.YtclbbiocagkmcaaGreatDoorRows
import Derived.Test.YtclbbiocagkmcaaGreatDoorCards
import Derived.Test.YtclbbiocagkmcaaGreatDoorTie
import Derived.Deep.QuietTactic
import Derived.BigQuiet
import Derived.Lib.AtoiBound
import Derived.Deep.RegionHeld3
import Derived.Deep.DeepCutAuto
import Derived.Deep.RegionLaw
import Derived.Laws.BytesArg
import Derived.Laws.OwnMore
/- Package show: terms and atoms. -/
namespace Go.Proofs.YtclbbiocagkmcaaGreatDoor
open Go.RowKit

namespace Sh
/-- The texts of the document, plain. -/
def term (t : Tr.Term) : List UInt8 := if t.var.isEmpty then Lib.itoa t.n else t.var
def fold (f : Int) : List UInt8 := if f = 1 then [99, 111, 117, 110, 116, 32] else if f = 2 then [115, 117, 109, 32] else if f = 3 then [108, 101, 97, 115, 116, 32] else if f = 4 then [109, 111, 115, 116, 32] else []
def sep (n : Nat) : List UInt8 := if 0 < n then [44, 32] else []
def ahead (fa : List UInt8) (n m : Nat) : List UInt8 := if n + 1 = m then fa else []
def terms (fa : List UInt8) (l : List Tr.Term) : Nat → List UInt8
  | 0 => []
  | n + 1 => terms fa l n ++ sep n ++ ahead fa n l.length ++ term (Tr.termD l n)
def atom (nm : List UInt8) (l : List Tr.Term) (f : Int) : List UInt8 := nm ++ [40] ++ terms (fold f) l l.length ++ [41]
theorem terms_len (fa : List UInt8) (l : List Tr.Term) : ∀ n m, n ≤ m → (terms fa l n).length ≤ (terms fa l m).length
  | n, 0, h => by
    obtain rfl : n = 0 := by omega
    exact Nat.le_refl _
  | n, m + 1, h => by
    rcases Nat.lt_or_ge n (m + 1) with h1 | h1
    · have := terms_len fa l n m (by omega)
      rw [terms, List.length_append, List.length_append, List.length_append]
      omega
    · obtain rfl : n = m + 1 := by omega
      exact Nat.le_refl _
/-- A number that an int holds. -/
def NumOk (t : Tr.Term) : Prop := -9223372036854775808 ≤ t.n ∧ t.n ≤ 9223372036854775807
end Sh

/-- The library's table stands. -/
abbrev Pow (w : World) : Prop := Lib.TabIs Tryz.prog w "internal/strconv.uint64pow10" .u64 Lib.pow10Tab
theorem Pow.below {w w' : World} (h : Pow w) (hb : Below w.heap.size w w') : Pow w' := by
  unfold Pow Lib.TabIs World.var? at h ⊢
  cases hg : Tryz.prog.globalNamed "internal/strconv.uint64pow10" with
  | none => rw [hg] at h; simp at h
  | some g =>
    rw [hg] at h
    simp only [Option.bind_some] at h ⊢
    have hlt : g < w.heap.size := by
      rcases Nat.lt_or_ge g w.heap.size with h' | h'
      · exact h'
      · rw [Array.getElem?_eq_none h'] at h; cases h
    rw [hb.block g hlt]
    exact h

theorem Kept.trans {P : Nat} {a b c : World} (h : Kept P a b) (k : Kept P b c) : Kept P a c := Lib.OthersKept.trans h k
theorem kept_below {P : Nat} {w w' : World} (hb : Below w.heap.size w w') : Kept P w w' := Kept.below (Lib.OthersKept.refl _ _ _) hb
/-- Ahead of a call in a region that draws. -/
theorem PI.on2 {w0 w wd w' : World} {P : Nat} {bs : List UInt8} (h : PI w0 w P bs) (hb : Below wd.heap.size wd w') (hs : Below w.heap.size w wd) : PI w0 w' P bs := (h.below hs).below hb
theorem Kept.on2 {P : Nat} {a w wd w' : World} (h : Kept P a w) (hb : Below wd.heap.size wd w') (hs : Below w.heap.size w wd) : Kept P a w' := (h.below hs).below hb
theorem Kept.on3 {P : Nat} {a w wd w' : World} (h : Kept P a w) (hk : Kept P wd w') (hs : Below w.heap.size w wd) : Kept P a w' := (h.below hs).trans hk
theorem PI.same {w0 w w' : World} {P : Nat} {bs : List UInt8} (h : PI w0 w P bs) (hb : Below w.heap.size w w') : PI w0 w' P bs := h.below hb

set_option maxRecDepth 100000 in
set_option maxHeartbeats 1000000 in
theorem shTerm_any (w0 : World) (P : Nat) (bs : List UInt8) (t : Tr.Term) (w : World) (h : PI w0 w P bs) (hn : Sh.NumOk t) (hp : Pow w0) (hlen : bs.length + (Sh.term t).length ≤ 140737488355328) :
    Calls Tryz.prog 58 #[.pointer (some ⟨P, 0, none⟩), termVal t] w fun e w' => e = .returned (.tuple #[]) ∧ PI w0 w' P (bs ++ Sh.term t) ∧ Kept P w w' := by
  have hb1 : Below w.heap.size w (w.alloc (.cells #[.string ⟨t.var.toArray⟩, .int .i64 t.n] 57)) := (Below.refl _ _).alloc (Nat.le_refl _) _
  have hI1 := h.below hb1
  have hk1 : Kept P w (w.alloc (.cells #[.string ⟨t.var.toArray⟩, .int .i64 t.n] 57)) := kept_below hb1
  by_cases hv : t.var = []
  · have ht : Sh.term t = Lib.itoa t.n := by unfold Sh.term; rw [hv]; rfl
    rw [ht] at hlen ⊢
    have HI : Hid (∀ w1, Pow w1 → Calls Tryz.prog 77 #[.int .i64 t.n] w1 fun e w' => e = .returned (strV (Lib.itoa t.n)) ∧ Below w1.heap.size w1 w') := fun w1 hp1 => (Tryz.strconv_Itoa t.n hn.1 hn.2 w1 hp1).mono fun e w' ⟨he, k, os, hw⟩ => ⟨he, by rw [hw]; exact Lib.below_grow _ _ (Nat.le_refl _) _ _⟩
    have HP : Hid (∀ w1, PI w0 w1 P bs → Calls Tryz.prog 31 #[.pointer (some ⟨P, 0, none⟩), strV (Lib.itoa t.n)] w1 fun e w' => e = .returned (.tuple #[]) ∧ PI w0 w' P (bs ++ Lib.itoa t.n) ∧ Kept P w1 w') := fun w1 h1 => put_any w0 P bs _ w1 h1 hlen
    obtain ⟨tv, tn⟩ := t
    obtain rfl : tv = [] := hv
    have hc1 : (w.alloc (.cells #[.string ⟨#[]⟩, .int .i64 tn] 57)).cell? ⟨w.heap.size, 1, none⟩ = some (.int .i64 tn) := by rw [Lib.cell_of_heap (heap_alloc_new w _)]; rfl
    clear ht
    go_enter Tryz.func58, Tryz.ntmps58
    go_wp2_with fail
    generalize w.alloc (.cells #[.string ⟨#[]⟩, .int .i64 tn] 57) = w1 at *
    generalize hbx : w.heap.size = X at *
    have c1 : w1.cell? ⟨X, 1, none⟩ = some (.int .i64 tn) := hc1
    clear hc1 hb1
    go_region_law (first
      | (go_simp; go_at_call 77; refine Calls.mono (HI.out _ (Pow.below (Pow.below hp hI1.bel) ⟨rfl, rfl, rfl, Nat.le_refl _, fun _ _ => rfl⟩)) ?_; rintro e y2 ⟨rfl, hb2⟩; have hI2 := PI.on2 hI1 hb2 ⟨rfl, rfl, rfl, Nat.le_refl _, fun _ _ => rfl⟩; have hk2 := Kept.on2 hk1 hb2 ⟨rfl, rfl, rfl, Nat.le_refl _, fun _ _ => rfl⟩; dsimp only)
      | (go_simp; go_at_call 31; refine Calls.mono (HP.out _ (PI.same hI2 ⟨rfl, rfl, rfl, Nat.le_refl _, fun _ _ => rfl⟩)) ?_; rintro e y3 ⟨rfl, hI3, hk3⟩; have hk4 := Kept.on3 hk2 hk3 ⟨rfl, rfl, rfl, Nat.le_refl _, fun _ _ => rfl⟩; dsimp only))
    all_goals go_end0
    all_goals exact ⟨rfl, hI3, hk4⟩
  · have ht : Sh.term t = t.var := by unfold Sh.term; rw [if_neg (by simpa using hv)]
    rw [ht] at hlen ⊢
    have HP : Hid (∀ w1, PI w0 w1 P bs → Calls Tryz.prog 31 #[.pointer (some ⟨P, 0, none⟩), strV t.var] w1 fun e w' => e = .returned (.tuple #[]) ∧ PI w0 w' P (bs ++ t.var) ∧ Kept P w1 w') := fun w1 h1 => put_any w0 P bs _ w1 h1 hlen
    have hc0 : (w.alloc (.cells #[.string ⟨t.var.toArray⟩, .int .i64 t.n] 57)).cell? ⟨w.heap.size, 0, none⟩ = some (.string ⟨t.var.toArray⟩) := by rw [Lib.cell_of_heap (heap_alloc_new w _)]; rfl
    have hve : t.var.isEmpty = false := by simpa using hv
    clear ht hn hv
    go_enter Tryz.func58, Tryz.ntmps58
    go_upto_region 2 with fail
    generalize w.alloc (.cells #[.string ⟨t.var.toArray⟩, .int .i64 t.n] 57) = w1 at *
    generalize hbx : w.heap.size = X at *
    go_region_law (go_simp; go_at_call 31; refine Calls.mono (HP.out _ (PI.same hI1 ⟨rfl, rfl, rfl, Nat.le_refl _, fun _ _ => rfl⟩)) ?_; rintro e y3 ⟨rfl, hI3, hk3⟩; have hk4 := Kept.on3 hk1 hk3 ⟨rfl, rfl, rfl, Nat.le_refl _, fun _ _ => rfl⟩; dsimp only)
    all_goals go_wp2_with fail
    all_goals exact ⟨rfl, .tuple #[], by simp [results, Tryz.results58], rfl, hI3, hk4⟩

set_option maxRecDepth 100000 in
set_option maxHeartbeats 1000000 in
theorem foldAhead_any (f : Int) (w : World) : Calls Tryz.prog 57 #[.int .i64 f] w fun e w' => e = .returned (strV (Sh.fold f)) ∧ w' = w := by
  by_cases h1 : f = 1
  · subst h1
    go_enter Tryz.func57, Tryz.ntmps57
    go_wp2
    go_ret
    exact ⟨rfl, rfl⟩
  by_cases h2 : f = 2
  · subst h2
    go_enter Tryz.func57, Tryz.ntmps57
    go_wp2
    go_ret
    exact ⟨rfl, rfl⟩
  by_cases h3 : f = 3
  · subst h3
    go_enter Tryz.func57, Tryz.ntmps57
    go_wp2
    go_ret
    exact ⟨rfl, rfl⟩
  by_cases h4 : f = 4
  · subst h4
    go_enter Tryz.func57, Tryz.ntmps57
    go_wp2
    go_ret
    exact ⟨rfl, rfl⟩
  have e : Sh.fold f = [] := by unfold Sh.fold; rw [if_neg h1, if_neg h2, if_neg h3, if_neg h4]
  rw [e]
  have g1 : (f == 1) = false := by simpa using h1
  have g2 : (f == 2) = false := by simpa using h2
  have g3 : (f == 3) = false := by simpa using h3
  have g4 : (f == 4) = false := by simpa using h4
  go_enter Tryz.func57, Tryz.ntmps57
  go_wp2
  go_ret
  exact ⟨rfl, rfl⟩

/-- What atom's closure has captured. -/
structure Caps (w : World) (P T B F : Nat) (v : Value) (f : Int) : Prop where
  hT : w.heap[T]? = some (.cells #[v] 43)
  hB : w.heap[B]? = some (.cells #[.pointer (some ⟨P, 0, none⟩)] 37)
  hF : w.heap[F]? = some (.cells #[.int .i64 f] 3)
  nT : T ≠ P
  nB : B ≠ P
  nF : F ≠ P
theorem Caps.kept {w w' : World} {P T B F : Nat} {v : Value} {f : Int} (h : Caps w P T B F v f) (hk : Kept P w w') : Caps w' P T B F v f where
  hT := hk T _ h.hT (by have := h.nT; simpa using this) (fun c fz e => by injection e with _ e; exact absurd e (by decide))
  hB := hk B _ h.hB (by have := h.nB; simpa using this) (fun c fz e => by injection e with _ e; exact absurd e (by decide))
  hF := hk F _ h.hF (by have := h.nF; simpa using this) (fun c fz e => by injection e with _ e; exact absurd e (by decide))
  nT := h.nT
  nB := h.nB
  nF := h.nF
theorem Caps.cells {w : World} {P T B F : Nat} {v : Value} {f : Int} (h : Caps w P T B F v f) : w.cell? ⟨T, 0, none⟩ = some v ∧ w.cell? ⟨B, 0, none⟩ = some (.pointer (some ⟨P, 0, none⟩)) ∧ w.cell? ⟨F, 0, none⟩ = some (.int .i64 f) :=
  ⟨by rw [Lib.cell_of_heap h.hT]; rfl, by rw [Lib.cell_of_heap h.hB]; rfl, by rw [Lib.cell_of_heap h.hF]; rfl⟩

set_option maxRecDepth 100000 in
set_option maxHeartbeats 1000000 in
theorem atomPut_any (w0 : World) (P : Nat) (bs : List UInt8) (i n ca : Nat) (ao : Option Addr) (f : Int) (t : Tr.Term) (T B F : Nat) (w : World) (h : PI w0 w P bs) (hC : Caps w P T B F (.slice ao n ca) f) (hn4 : n ≤ 4611686018427387904) (hn : Sh.NumOk t) (hp : Pow w0)
    (hlen : bs.length + (Sh.ahead (Sh.fold f) i n).length + (Sh.term t).length ≤ 140737488355328) :
    Calls Tryz.prog 56 #[.int .i64 i, termVal t, .pointer (some ⟨T, 0, none⟩), .pointer (some ⟨B, 0, none⟩), .pointer (some ⟨F, 0, none⟩)] w fun e w' => e = .returned (.tuple #[]) ∧ PI w0 w' P (bs ++ Sh.ahead (Sh.fold f) i n ++ Sh.term t) ∧ Kept P w w' := by
  have hb1 : Below w.heap.size w (w.alloc (.cells #[.string ⟨t.var.toArray⟩, .int .i64 t.n] 57)) := (Below.refl _ _).alloc (Nat.le_refl _) _
  have hI1 := h.below hb1
  have hk1 : Kept P w (w.alloc (.cells #[.string ⟨t.var.toArray⟩, .int .i64 t.n] 57)) := kept_below hb1
  have hC1 := hC.kept hk1
  have hX1 := heap_alloc_new w (.cells #[.string ⟨t.var.toArray⟩, .int .i64 t.n] 57)
  have hXP : w.heap.size ≠ P := by have := h.lt; omega
  have HPT : Hid (∀ bs' w1, bs'.length + (Sh.term t).length ≤ 140737488355328 → PI w0 w1 P bs' → Calls Tryz.prog 58 #[.pointer (some ⟨P, 0, none⟩), termVal t] w1 fun e w' => e = .returned (.tuple #[]) ∧ PI w0 w' P (bs' ++ Sh.term t) ∧ Kept P w1 w') := fun bs' w1 hl h1 => shTerm_any w0 P bs' t w1 h1 hn hp hl
  by_cases hl : i + 1 = n
  · have ha : Sh.ahead (Sh.fold f) i n = Sh.fold f := by unfold Sh.ahead; rw [if_pos hl]
    rw [ha] at hlen ⊢
    have HP : Hid (∀ w1, PI w0 w1 P bs → Calls Tryz.prog 31 #[.pointer (some ⟨P, 0, none⟩), strV (Sh.fold f)] w1 fun e w' => e = .returned (.tuple #[]) ∧ PI w0 w' P (bs ++ Sh.fold f) ∧ Kept P w1 w') := fun w1 h1 => put_any w0 P bs _ w1 h1 (by omega)
    have hd : ((i : Int) == (n : Int) - 1) = true := by simp; omega
    clear ha
    go_enter Tryz.func56, Tryz.ntmps56
    obtain ⟨c0, c1, c2⟩ := hC1.cells
    go_upto_region 2 with fail
    generalize w.alloc (.cells #[.string ⟨t.var.toArray⟩, .int .i64 t.n] 57) = w1 at *
    generalize w.heap.size = X at *
    go_cut [] (fun wx => PI w0 wx P (bs ++ Sh.fold f) ∧ Kept P w wx ∧ Kept P w1 wx)
    case first =>
      go_region_law (first
        | (go_simp; go_at_call 57; refine Calls.mono (foldAhead_any f _) ?_; rintro e y2 ⟨rfl, rfl⟩; dsimp only)
        | (go_simp; go_at_call 31; refine Calls.mono (HP.out _ (PI.same hI1 ⟨rfl, rfl, rfl, Nat.le_refl _, fun _ _ => rfl⟩)) ?_; rintro e y3 ⟨rfl, hI3, hk3⟩; have hk4 := Kept.on3 hk1 hk3 ⟨rfl, rfl, rfl, Nat.le_refl _, fun _ _ => rfl⟩; have hk5 := Kept.on3 (Lib.OthersKept.refl 5 (some P) w1) hk3 ⟨rfl, rfl, rfl, Nat.le_refl _, fun _ _ => rfl⟩; dsimp only))
      all_goals go_wp2_with fail
      all_goals go_meet
      all_goals exact ⟨hI3, hk4, hk5⟩
    case rest =>
      obtain ⟨hI4, hk4, hk5⟩ := hcut
      generalize wc = w4 at *
      clear c0 c1 c2
      obtain ⟨c0, c1, c2⟩ := (hC1.kept hk5).cells
      have hX4 := hk5 X _ hX1 (by simpa using hXP) (fun c fz e => by injection e with _ e; exact absurd e (by decide))
      have x0 : w4.cell? ⟨X, 0, none⟩ = some (.string ⟨t.var.toArray⟩) := by rw [Lib.cell_of_heap hX4]; rfl
      have x1 : w4.cell? ⟨X, 1, none⟩ = some (.int .i64 t.n) := by rw [Lib.cell_of_heap hX4]; rfl
      go_wp2_with fail
      refine Calls.mono (HPT.out _ _ (by rw [List.length_append]; omega) hI4) ?_
      rintro e w5 ⟨rfl, hI5, hk6⟩
      go_wp2_with fail
      go_end0
      exact ⟨rfl, hI5, hk4.trans hk6⟩
  · have ha : Sh.ahead (Sh.fold f) i n = [] := by unfold Sh.ahead; rw [if_neg hl]
    rw [ha] at hlen ⊢
    have hd : ((i : Int) == (n : Int) - 1) = false := by simp; omega
    rw [List.append_nil]
    clear ha
    go_enter Tryz.func56, Tryz.ntmps56
    obtain ⟨c0, c1, c2⟩ := hC1.cells
    go_wp2_with fail
    refine Calls.mono (HPT.out _ _ (by simpa using hlen) hI1) ?_
    rintro e w5 ⟨rfl, hI5, hk6⟩
    go_wp2_with fail
    go_end0
    exact ⟨rfl, hI5, hk1.trans hk6⟩


theorem enters56 (a : Array Value) (w : World) : (callFunc 56 a).run Tryz.prog w = .ok (.enter 56 a) w := enters_of Tryz.func56 (by kernel_rfl) rfl a w

set_option maxRecDepth 100000 in
set_option maxHeartbeats 1000000 in
theorem commasT_any (w0 : World) (P : Nat) (bs : List UInt8) (l : List Tr.Term) (ca : Nat) (ao : Option Addr) (f : Int) (T B F : Nat) (w : World) (hV : TermsV w0 (.slice ao l.length ca) l) (h : PI w0 w P bs) (hC : Caps w P T B F (.slice ao l.length ca) f) (hn4 : l.length ≤ 4611686018427387904) (hn : ∀ i, i < l.length → Sh.NumOk (Tr.termD l i)) (hp : Pow w0)
    (hlen : bs.length + (Sh.terms (Sh.fold f) l l.length).length ≤ 140737488355328) :
    Calls Tryz.prog 55 #[.pointer (some ⟨P, 0, none⟩), .slice ao l.length ca, .func (.func 56) #[] #[.pointer (some ⟨T, 0, none⟩), .pointer (some ⟨B, 0, none⟩), .pointer (some ⟨F, 0, none⟩)]] w fun e w' => e = .returned (.tuple #[]) ∧ PI w0 w' P (bs ++ Sh.terms (Sh.fold f) l l.length) ∧ Kept P w w' := by
  generalize hN : l.length = N at *
  go_enter Tryz.func55, Tryz.ntmps55
  go_wp2_with fail
  go_loopw [10] (fun i wr => ∃ k : Nat, k ≤ N ∧ i = .int .i64 k ∧ PI w0 wr P (bs ++ Sh.terms (Sh.fold f) l k) ∧ Kept P w wr) (fun i _ => N - (intOf i).toNat)
  case atStart => exact ⟨0, Nat.zero_le _, rfl, by simpa [Sh.terms] using h, Lib.OthersKept.refl _ _ _⟩
  case round =>
    obtain ⟨k, hk, rfl, hI, hkp⟩ := hrel
    by_cases hlt : k < N
    · have hdk : decide (k < N) = true := decide_eq_true hlt
      obtain ⟨ao', ca', hv, hV'⟩ := hV
      injection hv with hv1 hv2 hv3
      subst hv1
      clear hv2 hv3
      rcases hV' with h0 | ⟨b, off, rfl, hc⟩
      · rw [h0] at hN; simp at hN; omega
      obtain ⟨a0, a1⟩ := hc k (by omega)
      replace a0 := cell_below hI.bel a0
      replace a1 := cell_below hI.bel a1
      have hCr := hC.kept hkp
      have hnk := hn k hlt
      have hle := Sh.terms_len (Sh.fold f) l (k + 1) N (by omega)
      have hST : Sh.terms (Sh.fold f) l (k + 1) = Sh.terms (Sh.fold f) l k ++ Sh.sep k ++ Sh.ahead (Sh.fold f) k N ++ Sh.term (Tr.termD l k) := by rw [Sh.terms, hN]
      rw [hST] at hle
      have HST : Hid _ := hST
      simp only [List.length_append] at hle
      have HN : Hid (l.length = N) := hN
      clear hc hn hST hN
      generalize Tr.termD l k = t at *
      have hb1 : Below wr.heap.size wr (wr.alloc (.cells #[.string ⟨t.var.toArray⟩, .int .i64 t.n] 57)) := (Below.refl _ _).alloc (Nat.le_refl _) _
      have hI1 := hI.below hb1
      have hk1 := Kept.below hkp hb1
      have hX1 := heap_alloc_new wr (.cells #[.string ⟨t.var.toArray⟩, .int .i64 t.n] 57)
      have hXP : wr.heap.size ≠ P := by have := hI.lt; omega
      go_upto_if 16 with fail
      generalize wr.alloc (.cells #[.string ⟨t.var.toArray⟩, .int .i64 t.n] 57) = w1 at *
      generalize wr.heap.size = X at *
      go_cut [] (fun wx => PI w0 wx P (bs ++ Sh.terms (Sh.fold f) l k ++ Sh.sep k) ∧ Kept P w wx ∧ Kept P w1 wx)
      case first =>
        by_cases h0 : 0 < k
        · have hd0 : decide (0 < k) = true := decide_eq_true h0
          have hs : Sh.sep k = [44, 32] := by unfold Sh.sep; rw [if_pos h0]
          have HS : Hid (Sh.sep k = [44, 32]) := hs
          have HP := put_any w0 P _ [44, 32] w1 hI1 (by rw [List.length_append]; rw [hs] at hle; simp only [List.length_cons, List.length_nil] at hle ⊢; omega)
          clear hs
          go_wp2_with fail
          refine HP.mono ?_
          rintro e w2 ⟨rfl, hI2, hk2⟩
          go_wp2_with fail
          go_meet
          exact ⟨by rw [HS.out]; exact hI2, hk1.trans hk2, hk2⟩
        · have hd0 : decide (0 < k) = false := decide_eq_false h0
          have hs : Sh.sep k = [] := by unfold Sh.sep; rw [if_neg h0]
          have HS : Hid (Sh.sep k = []) := hs
          clear hs
          go_wp2_with fail
          go_meet
          exact ⟨by rw [HS.out, List.append_nil]; exact hI1, hk1, Lib.OthersKept.refl _ _ _⟩
      case rest =>
        obtain ⟨hI2, hk2, hk3⟩ := hcut
        generalize wc = w2 at *
        have hX2 := hk3 X _ hX1 (by simpa using hXP) (fun c fz e => by injection e with _ e; exact absurd e (by decide))
        have x0 : w2.cell? ⟨X, 0, none⟩ = some (.string ⟨t.var.toArray⟩) := by rw [Lib.cell_of_heap hX2]; rfl
        have x1 : w2.cell? ⟨X, 1, none⟩ = some (.int .i64 t.n) := by rw [Lib.cell_of_heap hX2]; rfl
        have HA := atomPut_any w0 P _ k N ca (some ⟨b, off, none⟩) f t T B F w2 hI2 (hC.kept hk2) hn4 hnk hp (by simp only [List.length_append]; omega)
        clear hI1 hX1 hI hkp hCr hk1 a0 a1 hb1
        go_wp2_with fail
        refine HA.mono ?_
        rintro e w3 ⟨rfl, hI3, hk4⟩
        have hI3' : PI w0 w3 P (bs ++ Sh.terms (Sh.fold f) l (k + 1)) := by
          rw [HST.out]
          simpa only [List.append_assoc] using hI3
        go_wp2_with fail
        go_roundw
        case rel => exact ⟨k + 1, by omega, by go_num, hI3', hk2.trans hk4⟩
        case measure => simp [intOf]; omega
    · have hdk : decide (k < N) = false := decide_eq_false hlt
      obtain rfl : k = N := by omega
      clear hN
      go_wp2_with fail
      go_end0
      exact ⟨rfl, hI, hkp⟩

set_option maxRecDepth 100000 in
set_option maxHeartbeats 1000000 in
theorem atom_any (w0 : World) (P : Nat) (bs nm : List UInt8) (l : List Tr.Term) (v : Value) (f : Int) (w : World) (hV : TermsV w0 v l) (h : PI w0 w P bs) (hn4 : l.length ≤ 4611686018427387904) (hn : ∀ i, i < l.length → Sh.NumOk (Tr.termD l i)) (hp : Pow w0)
    (hlen : bs.length + (Sh.atom nm l f).length ≤ 140737488355328) :
    Calls Tryz.prog 30 #[.pointer (some ⟨P, 0, none⟩), strV nm, v, .int .i64 f] w fun e w' => e = .returned (.tuple #[]) ∧ PI w0 w' P (bs ++ Sh.atom nm l f) ∧ Kept P w w' := by
  obtain ⟨ao, ca, rfl, hV'⟩ := hV
  have hV : TermsV w0 (.slice ao l.length ca) l := ⟨ao, ca, rfl, hV'⟩
  clear hV'
  have hmf : ∀ (fn : Fn) (first cap : Array Value) (w : World), (Instr.makeFunc fn first cap).run Tryz.prog w = .ok (.func fn first cap) w := fun _ _ _ _ => rfl
  have hl : (Sh.atom nm l f).length = nm.length + 1 + (Sh.terms (Sh.fold f) l l.length).length + 1 := by unfold Sh.atom; simp; omega
  rw [hl] at hlen
  clear hl
  go_enter Tryz.func30, Tryz.ntmps30
  go_upto_region 1 with fail
  have hb1 : Below w.heap.size w (((w.alloc (.cells #[.pointer (some ⟨P, 0, none⟩)] 37)).alloc (.cells #[.slice ao l.length ca] 43)).alloc (.cells #[.int .i64 f] 3)) := (((Below.refl _ _).alloc (Nat.le_refl _) _).alloc (by simp) _).alloc (by simp; omega) _
  have hI1 := h.below hb1
  have hk1 : Kept P w (((w.alloc (.cells #[.pointer (some ⟨P, 0, none⟩)] 37)).alloc (.cells #[.slice ao l.length ca] 43)).alloc (.cells #[.int .i64 f] 3)) := kept_below hb1
  have hltP := h.lt
  have hC1 : Caps (((w.alloc (.cells #[.pointer (some ⟨P, 0, none⟩)] 37)).alloc (.cells #[.slice ao l.length ca] 43)).alloc (.cells #[.int .i64 f] 3)) P (w.heap.size + 1) w.heap.size (w.heap.size + 1 + 1) (.slice ao l.length ca) f :=
    { hT := (heap_alloc_old _ _ (by simp)).trans (by have := heap_alloc_new (w.alloc (.cells #[.pointer (some ⟨P, 0, none⟩)] 37)) (.cells #[.slice ao l.length ca] 43); simpa using this)
      hB := (heap_alloc_old _ _ (by simp; omega)).trans ((heap_alloc_old _ _ (by simp)).trans (heap_alloc_new w _))
      hF := by have := heap_alloc_new ((w.alloc (.cells #[.pointer (some ⟨P, 0, none⟩)] 37)).alloc (.cells #[.slice ao l.length ca] 43)) (.cells #[.int .i64 f] 3); simpa using this
      nT := by omega
      nB := by omega
      nF := by omega }
  clear h hb1 hltP
  generalize ((w.alloc (.cells #[.pointer (some ⟨P, 0, none⟩)] 37)).alloc (.cells #[.slice ao l.length ca] 43)).alloc (.cells #[.int .i64 f] 3) = w1 at *
  generalize w.heap.size + 1 + 1 = F at *
  generalize w.heap.size + 1 = T at *
  generalize w.heap.size = B at *
  obtain ⟨c0, c1, c2⟩ := hC1.cells
  have HP1 := put_any w0 P bs nm w1 hI1 (by omega)
  go_wp2_with fail
  refine HP1.mono ?_
  rintro e w2 ⟨rfl, hI2, hk2⟩
  have hC2 := hC1.kept hk2
  have hkw2 := hk1.trans hk2
  clear c0 c1 c2 hC1 hI1 hk1 hk2 HP1
  obtain ⟨c0, c1, c2⟩ := hC2.cells
  have HP2 := put_any w0 P _ [40] w2 hI2 (by simp only [List.length_append, List.length_cons, List.length_nil]; omega)
  go_wp2_with fail
  refine HP2.mono ?_
  rintro e w3 ⟨rfl, hI3, hk3⟩
  have hC3 := hC2.kept hk3
  have hkw3 := hkw2.trans hk3
  clear c0 c1 c2 hC2 hI2 hkw2 hk3 HP2
  obtain ⟨c0, c1, c2⟩ := hC3.cells
  have HP3 := commasT_any w0 P _ l ca ao f T B F w3 hV hI3 hC3 hn4 hn hp (by simp only [List.length_append, List.length_cons, List.length_nil]; omega)
  go_wp2_with fail
  refine HP3.mono ?_
  rintro e w4 ⟨rfl, hI4, hk4⟩
  have hC4 := hC3.kept hk4
  have hkw4 := hkw3.trans hk4
  clear c0 c1 c2 hC3 hI3 hkw3 hk4 HP3
  obtain ⟨c0, c1, c2⟩ := hC4.cells
  have HP4 := put_any w0 P _ [41] w4 hI4 (by simp only [List.length_append, List.length_cons, List.length_nil]; omega)
  go_wp2_with fail
  refine HP4.mono ?_
  rintro e w5 ⟨rfl, hI5, hk5⟩
  go_wp2_with fail
  go_end0
  exact ⟨rfl, by unfold Sh.atom; simpa only [List.append_assoc] using hI5, hkw4.trans hk5⟩

end Go.Proofs.YtclbbiocagkmcaaGreatDoor

/- The document's comparison of two lists of terms. -/
namespace Go.Proofs.YtclbbiocagkmcaaGreatDoor
open Go.RowKit

namespace Tr
/-- Two lists, thing by thing. -/
def listEq {α : Type} (f : α → α → Bool) : List α → List α → Bool
  | [], [] => true
  | a :: l, b :: m => f a b && listEq f l m
  | _, _ => false
theorem listEq_len {α : Type} (f : α → α → Bool) : ∀ (l m : List α), ¬ l.length = m.length → listEq f l m = false := by
  intro l
  induction l with
  | nil =>
    intro m h
    cases m with
    | nil => exact absurd rfl h
    | cons y b => rfl
  | cons x a ih =>
    intro m h
    cases m with
    | nil => rfl
    | cons y b => rw [listEq, ih b (by simpa using h), Bool.and_false]
theorem listEq_drop {α : Type} (f : α → α → Bool) (d : α) (l m : List α) (i : Nat) (h : i < l.length) (h2 : i < m.length) :
    listEq f (l.drop i) (m.drop i) = (f (l.getD i d) (m.getD i d) && listEq f (l.drop (i + 1)) (m.drop (i + 1))) := by
  rw [List.drop_eq_getElem_cons h, List.drop_eq_getElem_cons h2, listEq]
  simp [List.getD_eq_getElem?_getD, List.getElem?_eq_getElem h, List.getElem?_eq_getElem h2]
def termEq (a b : Term) : Bool := (a.var == b.var) && (a.n == b.n)
def termsEq (l m : List Term) : Bool := listEq termEq l m
end Tr

set_option maxRecDepth 100000 in
set_option maxHeartbeats 1000000 in
theorem sameTerms_loop (la lb : List Tr.Term) (w : World) (n ca cb ba oa bb ob : Nat) (hna : la.length = n) (hnb : lb.length = n) (hmax : n ≤ 9223372036854775807)
    (hA : ∀ i, i < n → TermIn w ba (oa + i * 2) (Tr.termD la i)) (hB : ∀ i, i < n → TermIn w bb (ob + i * 2) (Tr.termD lb i)) :
    Calls Tryz.prog 25 #[.slice (some ⟨ba, oa, none⟩) n ca, .slice (some ⟨bb, ob, none⟩) n cb] w fun e w' => e = .returned (.bool (Tr.termsEq la lb)) ∧ ∃ k, w' = w.drewN k := by
  have HA : Hid (la.length = n) := hna
  have HB : Hid (lb.length = n) := hnb
  clear hna hnb
  have hne : ((n : Int) != (n : Int)) = false := by simp
  go_enter Tryz.func25, Tryz.ntmps25
  go_wp2
  go_loopw [5] (fun i wr => ∃ k nq : Nat, k ≤ n ∧ i = .int .i64 k ∧ Tr.termsEq la lb = Tr.termsEq (la.drop k) (lb.drop k) ∧ wr = w.drewN nq) (fun i _ => n - (intOf i).toNat)
  case atStart => exact ⟨0, 0, Nat.zero_le _, rfl, rfl, rfl⟩
  case round =>
    obtain ⟨k, nq, hk, rfl, hsame, rfl⟩ := hrel
    have HS : Hid (Tr.termsEq la lb = Tr.termsEq (la.drop k) (lb.drop k)) := hsame
    clear hsame
    by_cases hlt : k < n
    · obtain ⟨a0, a1⟩ := hA k hlt
      obtain ⟨b0, b1⟩ := hB k hlt
      have HD : Hid (Tr.termsEq la lb = (Tr.termEq (Tr.termD la k) (Tr.termD lb k) && Tr.termsEq (la.drop (k + 1)) (lb.drop (k + 1)))) := by
        show _ = _
        rw [HS.out]
        exact Tr.listEq_drop _ _ _ _ _ (by rw [HA.out]; exact hlt) (by rw [HB.out]; exact hlt)
      clear hA hB HS
      generalize Tr.termD la k = x at *
      generalize Tr.termD lb k = y at *
      cases h1 : (x.var == y.var)
      · have HV : Hid (Tr.termsEq la lb = false) := by show _ = _; rw [HD.out, Tr.termEq, h1]; rfl
        clear HD
        go_wp2_with fail
        go_quiet (fail)
        go_wp2
        go_ret
        exact ⟨ret_bool HV.out.symm, _, drewN_two _ _ _⟩
      · cases h2 : (x.n == y.n)
        · have HV : Hid (Tr.termsEq la lb = false) := by show _ = _; rw [HD.out, Tr.termEq, h1, h2]; rfl
          clear HD
          go_wp2_with fail
          go_quiet (fail)
          go_wp2
          go_ret
          exact ⟨ret_bool HV.out.symm, _, drewN_two _ _ _⟩
        · have HV : Hid (Tr.termsEq la lb = Tr.termsEq (la.drop (k + 1)) (lb.drop (k + 1))) := by show _ = _; rw [HD.out, Tr.termEq, h1, h2]; rfl
          clear HD
          go_wp2_with fail
          go_quiet (fail)
          go_wp2
          go_roundw
          case rel => exact ⟨k + 1, _, by omega, by go_num, HV.out, rfl⟩
          case measure => simp [intOf]; omega
    · have HV : Hid (Tr.termsEq la lb = true) := by
        show _ = _
        rw [HS.out, List.drop_of_length_le (by rw [HA.out]; omega), List.drop_of_length_le (by rw [HB.out]; omega)]
        rfl
      clear HS hA hB
      go_wp2_with fail
      go_ret
      exact ⟨ret_bool HV.out.symm, _, rfl⟩

set_option maxRecDepth 100000 in
set_option maxHeartbeats 400000 in
theorem sameTerms_diff (w : World) (ao bo : Option Addr) (n m ca cb : Nat) (h : ¬ n = m) :
    Calls Tryz.prog 25 #[.slice ao n ca, .slice bo m cb] w fun e w' => e = .returned (.bool false) ∧ ∃ k, w' = w.drewN k := by
  have hne : ((n : Int) != (m : Int)) = true := bne_iff_ne.2 (by omega)
  go_enter Tryz.func25, Tryz.ntmps25
  go_wp2
  go_ret
  exact ⟨rfl, 0, rfl⟩

set_option maxRecDepth 100000 in
set_option maxHeartbeats 400000 in
theorem sameTerms_none (w : World) (ao bo : Option Addr) (ca cb : Nat) :
    Calls Tryz.prog 25 #[.slice ao 0 ca, .slice bo 0 cb] w fun e w' => e = .returned (.bool true) ∧ ∃ k, w' = w.drewN k := by
  go_enter Tryz.func25, Tryz.ntmps25
  go_wp2
  refine wp_loop_rounds 1 ?_
  rw [rounds_succ]
  go_wp2
  go_ret
  exact ⟨rfl, 0, rfl⟩

/-- sameTerms, whatever lists it is handed. -/
theorem sameTerms_any (la lb : List Tr.Term) (w : World) (va vb : Value) (hA : TermsV w va la) (hB : TermsV w vb lb) (hmax : la.length ≤ 9223372036854775807) :
    Calls Tryz.prog 25 #[va, vb] w fun e w' => e = .returned (.bool (Tr.termsEq la lb)) ∧ ∃ k, w' = w.drewN k := by
  obtain ⟨ao, ca, rfl, hA⟩ := hA
  obtain ⟨bo, cb, rfl, hB⟩ := hB
  by_cases h : la.length = lb.length
  · rcases hA with rfl | ⟨b, off, rfl, hA⟩
    · have hl : lb = [] := List.eq_nil_of_length_eq_zero h.symm
      subst hl
      exact sameTerms_none w ao bo ca cb
    · rcases hB with rfl | ⟨b', off', rfl, hB⟩
      · have hl : la = [] := List.eq_nil_of_length_eq_zero h
        subst hl
        exact sameTerms_none w _ bo ca cb
      · rw [← h]
        exact sameTerms_loop la lb w la.length ca cb b off b' off' rfl h.symm hmax hA (by rw [h]; exact hB)
  · rw [show Tr.termsEq la lb = false from Tr.listEq_len _ la lb h]
    exact sameTerms_diff w ao bo _ _ ca cb h

end Go.Proofs.YtclbbiocagkmcaaGreatDoor

/- The shelf of the parser (strconv.Atoi) lies with the rest. -/


/- The parser's small steps. -/
namespace Go.Proofs.YtclbbiocagkmcaaGreatDoor
open Go.RowKit

theorem fld0 (a b c : Value) (w : World) : (Instr.field 99 (.agg #[a, b, c]) 0).run Tryz.prog w = .ok a w := by kernel_rfl
theorem fld1 (a b c : Value) (w : World) : (Instr.field 99 (.agg #[a, b, c]) 1).run Tryz.prog w = .ok b w := by kernel_rfl
theorem fld2 (a b c : Value) (w : World) : (Instr.field 99 (.agg #[a, b, c]) 2).run Tryz.prog w = .ok c w := by kernel_rfl

set_option maxRecDepth 100000 in
set_option maxHeartbeats 400000 in
theorem giveUp_any (P : Nat) (L : List Tk.Tok) (en : Int) (r : List Tk.Tok) (w : World) (hA : At w P L en r) :
    Calls Tryz.prog 89 #[.pointer (some ⟨P, 0, none⟩)] w fun e w' => e = gaveP (Pr.hd en r).at_ ∧ Below w.heap.size w w' := by
  go_enter Tryz.func89, Tryz.ntmps89
  go_wp2_with fail
  refine (peek_any P L en r _ hA).mono ?_
  rintro e w1 ⟨rfl, hb⟩
  go_wp2_with fail
  simp only [fld1]
  go_wp2
  exact ⟨rfl, rfl, hb⟩

set_option maxRecDepth 100000 in
set_option maxHeartbeats 400000 in
theorem take_no (t : List UInt8) (P : Nat) (L : List Tk.Tok) (en : Int) (r : List Tk.Tok) (w : World) (hA : At w P L en r) (h : Pr.isText en r t = false) :
    Calls Tryz.prog 69 #[.pointer (some ⟨P, 0, none⟩), .string ⟨t.toArray⟩] w fun e w' => e = .returned (.bool false) ∧ Below w.heap.size w w' := by
  unfold Pr.isText at h
  go_enter Tryz.func69, Tryz.ntmps69
  go_wp2_with fail
  refine (peek_any P L en r _ hA).mono ?_
  generalize Pr.hd en r = x at *
  rintro e w1 ⟨rfl, hb⟩
  have h' : (x.text != t) = true := by simp [bne, h]
  go_wp2_with fail
  simp only [fld2]
  go_wp2
  go_ret
  exact ⟨rfl, hb⟩

theorem hd_ne {en : Int} {r : List Tk.Tok} {t : List UInt8} (ht : ¬ t = []) (h : Pr.isText en r t = true) : ¬ r = [] := by
  rintro rfl
  exact ht (eq_of_beq h).symm

set_option maxRecDepth 100000 in
set_option maxHeartbeats 400000 in
theorem take_yes (t : List UInt8) (P : Nat) (L : List Tk.Tok) (en : Int) (r : List Tk.Tok) (w : World) (hA : At w P L en r) (ht : ¬ t = []) (h : Pr.isText en r t = true) :
    Calls Tryz.prog 69 #[.pointer (some ⟨P, 0, none⟩), .string ⟨t.toArray⟩] w fun e w' => e = .returned (.bool true) ∧ w.grownBy w' (some P) ∧ At w' P L en r.tail := by
  have hr := hd_ne ht h
  unfold Pr.isText at h
  go_enter Tryz.func69, Tryz.ntmps69
  go_wp2_with fail
  refine (peek_any P L en r _ hA).mono ?_
  generalize Pr.hd en r = x at *
  rintro e w1 ⟨rfl, hb⟩
  have h' : (x.text != t) = false := by simp [bne, h]
  obtain ⟨nx, hnx, q1, qf, hst⟩ := (hA.below hb).step
  have hst := hst hr
  go_wp2_with fail
  simp only [fld2]
  go_wp2
  go_ret
  exact ⟨rfl, grownBy_trans (grownBy_of_below hb _) (grownBy_set _ _), hst⟩

theorem ground {w w' w1 : World} {P : Nat} (h : w.grownBy w1 (some P)) (hb : Below w1.heap.size w1 w') : w.grownBy w' (some P) := grownBy_trans h (grownBy_of_below hb _)

set_option maxRecDepth 100000 in
set_option maxHeartbeats 400000 in
theorem must_no (t : List UInt8) (P : Nat) (L : List Tk.Tok) (en : Int) (r : List Tk.Tok) (w : World) (hA : At w P L en r) (h : Pr.isText en r t = false) :
    Calls Tryz.prog 70 #[.pointer (some ⟨P, 0, none⟩), .string ⟨t.toArray⟩] w fun e w' => e = gaveP (Pr.hd en r).at_ ∧ Below w.heap.size w w' := by
  go_enter Tryz.func70, Tryz.ntmps70
  go_wp2_with fail
  refine (take_no t P L en r _ hA h).mono ?_
  rintro e w1 ⟨rfl, hb⟩
  go_wp2_with fail
  refine (giveUp_any P L en r _ (hA.below hb)).mono ?_
  rintro e w2 ⟨rfl, hb2⟩
  exact ⟨rfl, rfl, hb.trans (hb2.mono hb.size)⟩

set_option maxRecDepth 100000 in
set_option maxHeartbeats 400000 in
theorem must_yes (t : List UInt8) (P : Nat) (L : List Tk.Tok) (en : Int) (r : List Tk.Tok) (w : World) (hA : At w P L en r) (ht : ¬ t = []) (h : Pr.isText en r t = true) :
    Calls Tryz.prog 70 #[.pointer (some ⟨P, 0, none⟩), .string ⟨t.toArray⟩] w fun e w' => e = .returned (.tuple #[]) ∧ w.grownBy w' (some P) ∧ At w' P L en r.tail := by
  go_enter Tryz.func70, Tryz.ntmps70
  go_wp2_with fail
  refine (take_yes t P L en r _ hA ht h).mono ?_
  rintro e w1 ⟨rfl, hg, hA1⟩
  go_wp2
  exact ⟨rfl, .tuple #[], by simp [results, Tryz.results70], rfl, hg, hA1⟩

set_option maxRecDepth 100000 in
set_option maxHeartbeats 400000 in
theorem fold_no (P : Nat) (L : List Tk.Tok) (en : Int) (r : List Tk.Tok) (w : World) (hA : At w P L en r) (h : Tr.foldOf (Pr.hd en r).text = 0) :
    Calls Tryz.prog 90 #[.pointer (some ⟨P, 0, none⟩)] w fun e w' => e = .returned (.int .i64 0) ∧ Below w.heap.size w w' := by
  go_enter Tryz.func90, Tryz.ntmps90
  go_wp2_with fail
  refine (peek_any P L en r _ hA).mono ?_
  rintro e w1 ⟨rfl, hb⟩
  go_wp2_with fail
  simp only [fld2]
  go_wp2_with fail
  refine (foldOf_any _ _).mono ?_
  rintro e w2 ⟨rfl, rfl⟩
  rw [h]
  go_wp2
  go_ret
  exact ⟨rfl, hb⟩

theorem foldOf_nil : Tr.foldOf [] = 0 := rfl
theorem opOf_nil : Pr.opOf [] = 0 := rfl

set_option maxRecDepth 100000 in
set_option maxHeartbeats 400000 in
theorem fold_yes (P : Nat) (L : List Tk.Tok) (en : Int) (r : List Tk.Tok) (w : World) (hA : At w P L en r) (h : ¬ Tr.foldOf (Pr.hd en r).text = 0) :
    Calls Tryz.prog 90 #[.pointer (some ⟨P, 0, none⟩)] w fun e w' => e = .returned (.int .i64 (Tr.foldOf (Pr.hd en r).text)) ∧ w.grownBy w' (some P) ∧ At w' P L en r.tail := by
  have hr : ¬ r = [] := by rintro rfl; exact h rfl
  generalize hf : Tr.foldOf (Pr.hd en r).text = f at h ⊢
  go_enter Tryz.func90, Tryz.ntmps90
  go_wp2_with fail
  refine (peek_any P L en r _ hA).mono ?_
  rintro e w1 ⟨rfl, hb⟩
  go_wp2_with fail
  simp only [fld2]
  go_wp2_with fail
  refine (foldOf_any _ _).mono ?_
  rintro e w2 ⟨rfl, rfl⟩
  rw [hf]
  obtain ⟨nx, hnx, q1, qf, hst⟩ := (hA.below hb).step
  have hst := hst hr
  go_wp2
  go_ret
  exact ⟨rfl, grownBy_trans (grownBy_of_below hb _) (grownBy_set _ _), hst⟩

set_option maxRecDepth 100000 in
set_option maxHeartbeats 400000 in
theorem opOf_any (s : List UInt8) (w : World) : Calls Tryz.prog 111 #[.string ⟨s.toArray⟩] w fun e w' => e = .returned (.int .i64 (Pr.opOf s)) ∧ w' = w := by
  unfold Pr.opOf
  cases h1 : (s == [60])
  · cases h2 : (s == [60, 61])
    · cases h3 : (s == [61])
      · cases h4 : (s == [33, 61])
        · cases h5 : (s == [43])
          · cases h6 : (s == [45])
            · cases h7 : (s == [42])
              all_goals (go_enter Tryz.func111, Tryz.ntmps111; go_wp2; go_ret; exact ⟨rfl, rfl⟩)
            · go_enter Tryz.func111, Tryz.ntmps111
              go_wp2
              go_ret
              exact ⟨rfl, rfl⟩
          · go_enter Tryz.func111, Tryz.ntmps111
            go_wp2
            go_ret
            exact ⟨rfl, rfl⟩
        · go_enter Tryz.func111, Tryz.ntmps111
          go_wp2
          go_ret
          exact ⟨rfl, rfl⟩
      · go_enter Tryz.func111, Tryz.ntmps111
        go_wp2
        go_ret
        exact ⟨rfl, rfl⟩
    · go_enter Tryz.func111, Tryz.ntmps111
      go_wp2
      go_ret
      exact ⟨rfl, rfl⟩
  · go_enter Tryz.func111, Tryz.ntmps111
    go_wp2
    go_ret
    exact ⟨rfl, rfl⟩

set_option maxRecDepth 100000 in
set_option maxHeartbeats 400000 in
theorem op_no (P : Nat) (L : List Tk.Tok) (en : Int) (r : List Tk.Tok) (w : World) (hA : At w P L en r) (h : Pr.opOf (Pr.hd en r).text = 0) :
    Calls Tryz.prog 100 #[.pointer (some ⟨P, 0, none⟩)] w fun e w' => e = gaveP (Pr.hd en r).at_ ∧ Below w.heap.size w w' := by
  go_enter Tryz.func100, Tryz.ntmps100
  go_wp2_with fail
  refine (peek_any P L en r _ hA).mono ?_
  rintro e w1 ⟨rfl, hb⟩
  go_wp2_with fail
  simp only [fld2]
  go_wp2_with fail
  refine (opOf_any _ _).mono ?_
  rintro e w2 ⟨rfl, rfl⟩
  rw [h]
  go_wp2_with fail
  refine (giveUp_any P L en r _ (hA.below hb)).mono ?_
  rintro e w2 ⟨rfl, hb2⟩
  exact ⟨rfl, rfl, hb.trans (hb2.mono hb.size)⟩

set_option maxRecDepth 100000 in
set_option maxHeartbeats 400000 in
theorem op_yes (P : Nat) (L : List Tk.Tok) (en : Int) (r : List Tk.Tok) (w : World) (hA : At w P L en r) (h : ¬ Pr.opOf (Pr.hd en r).text = 0) :
    Calls Tryz.prog 100 #[.pointer (some ⟨P, 0, none⟩)] w fun e w' => e = .returned (.int .i64 (Pr.opOf (Pr.hd en r).text)) ∧ w.grownBy w' (some P) ∧ At w' P L en r.tail := by
  have hr : ¬ r = [] := by rintro rfl; exact h rfl
  generalize hf : Pr.opOf (Pr.hd en r).text = f at h ⊢
  go_enter Tryz.func100, Tryz.ntmps100
  go_wp2_with fail
  refine (peek_any P L en r _ hA).mono ?_
  rintro e w1 ⟨rfl, hb⟩
  go_wp2_with fail
  simp only [fld2]
  go_wp2_with fail
  refine (opOf_any _ _).mono ?_
  rintro e w2 ⟨rfl, rfl⟩
  rw [hf]
  obtain ⟨nx, hnx, q1, qf, hst⟩ := (hA.below hb).step
  have hst := hst hr
  go_wp2
  go_ret
  exact ⟨rfl, grownBy_trans (grownBy_of_below hb _) (grownBy_set _ _), hst⟩

end Go.Proofs.YtclbbiocagkmcaaGreatDoor

/- The parser's names, numbers and terms. -/
namespace Go.Proofs.YtclbbiocagkmcaaGreatDoor
open Go.RowKit

/-- A token that is laid aside. -/
abbrev putTok (w : World) (x : Tk.Tok) : World := w.alloc (.cells #[.int .i64 x.kind, .int .i64 x.at_, .string ⟨x.text.toArray⟩] 99)
theorem below_put {w w1 : World} (hb : Below w.heap.size w w1) (x : Tk.Tok) : Below w.heap.size w (putTok w1 x) := hb.alloc hb.size _
/-- Behind a step, with a token laid aside. -/
theorem went_set {w w1 : World} {P : Nat} {L : List Tk.Tok} {en : Int} {r : List Tk.Tok} {v : Value} (hb : Below w.heap.size w w1) (h : At (w1.setCell ⟨P, 1, none⟩ v) P L en r) (o : Obj) :
    w.grownBy ((w1.setCell ⟨P, 1, none⟩ v).alloc o) (some P) ∧ At ((w1.setCell ⟨P, 1, none⟩ v).alloc o) P L en r :=
  ⟨grownBy_trans (grownBy_of_below hb _) (grownBy_trans (grownBy_set _ _) (grownBy_of_below ((Below.refl _ _).alloc (Nat.le_refl _) _) _)), h.below ((Below.refl _ _).alloc (Nat.le_refl _) _)⟩

set_option maxRecDepth 100000 in
set_option maxHeartbeats 400000 in
theorem name_no (P : Nat) (L : List Tk.Tok) (en : Int) (r : List Tk.Tok) (w : World) (hA : At w P L en r) (h : (((Pr.hd en r).kind == 1) && !Tr.isWord (Pr.hd en r).text) = false) :
    Calls Tryz.prog 67 #[.pointer (some ⟨P, 0, none⟩)] w fun e w' => e = gaveP (Pr.hd en r).at_ ∧ Below w.heap.size w w' := by
  have hG : Hid (∀ w1, Below w.heap.size w w1 → Calls Tryz.prog 89 #[.pointer (some ⟨P, 0, none⟩)] w1 fun e w' => e = gaveP (Pr.hd en r).at_ ∧ Below w.heap.size w w') :=
    (fun w1 hb => (giveUp_any P L en r w1 (hA.below hb)).mono (by rintro e w2 ⟨rfl, hb2⟩; exact ⟨rfl, hb.trans (hb2.mono hb.size)⟩))
  have hpk := peek_any P L en r w hA
  generalize Pr.hd en r = x at *
  cases hk : (x.kind == 1)
  · have hk' : (x.kind != 1) = true := by simp [bne, hk]
    go_enter Tryz.func67, Tryz.ntmps67
    go_wp2_with fail
    refine hpk.mono ?_
    rintro e w1 ⟨rfl, hb⟩
    have hlt := Nat.lt_of_lt_of_le hA.lt hb.size
    go_wp2_with fail
    refine Calls.mono (hG.out _ (below_put hb x)) ?_
    rintro e w2 ⟨rfl, hb2⟩
    exact ⟨rfl, rfl, hb2⟩
  · have hw : Tr.isWord x.text = true := by simpa [hk] using h
    have hk' : (x.kind != 1) = false := by simp [bne, hk]
    go_enter Tryz.func67, Tryz.ntmps67
    go_wp2_with fail
    refine hpk.mono ?_
    rintro e w1 ⟨rfl, hb⟩
    have hlt := Nat.lt_of_lt_of_le hA.lt hb.size
    go_wp2_with fail
    refine (isWord_any _ _).mono ?_
    rintro e w2 ⟨rfl, rfl⟩
    rw [hw]
    go_wp2_with fail
    refine Calls.mono (hG.out _ (below_put hb x)) ?_
    rintro e w2 ⟨rfl, hb2⟩
    exact ⟨rfl, rfl, hb2⟩

set_option maxRecDepth 100000 in
set_option maxHeartbeats 400000 in
theorem name_yes (P : Nat) (L : List Tk.Tok) (en : Int) (r : List Tk.Tok) (w : World) (hA : At w P L en r) (h : (((Pr.hd en r).kind == 1) && !Tr.isWord (Pr.hd en r).text) = true) :
    Calls Tryz.prog 67 #[.pointer (some ⟨P, 0, none⟩)] w fun e w' => e = .returned (.string ⟨(Pr.hd en r).text.toArray⟩) ∧ w.grownBy w' (some P) ∧ At w' P L en r.tail := by
  have hr : ¬ r = [] := by rintro rfl; exact absurd h (by simp [Pr.hd])
  have hpk := peek_any P L en r w hA
  generalize Pr.hd en r = x at *
  have hk : (x.kind == 1) = true := by revert h; cases (x.kind == 1) <;> simp
  have hw : Tr.isWord x.text = false := by simpa [hk] using h
  have hk' : (x.kind != 1) = false := by simp [bne, hk]
  go_enter Tryz.func67, Tryz.ntmps67
  go_wp2_with fail
  refine hpk.mono ?_
  rintro e w1 ⟨rfl, hb⟩
  have hlt := Nat.lt_of_lt_of_le hA.lt hb.size
  go_wp2_with fail
  refine (isWord_any _ _).mono ?_
  rintro e w2 ⟨rfl, rfl⟩
  rw [hw]
  obtain ⟨nx, hnx, q1, qf, hst⟩ := (hA.below hb).step
  have hst := hst hr
  clear h hA hpk
  have hne : ¬ w1.heap.size = P := by omega
  have hne' : ¬ P = w1.heap.size := by omega
  go_wp2
  go_ret
  exact ⟨rfl, went_set hb hst _⟩

set_option maxRecDepth 100000 in
set_option maxHeartbeats 400000 in
theorem num_no (P : Nat) (L : List Tk.Tok) (en : Int) (r : List Tk.Tok) (w : World) (hA : At w P L en r) (h : ((Pr.hd en r).kind == 3) = false) :
    Calls Tryz.prog 99 #[.pointer (some ⟨P, 0, none⟩)] w fun e w' => e = gaveP (Pr.hd en r).at_ ∧ Below w.heap.size w w' := by
  have hG : Hid (∀ w1, Below w.heap.size w w1 → Calls Tryz.prog 89 #[.pointer (some ⟨P, 0, none⟩)] w1 fun e w' => e = gaveP (Pr.hd en r).at_ ∧ Below w.heap.size w w') :=
    (fun w1 hb => (giveUp_any P L en r w1 (hA.below hb)).mono (by rintro e w2 ⟨rfl, hb2⟩; exact ⟨rfl, hb.trans (hb2.mono hb.size)⟩))
  have hpk := peek_any P L en r w hA
  generalize Pr.hd en r = x at *
  have hk' : (x.kind != 3) = true := by simp [bne, h]
  go_enter Tryz.func99, Tryz.ntmps99
  go_wp2_with fail
  refine hpk.mono ?_
  rintro e w1 ⟨rfl, hb⟩
  have hlt := Nat.lt_of_lt_of_le hA.lt hb.size
  go_wp2_with fail
  refine Calls.mono (hG.out _ (below_put hb x)) ?_
  rintro e w2 ⟨rfl, hb2⟩
  exact ⟨rfl, rfl, hb2⟩

theorem below_bytes (w : World) (t : ByteArray) : Below w.heap.size w (Lib.bytesWorld w 5 t) :=
  ⟨rfl, rfl, rfl, by rw [Lib.bytesWorld_size]; omega, fun k hk => Lib.bytesWorld_at_old w 5 t k hk⟩

set_option maxRecDepth 100000 in
set_option maxHeartbeats 400000 in
theorem num_yes (P : Nat) (L : List Tk.Tok) (en : Int) (r : List Tk.Tok) (w : World) (hA : At w P L en r) (h : ((Pr.hd en r).kind == 3) = true) :
    Calls Tryz.prog 99 #[.pointer (some ⟨P, 0, none⟩)] w fun e w' => e = .returned (.int .i64 (Pr.num (Pr.hd en r).text)) ∧ w.grownBy w' (some P) ∧ At w' P L en r.tail := by
  have hr : ¬ r = [] := by rintro rfl; exact absurd (show ((0 : Int) == 3) = true from h) (by decide)
  obtain ⟨hl, hn⟩ := hA.num h
  have hpk := peek_any P L en r w hA
  generalize Pr.hd en r = x at *
  have hk' : (x.kind != 3) = false := by simp [bne, h]
  go_enter Tryz.func99, Tryz.ntmps99
  go_wp2_with fail
  refine hpk.mono ?_
  rintro e w1 ⟨rfl, hb⟩
  have hlt := Nat.lt_of_lt_of_le hA.lt hb.size
  obtain ⟨nx, hnx, q1, qf, hst⟩ := (hA.below hb).step
  have hst := hst hr
  clear h hA hpk
  have hne : ¬ w1.heap.size = P := by omega
  have hne' : ¬ P = w1.heap.size := by omega
  go_wp2_with fail
  refine (Tryz.strconv_Atoi _ (Pr.num x.text) ?_ ?_ _).mono ?_
  · simpa [ByteArray.size] using hl
  · simpa using hn
  rintro e w2 ⟨rfl, t, rfl⟩
  go_wp2
  go_ret
  have hq := went_set hb hst (.cells #[.int .i64 x.kind, .int .i64 x.at_, .string ⟨x.text.toArray⟩] 99)
  exact ⟨rfl, ground hq.1 (below_bytes _ _), hq.2.below (below_bytes _ _)⟩

end Go.Proofs.YtclbbiocagkmcaaGreatDoor

/- The parser's terms. -/
namespace Go.Proofs.YtclbbiocagkmcaaGreatDoor
open Go.RowKit

theorem peekAt (P : Nat) (L : List Tk.Tok) (en : Int) (r : List Tk.Tok) (w : World) (hA : At w P L en r) : ∀ w1, Below w.heap.size w w1 →
    Calls Tryz.prog 66 #[.pointer (some ⟨P, 0, none⟩)] w1 fun e w' => e = .returned (.agg #[.int .i64 (Pr.hd en r).kind, .int .i64 (Pr.hd en r).at_, .string ⟨(Pr.hd en r).text.toArray⟩]) ∧ Below w1.heap.size w1 w' := fun w1 hb => peek_any P L en r w1 (hA.below hb)

abbrev termObj : Obj := .cells #[.string { data := #[] }, .int .i64 0] 57
theorem fresh2 {w w1 : World} (hb : Below (w.alloc termObj).heap.size (w.alloc termObj) w1) :
    w1.cell? ⟨w.heap.size, 0, none⟩ = some (.string { data := #[] }) ∧ w1.cell? ⟨w.heap.size, 1, none⟩ = some (.int .i64 0) ∧ w1.frozen? ⟨w.heap.size, 0, none⟩ = false ∧ w1.frozen? ⟨w.heap.size, 1, none⟩ = false ∧ Below w.heap.size w w1 ∧ w.heap.size < w1.heap.size := by
  obtain ⟨hc, hf⟩ := bcell hb
  have h : w.heap.size < (w.alloc termObj).heap.size := by simp
  refine ⟨?_, ?_, ?_, ?_, ((Below.refl _ _).alloc (Nat.le_refl _) _).trans (hb.mono (by simp)), Nat.lt_of_lt_of_le h hb.size⟩
  · rw [hc _ _ h]; simp [go_sem]
  · rw [hc _ _ h]; simp [go_sem]
  · rw [hf _ _ h]; simp [go_sem]
  · rw [hf _ _ h]; simp [go_sem]

/-- The parser went on, and nothing else that was there has changed. -/
abbrev Went (w w' : World) (P : Nat) (L : List Tk.Tok) (en : Int) (r : List Tk.Tok) : Prop := w.grownBy w' (some P) ∧ At w' P L en r
theorem Went.set {w w' : World} {P : Nat} {L : List Tk.Tok} {en : Int} {r : List Tk.Tok} (h : Went w w' P L en r) (hP : P < w.heap.size) {b : Nat} (hb : w.heap.size ≤ b) (o : Nat) (v : Value) : Went w (w'.setCell ⟨b, o, none⟩ v) P L en r :=
  ⟨grownBy_new h.1 hb o v, h.2.set (Nat.lt_of_lt_of_le hP hb) o v⟩
theorem Went.below {w w1 w' : World} {P : Nat} {L : List Tk.Tok} {en : Int} {r : List Tk.Tok} (h : Went w w1 P L en r) (hb : Below w1.heap.size w1 w') : Went w w' P L en r := ⟨ground h.1 hb, h.2.below hb⟩
theorem Went.alloc {w w' : World} {P : Nat} {L : List Tk.Tok} {en : Int} {r : List Tk.Tok} (h : Went w w' P L en r) (o : Obj) : Went w (w'.alloc o) P L en r := h.below ((Below.refl _ _).alloc (Nat.le_refl _) _)
theorem Went.behind {w w1 w' : World} {P : Nat} {L : List Tk.Tok} {en : Int} {r : List Tk.Tok} (hb : Below w.heap.size w w1) (h : Went w1 w' P L en r) : Went w w' P L en r := ⟨grownBy_trans (grownBy_of_below hb _) h.1, h.2⟩
theorem Went.trans {w w1 w' : World} {P : Nat} {L : List Tk.Tok} {en : Int} {r r1 : List Tk.Tok} (h1 : Went w w1 P L en r1) (h : Went w1 w' P L en r) : Went w w' P L en r := ⟨grownBy_trans h1.1 h.1, h.2⟩
theorem Went.step {w w1 : World} {P : Nat} {L : List Tk.Tok} {en : Int} {r : List Tk.Tok} {v : Value} (hb : Below w.heap.size w w1) (h : At (w1.setCell ⟨P, 1, none⟩ v) P L en r) : Went w (w1.setCell ⟨P, 1, none⟩ v) P L en r := ⟨grownBy_trans (grownBy_of_below hb _) (grownBy_set _ _), h⟩

/-- The block of a result, behind calls that went on. -/
theorem kept2 {w w1 w2 : World} {P : Nat} (hP : P < w.heap.size) (hg : w1.grownBy w2 (some P)) (hs : w.heap.size < w1.heap.size) {u v : Value} (c0 : w1.cell? ⟨w.heap.size, 0, none⟩ = some u) (c1 : w1.cell? ⟨w.heap.size, 1, none⟩ = some v)
    (f0 : w1.frozen? ⟨w.heap.size, 0, none⟩ = false) (f1 : w1.frozen? ⟨w.heap.size, 1, none⟩ = false) :
    w2.cell? ⟨w.heap.size, 0, none⟩ = some u ∧ w2.cell? ⟨w.heap.size, 1, none⟩ = some v ∧ w2.frozen? ⟨w.heap.size, 0, none⟩ = false ∧ w2.frozen? ⟨w.heap.size, 1, none⟩ = false ∧ w.heap.size < w2.heap.size := by
  have hne : ¬ w.heap.size = P := by omega
  exact ⟨grownBy_cell hg hne c0, grownBy_cell hg hne c1, (grownBy_frozen hg hne hs).trans f0, (grownBy_frozen hg hne hs).trans f1, Nat.lt_of_lt_of_le hs hg.size⟩
theorem kept2b {w w1 w2 : World} (hb : Below w1.heap.size w1 w2) (hs : w.heap.size < w1.heap.size) {u v : Value} (c0 : w1.cell? ⟨w.heap.size, 0, none⟩ = some u) (c1 : w1.cell? ⟨w.heap.size, 1, none⟩ = some v)
    (f0 : w1.frozen? ⟨w.heap.size, 0, none⟩ = false) (f1 : w1.frozen? ⟨w.heap.size, 1, none⟩ = false) :
    w2.cell? ⟨w.heap.size, 0, none⟩ = some u ∧ w2.cell? ⟨w.heap.size, 1, none⟩ = some v ∧ w2.frozen? ⟨w.heap.size, 0, none⟩ = false ∧ w2.frozen? ⟨w.heap.size, 1, none⟩ = false ∧ w.heap.size < w2.heap.size := by
  obtain ⟨hc, hf⟩ := bcell hb
  exact ⟨(hc _ _ hs).trans c0, (hc _ _ hs).trans c1, (hf _ _ hs).trans f0, (hf _ _ hs).trans f1, Nat.lt_of_lt_of_le hs hb.size⟩

set_option maxRecDepth 100000 in
set_option maxHeartbeats 400000 in
theorem term_var (P : Nat) (L : List Tk.Tok) (en : Int) (r : List Tk.Tok) (w : World) (hA : At w P L en r) (h : ((Pr.hd en r).kind == 2) = true) :
    Calls Tryz.prog 91 #[.pointer (some ⟨P, 0, none⟩)] w fun e w' => e = .returned (termVal ⟨(Pr.hd en r).text, 0⟩) ∧ w.grownBy w' (some P) ∧ At w' P L en r.tail := by
  have hr : ¬ r = [] := by rintro rfl; exact absurd (show ((0 : Int) == 2) = true from h) (by decide)
  have hpk : Hid _ := peekAt P L en r w hA
  generalize Pr.hd en r = x at *
  have hlt := hA.lt
  go_enter Tryz.func91, Tryz.ntmps91
  go_wp2_with fail
  refine Calls.mono (hpk.out _ ((Below.refl _ _).alloc (Nat.le_refl _) _)) ?_
  rintro e w1 ⟨rfl, hb0⟩
  obtain ⟨c0, c1, f0, f1, hb, hsz⟩ := fresh2 hb0
  obtain ⟨nx, hnx, q1, qf, hst⟩ := (hA.below hb).step
  have hst := hst hr
  clear hb0
  have hlt1 : P < w1.heap.size := by omega
  have hne : ¬ w.heap.size = P := by omega
  have hne' : ¬ P = w.heap.size := by omega
  have hne1 : ¬ w1.heap.size = P := by omega
  have hne1' : ¬ P = w1.heap.size := by omega
  have hne2 : ¬ w1.heap.size = w.heap.size := by omega
  have hne2' : ¬ w.heap.size = w1.heap.size := by omega
  go_wp2
  exact bodyPost_ret (v := termVal ⟨x.text, 0⟩) (by simp [results, Tryz.results91, go_sem, c0, c1, hsz]) rfl ⟨rfl, (((Went.step hb hst).set hlt (Nat.le_refl _) _ _).set hlt (Nat.le_refl _) _ _).alloc _⟩

theorem ground' {w w1 w' : World} {P : Nat} (hb : Below w.heap.size w w1) (h : Below w1.heap.size w1 w') : w.grownBy w' (some P) := grownBy_of_below (hb.trans (h.mono hb.size)) _

set_option maxRecDepth 100000 in
set_option maxHeartbeats 400000 in
theorem term_num (P : Nat) (L : List Tk.Tok) (en : Int) (r : List Tk.Tok) (w : World) (hA : At w P L en r) (h : ((Pr.hd en r).kind == 3) = true) :
    Calls Tryz.prog 91 #[.pointer (some ⟨P, 0, none⟩)] w fun e w' => e = .returned (termVal ⟨[], Pr.num (Pr.hd en r).text⟩) ∧ Went w w' P L en r.tail := by
  have hpk : Hid _ := peekAt P L en r w hA
  have hnm : Hid (∀ w1, Below w.heap.size w w1 → _) := fun w1 hb => num_yes P L en r w1 (hA.below hb) h
  generalize Pr.hd en r = x at *
  have h2 : (x.kind == 2) = false := by rw [eq_of_beq h]; rfl
  have hlt := hA.lt
  go_enter Tryz.func91, Tryz.ntmps91
  go_wp2_with fail
  refine Calls.mono (hpk.out _ ((Below.refl _ _).alloc (Nat.le_refl _) _)) ?_
  rintro e w1 ⟨rfl, hb0⟩
  obtain ⟨c0, c1, f0, f1, hb, hsz⟩ := fresh2 hb0
  clear hb0
  go_wp2_with fail
  refine Calls.mono (hnm.out _ (below_put hb x)) ?_
  rintro e w2 ⟨rfl, hg, hA2⟩
  obtain ⟨c0, c1, f0, f1, hsz⟩ := kept2b ((Below.refl _ _).alloc (Nat.le_refl _) _) hsz c0 c1 f0 f1
  obtain ⟨d0, d1, g0, g1, hsz2⟩ := kept2 hlt hg hsz c0 c1 f0 f1
  have hW := Went.behind (below_put hb x) ⟨hg, hA2⟩
  clear c0 c1 f0 f1 hg
  go_wp2
  exact bodyPost_ret (v := termVal ⟨[], Pr.num x.text⟩) (by simp [results, Tryz.results91, go_sem, d0, d1]) rfl ⟨rfl, (hW.set hlt (Nat.le_refl _) _ _).set hlt (Nat.le_refl _) _ _⟩

set_option maxRecDepth 100000 in
set_option maxHeartbeats 400000 in
theorem term_off (P : Nat) (L : List Tk.Tok) (en : Int) (r : List Tk.Tok) (w : World) (hA : At w P L en r) (h2 : ((Pr.hd en r).kind == 2) = false) (h3 : ((Pr.hd en r).kind == 3) = false) (ht : Pr.isText en r [45] = false) :
    Calls Tryz.prog 91 #[.pointer (some ⟨P, 0, none⟩)] w fun e w' => e = gaveP (Pr.hd en r).at_ ∧ w.grownBy w' (some P) := by
  have hpk : Hid _ := peekAt P L en r w hA
  have hmu : Hid (∀ w1, Below w.heap.size w w1 → _) := fun w1 hb => must_no [45] P L en r w1 (hA.below hb) ht
  generalize Pr.hd en r = x at *
  go_enter Tryz.func91, Tryz.ntmps91
  go_wp2_with fail
  refine Calls.mono (hpk.out _ ((Below.refl _ _).alloc (Nat.le_refl _) _)) ?_
  rintro e w1 ⟨rfl, hb0⟩
  obtain ⟨c0, c1, f0, f1, hb, hsz⟩ := fresh2 hb0
  clear hb0
  go_wp2_with fail
  refine Calls.mono (hmu.out _ (below_put hb x)) ?_
  rintro e w2 ⟨rfl, hb2⟩
  exact ⟨rfl, rfl, ground' (below_put hb x) hb2⟩

set_option maxRecDepth 100000 in
set_option maxHeartbeats 400000 in
theorem term_zero (P : Nat) (L : List Tk.Tok) (en : Int) (r : List Tk.Tok) (w : World) (hA : At w P L en r) (h2 : ((Pr.hd en r).kind == 2) = false) (h3 : ((Pr.hd en r).kind == 3) = false) (ht : Pr.isText en r [45] = true)
    (h0 : ((Pr.hd en r.tail).text == [48]) = true) :
    Calls Tryz.prog 91 #[.pointer (some ⟨P, 0, none⟩)] w fun e w' => e = gaveP (Pr.hd en r.tail).at_ ∧ w.grownBy w' (some P) := by
  have hpk : Hid _ := peekAt P L en r w hA
  have hmu : Hid (∀ w1, Below w.heap.size w w1 → _) := fun w1 hb => must_yes [45] P L en r w1 (hA.below hb) (by simp) ht
  have hpk2 : Hid (∀ w3, At w3 P L en r.tail → _) := fun w3 h => peek_any P L en r.tail w3 h
  have hgu : Hid (∀ w3, At w3 P L en r.tail → _) := fun w3 h => giveUp_any P L en r.tail w3 h
  generalize Pr.hd en r.tail = y at *
  generalize Pr.hd en r = x at *
  go_enter Tryz.func91, Tryz.ntmps91
  go_wp2_with fail
  refine Calls.mono (hpk.out _ ((Below.refl _ _).alloc (Nat.le_refl _) _)) ?_
  rintro e w1 ⟨rfl, hb0⟩
  obtain ⟨c0, c1, f0, f1, hb, hsz⟩ := fresh2 hb0
  clear hb0
  go_wp2_with fail
  refine Calls.mono (hmu.out _ (below_put hb x)) ?_
  rintro e w2 ⟨rfl, hg, hA2⟩
  have hW := Went.behind (below_put hb x) ⟨hg, hA2⟩
  go_wp2_with fail
  refine Calls.mono (hpk2.out _ hA2) ?_
  rintro e w3 ⟨rfl, hb3⟩
  go_wp2_with fail
  simp only [fld2]
  go_wp2_with fail
  refine Calls.mono (hgu.out _ (hA2.below hb3)) ?_
  rintro e w4 ⟨rfl, hb4⟩
  exact ⟨rfl, rfl, ground (ground hW.1 hb3) hb4⟩

set_option maxRecDepth 100000 in
set_option maxHeartbeats 400000 in
theorem term_nonum (P : Nat) (L : List Tk.Tok) (en : Int) (r : List Tk.Tok) (w : World) (hA : At w P L en r) (h2 : ((Pr.hd en r).kind == 2) = false) (h3 : ((Pr.hd en r).kind == 3) = false) (ht : Pr.isText en r [45] = true)
    (h0 : ((Pr.hd en r.tail).text == [48]) = false) (hk : ((Pr.hd en r.tail).kind == 3) = false) :
    Calls Tryz.prog 91 #[.pointer (some ⟨P, 0, none⟩)] w fun e w' => e = gaveP (Pr.hd en r.tail).at_ ∧ w.grownBy w' (some P) := by
  have hpk : Hid _ := peekAt P L en r w hA
  have hmu : Hid (∀ w1, Below w.heap.size w w1 → _) := fun w1 hb => must_yes [45] P L en r w1 (hA.below hb) (by simp) ht
  have hpk2 : Hid (∀ w3, At w3 P L en r.tail → _) := fun w3 h => peek_any P L en r.tail w3 h
  have hgu : Hid (∀ w3, At w3 P L en r.tail → _) := fun w3 h => num_no P L en r.tail w3 h hk
  generalize Pr.hd en r.tail = y at *
  generalize Pr.hd en r = x at *
  go_enter Tryz.func91, Tryz.ntmps91
  go_wp2_with fail
  refine Calls.mono (hpk.out _ ((Below.refl _ _).alloc (Nat.le_refl _) _)) ?_
  rintro e w1 ⟨rfl, hb0⟩
  obtain ⟨c0, c1, f0, f1, hb, hsz⟩ := fresh2 hb0
  clear hb0
  go_wp2_with fail
  refine Calls.mono (hmu.out _ (below_put hb x)) ?_
  rintro e w2 ⟨rfl, hg, hA2⟩
  have hW := Went.behind (below_put hb x) ⟨hg, hA2⟩
  go_wp2_with fail
  refine Calls.mono (hpk2.out _ hA2) ?_
  rintro e w3 ⟨rfl, hb3⟩
  go_wp2_with fail
  simp only [fld2]
  go_wp2_with fail
  refine Calls.mono (hgu.out _ (hA2.below hb3)) ?_
  rintro e w4 ⟨rfl, hb4⟩
  exact ⟨rfl, rfl, ground (ground hW.1 hb3) hb4⟩

set_option maxRecDepth 100000 in
set_option maxHeartbeats 400000 in
theorem term_neg (P : Nat) (L : List Tk.Tok) (en : Int) (r : List Tk.Tok) (w : World) (hA : At w P L en r) (h2 : ((Pr.hd en r).kind == 2) = false) (h3 : ((Pr.hd en r).kind == 3) = false) (ht : Pr.isText en r [45] = true)
    (h0 : ((Pr.hd en r.tail).text == [48]) = false) (hk : ((Pr.hd en r.tail).kind == 3) = true) :
    Calls Tryz.prog 91 #[.pointer (some ⟨P, 0, none⟩)] w fun e w' => e = .returned (termVal ⟨[], -Pr.num (Pr.hd en r.tail).text⟩) ∧ Went w w' P L en r.tail.tail := by
  have hpk : Hid _ := peekAt P L en r w hA
  have hmu : Hid (∀ w1, Below w.heap.size w w1 → _) := fun w1 hb => must_yes [45] P L en r w1 (hA.below hb) (by simp) ht
  have hpk2 : Hid (∀ w3, At w3 P L en r.tail → _) := fun w3 h => peek_any P L en r.tail w3 h
  have hgu : Hid (∀ w3, At w3 P L en r.tail → _) := fun w3 h => num_yes P L en r.tail w3 h hk
  have hnn : Hid (∀ w3, At w3 P L en r.tail → _) := fun w3 h => h.num hk
  generalize Pr.hd en r.tail = y at *
  generalize Pr.hd en r = x at *
  have hlt := hA.lt
  go_enter Tryz.func91, Tryz.ntmps91
  go_wp2_with fail
  refine Calls.mono (hpk.out _ ((Below.refl _ _).alloc (Nat.le_refl _) _)) ?_
  rintro e w1 ⟨rfl, hb0⟩
  obtain ⟨c0, c1, f0, f1, hb, hsz⟩ := fresh2 hb0
  clear hb0
  go_wp2_with fail
  refine Calls.mono (hmu.out _ (below_put hb x)) ?_
  rintro e w2 ⟨rfl, hg, hA2⟩
  obtain ⟨c0, c1, f0, f1, hsz⟩ := kept2b ((Below.refl _ _).alloc (Nat.le_refl _) _) hsz c0 c1 f0 f1
  obtain ⟨c0, c1, f0, f1, hsz⟩ := kept2 hlt hg hsz c0 c1 f0 f1
  have hW := Went.behind (below_put hb x) ⟨hg, hA2⟩
  go_wp2_with fail
  refine Calls.mono (hpk2.out _ hA2) ?_
  obtain ⟨hl, hn⟩ := hnn.out _ hA2
  have hbd := Lib.atoi_bound hn hl
  rintro e w3 ⟨rfl, hb3⟩
  obtain ⟨c0, c1, f0, f1, hsz⟩ := kept2b hb3 hsz c0 c1 f0 f1
  go_wp2_with fail
  simp only [fld2]
  go_wp2_with fail
  refine Calls.mono (hgu.out _ (hA2.below hb3)) ?_
  rintro e w4 ⟨rfl, hg4, hA4⟩
  obtain ⟨d0, d1, g0, g1, hsz4⟩ := kept2 hlt hg4 hsz c0 c1 f0 f1
  have hW4 := Went.trans (hW.below hb3) ⟨hg4, hA4⟩
  clear c0 c1 f0 f1 hg hg4
  obtain ⟨hn1, hn2⟩ := hbd
  go_wp2
  exact bodyPost_ret (v := termVal ⟨[], -Pr.num y.text⟩) (by simp [results, Tryz.results91, go_sem, d0, d1]) rfl ⟨rfl, (hW4.set hlt (Nat.le_refl _) _ _).set hlt (Nat.le_refl _) _ _⟩

end Go.Proofs.YtclbbiocagkmcaaGreatDoor

/- Rows that the parser makes: of terms, of literals, of rules. -/
namespace Go.Proofs.YtclbbiocagkmcaaGreatDoor
open Go.RowKit

/-- A row of parts, each of k cells, in a block of its own at B or behind. -/
def RowP (B : Nat) (w : World) (e : TypeId) (k : Nat) (v : Value) (cs : List (List Value)) : Prop :=
  ∃ ao cap, v = .slice ao cs.length cap ∧ (cs = [] ∨ ∃ b cur fz, ao = some ⟨b, 0, none⟩ ∧ B ≤ b ∧ w.heap[b]? = some (.cells cur e fz) ∧ ∀ i c, cs[i]? = some c → ∀ j u, c[j]? = some u → w.cell? ⟨b, i * k + j, none⟩ = some u)

theorem flat_length (k : Nat) : ∀ cs : List (List Value), (∀ c, c ∈ cs → c.length = k) → cs.flatten.length = cs.length * k := by
  intro cs
  induction cs with
  | nil => intro _; simp
  | cons c r ih =>
    intro h
    rw [List.flatten_cons, List.length_append, ih (fun c hc => h c (List.mem_cons_of_mem _ hc)), h c List.mem_cons_self, List.length_cons, Nat.add_mul]
    omega
theorem flat_get (k : Nat) : ∀ (cs : List (List Value)), (∀ c, c ∈ cs → c.length = k) → ∀ i c j u, cs[i]? = some c → c[j]? = some u → cs.flatten[i * k + j]? = some u := by
  intro cs
  induction cs with
  | nil => intro _ i c j u h; simp at h
  | cons a r ih =>
    intro h i c j u hi hj
    have ha := h a List.mem_cons_self
    have hjk : j < c.length := by
      rcases Nat.lt_or_ge j c.length with h | h
      · exact h
      · rw [List.getElem?_eq_none h] at hj; cases hj
    rw [List.flatten_cons]
    cases i with
    | zero =>
      have hac : a = c := by simpa using hi
      subst hac
      rw [Nat.zero_mul, Nat.zero_add, List.getElem?_append_left hjk]
      exact hj
    | succ i =>
      rw [List.getElem?_append_right (by rw [ha, Nat.add_mul]; omega), ha, show (i + 1) * k + j - k = i * k + j from by rw [Nat.add_mul]; omega]
      exact ih (fun c hc => h c (List.mem_cons_of_mem _ hc)) i c j u (by simpa using hi) hj

theorem rowP_own {w : World} {base : Nat} {e : TypeId} {k : Nat} {v : Value} {cs : List (List Value)} (hl : ∀ c, c ∈ cs → c.length = k) (h : w.ownsRow base e k v cs.length cs.flatten) : RowP base w e k v cs := by
  rcases h.2 with ⟨hv, h0⟩ | ⟨g, cap, cur, hv, hg, hbk, r⟩
  · exact ⟨none, 0, by rw [hv, h0], .inl (List.eq_nil_of_length_eq_zero h0)⟩
  · refine ⟨some ⟨g, 0, none⟩, cap, hv, .inr ⟨g, cur, (0, 0), rfl, hg, hbk, fun i c hi j u hj => ?_⟩⟩
    subst hv
    have := h.cells (g := g) rfl _ _ (flat_get k cs hl i c j u hi hj)
    have hadd : ∀ k, ((⟨g, 0, none⟩ : Addr).add k) = ⟨g, 0 + k, none⟩ := fun _ => by simp [Addr.add]; exact fun h => h.symm
    rw [hadd] at this
    simpa using this

/-- Blocks of such rows are as they were. -/
def Keeps (B : Nat) (w w' : World) (E : TypeId → Prop) : Prop := ∀ b cur e fz, E e → B ≤ b → w.heap[b]? = some (.cells cur e fz) → w'.heap[b]? = w.heap[b]?
theorem Keeps.mono {B : Nat} {w w' : World} {E E' : TypeId → Prop} (h : Keeps B w w' E) (hE : ∀ e, E' e → E e) : Keeps B w w' E' := fun b cur e fz he hb hh => h b cur e fz (hE e he) hb hh
theorem Keeps.trans {B : Nat} {w w1 w' : World} {E : TypeId → Prop} (h : Keeps B w w1 E) (h1 : Keeps B w1 w' E) : Keeps B w w' E := fun b cur e fz he hb hh => (h1 b cur e fz he hb ((h b cur e fz he hb hh).trans hh)).trans (h b cur e fz he hb hh)
theorem heap_lt {w : World} {b : Nat} {o : Obj} (h : w.heap[b]? = some o) : b < w.heap.size := by
  rcases Nat.lt_or_ge b w.heap.size with h1 | h1
  · exact h1
  · rw [Array.getElem?_eq_none h1] at h; cases h
theorem keeps_grown {B P : Nat} {w w' : World} (E : TypeId → Prop) (h : w.grownBy w' (some P)) (hP : P < B) : Keeps B w w' E := fun b cur e fz _ hb hh => h.block b (heap_lt hh) (by intro h; injection h; omega)
theorem keeps_below {B : Nat} {w w' : World} (E : TypeId → Prop) (h : Below w.heap.size w w') : Keeps B w w' E := fun b _ _ _ _ _ hh => h.block b (heap_lt hh)
theorem keeps_set {B b : Nat} {w : World} (E : TypeId → Prop) (h : b < B) (o : Nat) (v : Value) : Keeps B w (w.setCell ⟨b, o, none⟩ v) E := fun b' _ _ _ _ hb _ => Below.heap_setCell _ _ _ _ (show ¬ b' = b by omega)
theorem keeps_own {B base k n : Nat} {w w' : World} {E : TypeId → Prop} {e1 : TypeId} {v : Value} {xs : List Value} (h : w.grownBy w' v.ownBlock) (hown : w.ownsRow base e1 k v n xs) (hE : ¬ E e1) : Keeps B w w' E := by
  intro b cur e fz he hb hh
  refine h.block b (heap_lt hh) ?_
  intro hv
  rcases hown.2 with ⟨rfl, h0⟩ | ⟨g, cap, cur', rfl, hg, hbk, r⟩
  · cases hv
  · have hbg : b = g := by simpa [Value.ownBlock] using hv
    subst hbg
    rw [hbk] at hh
    injection hh with hh
    injection hh with h1 h2 h3
    exact hE (h2 ▸ he)

theorem RowP.keep {B : Nat} {w w' : World} {E : TypeId → Prop} {e : TypeId} {k : Nat} {v : Value} {cs : List (List Value)} (h : RowP B w e k v cs) (hk : Keeps B w w' E) (he : E e) : RowP B w' e k v cs := by
  obtain ⟨ao, cap, hv, h⟩ := h
  refine ⟨ao, cap, hv, ?_⟩
  rcases h with h | ⟨b, cur, fz, rfl, hb, hh, hc⟩
  · exact .inl h
  · have hs := hk b cur e fz he hb hh
    exact .inr ⟨b, cur, fz, rfl, hb, hs.trans hh, fun i c hi j u hj => (World.cell?_of_block (a := ⟨b, _, none⟩) hs).trans (hc i c hi j u hj)⟩
theorem RowP.mono {B B' : Nat} {w : World} {e : TypeId} {k : Nat} {v : Value} {cs : List (List Value)} (h : RowP B w e k v cs) (hB : B' ≤ B) : RowP B' w e k v cs := by
  obtain ⟨ao, cap, hv, h⟩ := h
  refine ⟨ao, cap, hv, ?_⟩
  rcases h with h | ⟨b, cur, fz, rfl, hb, hh, hc⟩
  · exact .inl h
  · exact .inr ⟨b, cur, fz, rfl, Nat.le_trans hB hb, hh, hc⟩

def termCells (t : Tr.Term) : List Value := [.string ⟨t.var.toArray⟩, .int .i64 t.n]
def TermsP (B : Nat) (w : World) (v : Value) (l : List Tr.Term) : Prop := RowP B w 57 2 v (l.map termCells)
def litCells (x : Tr.Lit × Value) : List Value := [.int .i64 x.1.kind, .int .i64 x.1.at_, .int .i64 x.1.op, .string ⟨x.1.name.toArray⟩, x.2]
def LitsP (B : Nat) (w : World) (v : Value) (l : List Tr.Lit) : Prop := ∃ q : List (Tr.Lit × Value), q.map (·.1) = l ∧ RowP B w 50 5 v (q.map litCells) ∧ ∀ p, p ∈ q → TermsP B w p.2 p.1.terms
def ruleCells (x : Tr.Rule × Value × Value) : List Value := [.int .i64 x.1.at_, .string ⟨x.1.name.toArray⟩, x.2.1, .int .i64 x.1.fold, x.2.2]
def RulesP (B : Nat) (w : World) (v : Value) (l : List Tr.Rule) : Prop := ∃ q : List (Tr.Rule × Value × Value), q.map (·.1) = l ∧ RowP B w 46 5 v (q.map ruleCells) ∧ ∀ p, p ∈ q → TermsP B w p.2.1 p.1.terms ∧ LitsP B w p.2.2 p.1.body

theorem TermsP.keep {B : Nat} {w w' : World} {v : Value} {l : List Tr.Term} (h : TermsP B w v l) (hk : Keeps B w w' (· = 57)) : TermsP B w' v l := RowP.keep h hk rfl
theorem TermsP.mono {B B' : Nat} {w : World} {v : Value} {l : List Tr.Term} (h : TermsP B w v l) (hB : B' ≤ B) : TermsP B' w v l := RowP.mono h hB
theorem LitsP.keep {B : Nat} {w w' : World} {v : Value} {l : List Tr.Lit} (h : LitsP B w v l) (hk : Keeps B w w' (fun e => e = 57 ∨ e = 50)) : LitsP B w' v l := by
  obtain ⟨q, h1, h2, h3⟩ := h
  exact ⟨q, h1, h2.keep hk (.inr rfl), fun p hp => (h3 p hp).keep (hk.mono fun e he => .inl he)⟩
theorem LitsP.mono {B B' : Nat} {w : World} {v : Value} {l : List Tr.Lit} (h : LitsP B w v l) (hB : B' ≤ B) : LitsP B' w v l := by
  obtain ⟨q, h1, h2, h3⟩ := h
  exact ⟨q, h1, h2.mono hB, fun p hp => (h3 p hp).mono hB⟩

theorem row_get {B : Nat} {w : World} {e : TypeId} {k : Nat} {v : Value} {α : Type} {cells : α → List Value} {l : List α} (h : RowP B w e k v (l.map cells)) :
    ∃ ao cap, v = .slice ao l.length cap ∧ (l = [] ∨ ∃ b, ao = some ⟨b, 0, none⟩ ∧ ∀ i x, l[i]? = some x → ∀ j u, (cells x)[j]? = some u → w.cell? ⟨b, i * k + j, none⟩ = some u) := by
  obtain ⟨ao, cap, hv, h⟩ := h
  rw [List.length_map] at hv
  refine ⟨ao, cap, hv, ?_⟩
  rcases h with h | ⟨b, cur, fz, rfl, hb, hh, hc⟩
  · exact .inl (by simpa using h)
  · exact .inr ⟨b, rfl, fun i x hi j u hj => hc i (cells x) (by rw [List.getElem?_map, hi]; rfl) j u hj⟩

theorem TermsP.toV {B : Nat} {w : World} {v : Value} {l : List Tr.Term} (h : TermsP B w v l) : TermsV w v l := by
  obtain ⟨ao, cap, hv, h⟩ := row_get h
  refine ⟨ao, cap, hv, ?_⟩
  rcases h with h | ⟨b, rfl, hc⟩
  · exact .inl h
  · refine .inr ⟨b, 0, rfl, fun i hi => ?_⟩
    have hx : l[i]? = some (Tr.termD l i) := by simp [Tr.termD, hi]
    rw [Nat.zero_add]
    exact ⟨hc i _ hx 0 _ rfl, hc i _ hx 1 _ rfl⟩
theorem LitsP.toV {B : Nat} {w : World} {v : Value} {l : List Tr.Lit} (h : LitsP B w v l) : LitsV w v l := by
  obtain ⟨q, rfl, h2, h3⟩ := h
  obtain ⟨ao, cap, hv, h⟩ := row_get h2
  refine ⟨ao, cap, by rw [hv, List.length_map], ?_⟩
  rcases h with h | ⟨b, rfl, hc⟩
  · exact .inl (by simp [h])
  · refine .inr ⟨b, 0, rfl, fun i hi => ?_⟩
    rw [List.length_map] at hi
    have hq : q[i]? = some q[i] := List.getElem?_eq_getElem hi
    have hx : Tr.litD (q.map (·.1)) i = q[i].1 := by simp [Tr.litD, hi]
    rw [Nat.zero_add, hx]
    exact ⟨hc i _ hq 0 _ rfl, hc i _ hq 1 _ rfl, hc i _ hq 2 _ rfl, hc i _ hq 3 _ rfl, q[i].2, hc i _ hq 4 _ rfl, (h3 _ (List.getElem_mem hi)).toV⟩
theorem RulesP.toV {B : Nat} {w : World} {v : Value} {l : List Tr.Rule} (h : RulesP B w v l) : RulesV w v l := by
  obtain ⟨q, rfl, h2, h3⟩ := h
  obtain ⟨ao, cap, hv, h⟩ := row_get h2
  refine ⟨ao, cap, by rw [hv, List.length_map], ?_⟩
  rcases h with h | ⟨b, rfl, hc⟩
  · exact .inl (by simp [h])
  · refine .inr ⟨b, 0, rfl, fun i hi => ?_⟩
    rw [List.length_map] at hi
    have hq : q[i]? = some q[i] := List.getElem?_eq_getElem hi
    have hx : Tr.ruleD (q.map (·.1)) i = q[i].1 := by simp [Tr.ruleD, hi]
    rw [Nat.zero_add, hx]
    have h4 := h3 _ (List.getElem_mem hi)
    exact ⟨hc i _ hq 0 _ rfl, hc i _ hq 1 _ rfl, ⟨q[i].2.1, hc i _ hq 2 _ rfl, h4.1.toV⟩, hc i _ hq 3 _ rfl, q[i].2.2, hc i _ hq 4 _ rfl, h4.2.toV⟩

/-- A term, or where it is wrong. -/
theorem term_yes (P : Nat) (L : List Tk.Tok) (en : Int) (r : List Tk.Tok) (w : World) (hA : At w P L en r) (t : Tr.Term) (r' : List Tk.Tok) (h : Pr.term en r = .inr (t, r')) :
    Calls Tryz.prog 91 #[.pointer (some ⟨P, 0, none⟩)] w fun e w' => e = .returned (termVal t) ∧ Went w w' P L en r' := by
  unfold Pr.term at h
  cases h2 : ((Pr.hd en r).kind == 2)
  · cases h3 : ((Pr.hd en r).kind == 3)
    · rw [h2, h3] at h
      simp only [Bool.false_eq_true, if_false] at h
      unfold Pr.must at h
      cases ht : ((Pr.hd en r).text == [45])
      · rw [ht] at h; simp at h
      · rw [ht] at h
        simp only [if_true] at h
        unfold Pr.neg at h
        cases h0 : ((Pr.hd en r.tail).text == [48])
        · rw [h0] at h
          simp only [Bool.false_eq_true, if_false] at h
          unfold Pr.number at h
          cases hk : ((Pr.hd en r.tail).kind == 3)
          · rw [hk] at h; simp at h
          · rw [hk] at h
            simp only [if_true, Sum.inr.injEq, Prod.mk.injEq] at h
            obtain ⟨rfl, rfl⟩ := h
            exact term_neg P L en r w hA h2 h3 ht h0 hk
        · rw [h0] at h; simp at h
    · rw [h2, h3] at h
      simp only [Bool.false_eq_true, if_false, if_true, Sum.inr.injEq, Prod.mk.injEq] at h
      obtain ⟨rfl, rfl⟩ := h
      exact term_num P L en r w hA h3
  · rw [h2] at h
    simp only [if_true, Sum.inr.injEq, Prod.mk.injEq] at h
    obtain ⟨rfl, rfl⟩ := h
    exact term_var P L en r w hA h2
theorem term_no (P : Nat) (L : List Tk.Tok) (en : Int) (r : List Tk.Tok) (w : World) (hA : At w P L en r) (a : Int) (h : Pr.term en r = .inl a) :
    Calls Tryz.prog 91 #[.pointer (some ⟨P, 0, none⟩)] w fun e w' => e = gaveP a ∧ w.grownBy w' (some P) := by
  unfold Pr.term at h
  cases h2 : ((Pr.hd en r).kind == 2)
  · cases h3 : ((Pr.hd en r).kind == 3)
    · rw [h2, h3] at h
      simp only [Bool.false_eq_true, if_false] at h
      unfold Pr.must at h
      cases ht : ((Pr.hd en r).text == [45])
      · rw [ht] at h
        simp only [Bool.false_eq_true, if_false, Sum.inl.injEq] at h
        subst h
        exact term_off P L en r w hA h2 h3 ht
      · rw [ht] at h
        simp only [if_true] at h
        unfold Pr.neg at h
        cases h0 : ((Pr.hd en r.tail).text == [48])
        · rw [h0] at h
          simp only [Bool.false_eq_true, if_false] at h
          unfold Pr.number at h
          cases hk : ((Pr.hd en r.tail).kind == 3)
          · rw [hk] at h
            simp only [Bool.false_eq_true, if_false, Sum.inl.injEq] at h
            subst h
            exact term_nonum P L en r w hA h2 h3 ht h0 hk
          · rw [hk] at h; simp at h
        · rw [h0] at h
          simp only [if_true, Sum.inl.injEq] at h
          subst h
          exact term_zero P L en r w hA h2 h3 ht h0
    · rw [h2, h3] at h; simp at h
  · rw [h2] at h; simp at h

end Go.Proofs.YtclbbiocagkmcaaGreatDoor

/- The document's comparison of two trees. -/
namespace Go.Proofs.YtclbbiocagkmcaaGreatDoor
open Go.RowKit

namespace Tr
def headEq (q : Bool) (a b : Rule) : Bool := !((q && (a.at_ != b.at_)) || !(a.name == b.name) || (a.fold != b.fold) || !(termsEq a.terms b.terms) || ((a.body.length : Int) != (b.body.length : Int)))
def litEq (q : Bool) (x y : Lit) : Bool := !((q && (x.at_ != y.at_)) || (x.kind != y.kind) || (x.op != y.op) || !(x.name == y.name) || !(termsEq x.terms y.terms))
def ruleEq (q : Bool) (a b : Rule) : Bool := headEq q a b && listEq (litEq q) a.body b.body
def treeEq (q : Bool) (l m : List Rule) : Bool := listEq (ruleEq q) l m
end Tr

theorem Tr.headEq_len {q : Bool} {a b : Tr.Rule} (h : Tr.headEq q a b = true) : a.body.length = b.body.length := by
  unfold Tr.headEq at h
  simp only [Bool.not_eq_true', Bool.or_eq_false_iff, bne_eq_false_iff_eq] at h
  have := h.2
  omega

/-- Lists of terms that an int can count. -/
def FitsB (l : List Tr.Lit) : Prop := ∀ i, i < l.length → (Tr.litD l i).terms.length ≤ 9223372036854775807
abbrev rulObj (r : Tr.Rule) (v u : Value) : Obj := .cells #[.int .i64 r.at_, .string ⟨r.name.toArray⟩, v, .int .i64 r.fold, u] 46
theorem rul_cells {w : World} {b : Nat} {r : Tr.Rule} {v u : Value} (h : w.heap[b]? = some (rulObj r v u)) :
    w.cell? ⟨b, 0, none⟩ = some (.int .i64 r.at_) ∧ w.cell? ⟨b, 1, none⟩ = some (.string ⟨r.name.toArray⟩) ∧ w.cell? ⟨b, 2, none⟩ = some v ∧ w.cell? ⟨b, 3, none⟩ = some (.int .i64 r.fold) ∧ w.cell? ⟨b, 4, none⟩ = some u :=
  ⟨by rw [Lib.cell_of_heap h]; rfl, by rw [Lib.cell_of_heap h]; rfl, by rw [Lib.cell_of_heap h]; rfl, by rw [Lib.cell_of_heap h]; rfl, by rw [Lib.cell_of_heap h]; rfl⟩

theorem heap_two (u : World) (o1 o2 : Obj) : ((u.alloc o1).alloc o2).drew.heap[u.heap.size]? = some o1 ∧ ((u.alloc o1).alloc o2).drew.heap[u.heap.size + 1]? = some o2 ∧ Below u.heap.size u ((u.alloc o1).alloc o2).drew := by
  refine ⟨?_, ?_, (((Below.refl _ _).alloc (Nat.le_refl _) _).alloc (by simp) _).drew⟩
  · exact (((Below.refl _ (u.alloc o1)).alloc (Nat.le_refl _) o2).block _ (by simp)).trans (heap_alloc_new u o1)
  · have := heap_alloc_new (u.alloc o1) o2
    simpa [World.drew] using this
theorem lit_cells {w : World} {b : Nat} {x : Tr.Lit} {v : Value} (h : w.heap[b]? = some (litObj x v)) :
    w.cell? ⟨b, 0, none⟩ = some (.int .i64 x.kind) ∧ w.cell? ⟨b, 1, none⟩ = some (.int .i64 x.at_) ∧ w.cell? ⟨b, 2, none⟩ = some (.int .i64 x.op) ∧ w.cell? ⟨b, 3, none⟩ = some (.string ⟨x.name.toArray⟩) ∧ w.cell? ⟨b, 4, none⟩ = some v :=
  ⟨by rw [Lib.cell_of_heap h]; rfl, by rw [Lib.cell_of_heap h]; rfl, by rw [Lib.cell_of_heap h]; rfl, by rw [Lib.cell_of_heap h]; rfl, by rw [Lib.cell_of_heap h]; rfl⟩

set_option maxRecDepth 100000 in
set_option maxHeartbeats 4000000 in
theorem sameTree_loop (l m : List Tr.Rule) (q : Bool) (w : World) (n ca cb ba oa bb ob : Nat) (hna : l.length = n) (hnb : m.length = n) (hmax : n ≤ 9223372036854775807) (hF : ∀ i, i < n → (Tr.ruleD l i).terms.length ≤ 9223372036854775807 ∧ (Tr.ruleD l i).body.length ≤ 9223372036854775807 ∧ FitsB (Tr.ruleD l i).body)
    (hA : ∀ i, i < n → RuleIn w ba (oa + i * 5) (Tr.ruleD l i)) (hB : ∀ i, i < n → RuleIn w bb (ob + i * 5) (Tr.ruleD m i)) :
    Calls Tryz.prog 11 #[.agg #[.slice (some ⟨ba, oa, none⟩) n ca], .agg #[.slice (some ⟨bb, ob, none⟩) n cb], .bool q] w fun e w' => e = .returned (.bool (Tr.treeEq q l m)) ∧ Below w.heap.size w w' := by
  have HA : Hid (l.length = n) := hna
  have HB : Hid (m.length = n) := hnb
  clear hna hnb
  have hne : ((n : Int) != (n : Int)) = false := by simp
  have hbel0 : Below w.heap.size w ((w.alloc (.cells #[.slice (some ⟨ba, oa, none⟩) n ca] 24)).alloc (.cells #[.slice (some ⟨bb, ob, none⟩) n cb] 24)) := ((Below.refl _ _).alloc (Nat.le_refl _) _).alloc (by simp) _
  have ht0 : ((w.alloc (.cells #[.slice (some ⟨ba, oa, none⟩) n ca] 24)).alloc (.cells #[.slice (some ⟨bb, ob, none⟩) n cb] 24)).cell? ⟨w.heap.size, 0, none⟩ = some (.slice (some ⟨ba, oa, none⟩) n ca) := by simp [go_sem]
  have hu0 : ((w.alloc (.cells #[.slice (some ⟨ba, oa, none⟩) n ca] 24)).alloc (.cells #[.slice (some ⟨bb, ob, none⟩) n cb] 24)).cell? ⟨w.heap.size + 1, 0, none⟩ = some (.slice (some ⟨bb, ob, none⟩) n cb) := by simp [go_sem]
  go_enter Tryz.func11, Tryz.ntmps11
  go_wp2_with fail
  generalize hw0 : ((w.alloc (.cells #[.slice (some ⟨ba, oa, none⟩) n ca] 24)).alloc (.cells #[.slice (some ⟨bb, ob, none⟩) n cb] 24)) = w0 at *
  go_loopw [7] (fun i wr => ∃ k : Nat, k ≤ n ∧ i = .int .i64 k ∧ Tr.treeEq q l m = Tr.treeEq q (l.drop k) (m.drop k) ∧ Below w0.heap.size w0 wr) (fun i _ => n - (intOf i).toNat)
  case atStart => exact ⟨0, Nat.zero_le _, rfl, rfl, Below.refl _ _⟩
  case round =>
    obtain ⟨k, hk, rfl, hsame, hbr⟩ := hrel
    have HS : Hid (Tr.treeEq q l m = Tr.treeEq q (l.drop k) (m.drop k)) := hsame
    have ht := cell_below hbr ht0
    have hu := cell_below hbr hu0
    have hbw := hbel0.trans (hbr.mono hbel0.size)
    clear hsame
    by_cases hlt : k < n
    · have HD : Hid (Tr.treeEq q l m = (Tr.ruleEq q (Tr.ruleD l k) (Tr.ruleD m k) && Tr.treeEq q (l.drop (k + 1)) (m.drop (k + 1)))) := by
        show _ = _
        rw [HS.out]
        exact Tr.listEq_drop _ _ _ _ _ (by rw [HA.out]; exact hlt) (by rw [HB.out]; exact hlt)
      obtain ⟨a0, a1, ⟨va, a2, hTa⟩, a3, ua, a4, hLa⟩ := hA k hlt
      obtain ⟨b0, b1, ⟨vb, b2, hTb⟩, b3, ub, b4, hLb⟩ := hB k hlt
      replace a0 := cell_below hbw a0
      replace a1 := cell_below hbw a1
      replace a2 := cell_below hbw a2
      replace a3 := cell_below hbw a3
      replace a4 := cell_below hbw a4
      replace b0 := cell_below hbw b0
      replace b1 := cell_below hbw b1
      replace b2 := cell_below hbw b2
      replace b3 := cell_below hbw b3
      replace b4 := cell_below hbw b4
      replace hTa := termsV_below hTa hbw
      replace hTb := termsV_below hTb hbw
      replace hLa := litsV_below hLa hbw
      replace hLb := litsV_below hLb hbw
      obtain ⟨hmaxT, hmaxB, hmaxL⟩ := hF k hlt
      clear HS hA hB hF
      generalize Tr.ruleD l k = a at *
      generalize Tr.ruleD m k = b at *
      obtain ⟨aota, capta, rfl, hTa'⟩ := hTa
      obtain ⟨aotb, captb, rfl, hTb'⟩ := hTb
      obtain ⟨aola, capla, rfl, hLa'⟩ := hLa
      obtain ⟨aolb, caplb, rfl, hLb'⟩ := hLb
      go_upto_region 6 with fail
      go_cut [8, 9] (fun v8 v9 wx => ∃ pa pb : Nat, v8 = .pointer (some ⟨pa, 0, none⟩) ∧ v9 = .pointer (some ⟨pb, 0, none⟩) ∧ wx.heap[pa]? = some (rulObj a (.slice aota a.terms.length capta) (.slice aola a.body.length capla)) ∧ wx.heap[pb]? = some (rulObj b (.slice aotb b.terms.length captb) (.slice aolb b.body.length caplb)) ∧ Below wr.heap.size wr wx)
      case first =>
        go_region_held3 (fun w' => w'.cell? ⟨w.heap.size, 0, none⟩ = some (.slice (some ⟨ba, oa, none⟩) n ca) ∧ w'.cell? ⟨w.heap.size + 1, 0, none⟩ = some (.slice (some ⟨bb, ob, none⟩) n cb) ∧ w'.cell? ⟨ba, oa + k * 5, none⟩ = some (.int .i64 a.at_) ∧ w'.cell? ⟨ba, oa + k * 5 + 1, none⟩ = some (.string ⟨a.name.toArray⟩) ∧ w'.cell? ⟨ba, oa + k * 5 + 2, none⟩ = some (.slice aota a.terms.length capta) ∧ w'.cell? ⟨ba, oa + k * 5 + 3, none⟩ = some (.int .i64 a.fold) ∧ w'.cell? ⟨ba, oa + k * 5 + 4, none⟩ = some (.slice aola a.body.length capla) ∧
          w'.cell? ⟨bb, ob + k * 5, none⟩ = some (.int .i64 b.at_) ∧ w'.cell? ⟨bb, ob + k * 5 + 1, none⟩ = some (.string ⟨b.name.toArray⟩) ∧ w'.cell? ⟨bb, ob + k * 5 + 2, none⟩ = some (.slice aotb b.terms.length captb) ∧ w'.cell? ⟨bb, ob + k * 5 + 3, none⟩ = some (.int .i64 b.fold) ∧ w'.cell? ⟨bb, ob + k * 5 + 4, none⟩ = some (.slice aolb b.body.length caplb)) (go_keep) (fail)
        all_goals (go_wp2_with fail; go_meet)
        · exact ⟨_, _, rfl, rfl, (heap_two wr _ _).1, (heap_two wr _ _).2.1, (heap_two wr _ _).2.2⟩
        · exact ⟨_, _, rfl, rfl, (heap_two wr _ _).2.1, (heap_two wr _ _).1, (heap_two wr _ _).2.2⟩
      case rest =>
        obtain ⟨pa, pb, rfl, rfl, hpa, hpb, hbx⟩ := hcut
        generalize wc = wx at *
        have hTa : TermsV wx (.slice aota a.terms.length capta) a.terms := termsV_below ⟨aota, capta, rfl, hTa'⟩ hbx
        have hTb : TermsV wx (.slice aotb b.terms.length captb) b.terms := termsV_below ⟨aotb, captb, rfl, hTb'⟩ hbx
        have hLa : LitsV wx (.slice aola a.body.length capla) a.body := litsV_below ⟨aola, capla, rfl, hLa'⟩ hbx
        have hLb : LitsV wx (.slice aolb b.body.length caplb) b.body := litsV_below ⟨aolb, caplb, rfl, hLb'⟩ hbx
        have hbw2 := hbw.trans (hbx.mono hbw.size)
        have hbr2 := hbr.trans (hbx.mono hbr.size)
        have HC : Hid (Calls Tryz.prog 25 #[.slice aota a.terms.length capta, .slice aotb b.terms.length captb] wx fun e w' => e = .returned (.bool (Tr.termsEq a.terms b.terms)) ∧ ∃ k', w' = wx.drewN k') := sameTerms_any a.terms b.terms wx _ _ hTa hTb hmaxT
        clear hTa' hTb' hLa' hLb' hTa hTb ht hu a0 a1 a2 a3 a4 b0 b1 b2 b3 b4
        obtain ⟨c0, c1, c2, c3, c4⟩ := rul_cells hpa
        obtain ⟨d0, d1, d2, d3, d4⟩ := rul_cells hpb
        go_upto_region 7 with fail
        go_cut [75] (fun v75 wz => v75 = .bool (!(Tr.headEq q a b)) ∧ ∃ nz, wz = wx.drewN nz)
        case first =>
          cases q
          · skip
            cases h1 : (a.name == b.name)
            · skip
              go_wp2_with (go_at_call 25; refine Calls.mono HC.out ?_; rintro e y1 ⟨rfl, kq, rfl⟩)
              go_meet
              exact ⟨by simp [Tr.headEq, *], 0, rfl⟩
            · cases h2 : (a.fold != b.fold)
              rotate_left
              · skip
                go_wp2_with (go_at_call 25; refine Calls.mono HC.out ?_; rintro e y1 ⟨rfl, kq, rfl⟩)
                go_meet
                exact ⟨by simp [Tr.headEq, *], 0, rfl⟩
              · cases h3 : Tr.termsEq a.terms b.terms
                · skip
                  go_wp2_with (go_at_call 25; refine Calls.mono HC.out ?_; rintro e y1 ⟨rfl, kq, rfl⟩)
                  go_meet
                  exact ⟨by simp [Tr.headEq, *], kq, rfl⟩
                · cases h4 : ((a.body.length : Int) != (b.body.length : Int))
                  all_goals skip
                  · skip
                    go_wp2_with (go_at_call 25; refine Calls.mono HC.out ?_; rintro e y1 ⟨rfl, kq, rfl⟩)
                    go_meet
                    exact ⟨by simp [Tr.headEq, *], kq, rfl⟩
                  · skip
                    go_wp2_with (go_at_call 25; refine Calls.mono HC.out ?_; rintro e y1 ⟨rfl, kq, rfl⟩)
                    go_meet
                    exact ⟨by simp [Tr.headEq, *], kq, rfl⟩
          · cases h0 : (a.at_ != b.at_)
            · skip
              cases h1 : (a.name == b.name)
              · skip
                go_wp2_with (go_at_call 25; refine Calls.mono HC.out ?_; rintro e y1 ⟨rfl, kq, rfl⟩)
                go_meet
                exact ⟨by simp [Tr.headEq, *], 0, rfl⟩
              · cases h2 : (a.fold != b.fold)
                rotate_left
                · skip
                  go_wp2_with (go_at_call 25; refine Calls.mono HC.out ?_; rintro e y1 ⟨rfl, kq, rfl⟩)
                  go_meet
                  exact ⟨by simp [Tr.headEq, *], 0, rfl⟩
                · cases h3 : Tr.termsEq a.terms b.terms
                  · skip
                    go_wp2_with (go_at_call 25; refine Calls.mono HC.out ?_; rintro e y1 ⟨rfl, kq, rfl⟩)
                    go_meet
                    exact ⟨by simp [Tr.headEq, *], kq, rfl⟩
                  · cases h4 : ((a.body.length : Int) != (b.body.length : Int))
                    all_goals skip
                    · skip
                      go_wp2_with (go_at_call 25; refine Calls.mono HC.out ?_; rintro e y1 ⟨rfl, kq, rfl⟩)
                      go_meet
                      exact ⟨by simp [Tr.headEq, *], kq, rfl⟩
                    · skip
                      go_wp2_with (go_at_call 25; refine Calls.mono HC.out ?_; rintro e y1 ⟨rfl, kq, rfl⟩)
                      go_meet
                      exact ⟨by simp [Tr.headEq, *], kq, rfl⟩
            · skip
              go_wp2_with (go_at_call 25; refine Calls.mono HC.out ?_; rintro e y1 ⟨rfl, kq, rfl⟩)
              go_meet
              exact ⟨by simp [Tr.headEq, *], 0, rfl⟩
        case rest =>
          obtain ⟨rfl, nz, rfl⟩ := hcut
          replace hLa : LitsV (wx.drewN nz) (.slice aola a.body.length capla) a.body := hLa
          replace hLb : LitsV (wx.drewN nz) (.slice aolb b.body.length caplb) b.body := hLb
          replace hpa : (wx.drewN nz).heap[pa]? = some (rulObj a (.slice aota a.terms.length capta) (.slice aola a.body.length capla)) := hpa
          replace hpb : (wx.drewN nz).heap[pb]? = some (rulObj b (.slice aotb b.terms.length captb) (.slice aolb b.body.length caplb)) := hpb
          replace hbw2 : Below w.heap.size w (wx.drewN nz) := below_drewN hbw2 nz
          replace hbr2 : Below w0.heap.size w0 (wx.drewN nz) := below_drewN hbr2 nz
          clear hbx HC c0 c1 c2 c3 c4 d0 d1 d2 d3 d4
          generalize wx.drewN nz = wy at *
          cases hh : Tr.headEq q a b
          · have HV : Hid (Tr.treeEq q l m = false) := by show _ = _; rw [HD.out, Tr.ruleEq, hh]; rfl
            clear HD hLa hLb
            go_wp2_with fail
            go_ret
            exact ⟨ret_bool HV.out.symm, hbw2⟩
          · have hlen : a.body.length = b.body.length := Tr.headEq_len hh
            have HE0 : Hid (Tr.ruleEq q a b = Tr.listEq (Tr.litEq q) a.body b.body) := by show _ = _; rw [Tr.ruleEq, hh]; rfl
            clear hh
            go_wp2_with fail
            go_loopw [10] (fun i wz => ∃ j : Nat, j ≤ a.body.length ∧ i = .int .i64 j ∧ Tr.ruleEq q a b = Tr.listEq (Tr.litEq q) (a.body.drop j) (b.body.drop j) ∧ Below wy.heap.size wy wz) (fun i _ => a.body.length - (intOf i).toNat)
            case atStart => exact ⟨0, Nat.zero_le _, rfl, HE0.out, Below.refl _ _⟩
            case round =>
              obtain ⟨j, hj, rfl, hse, hbz⟩ := hrel
              have HSE : Hid _ := hse
              clear hse HE0
              have hLa2 := litsV_below hLa hbz
              have hLb2 := litsV_below hLb hbz
              have hpa2 := (hbz.block _ (heap_lt hpa)).trans hpa
              have hpb2 := (hbz.block _ (heap_lt hpb)).trans hpb
              have hbw3 := hbw2.trans (hbz.mono hbw2.size)
              have hbr3 := hbr2.trans (hbz.mono hbr2.size)
              obtain ⟨_, _, _, _, c4⟩ := rul_cells hpa2
              obtain ⟨_, _, _, _, d4⟩ := rul_cells hpb2
              have hpal := heap_lt hpa2
              have hpbl := heap_lt hpb2
              generalize hwz : wr = wz at *
              clear hwz
              by_cases hltj : j < a.body.length
              · have HDL : Hid (Tr.ruleEq q a b = (Tr.litEq q (Tr.litD a.body j) (Tr.litD b.body j) && Tr.listEq (Tr.litEq q) (a.body.drop (j + 1)) (b.body.drop (j + 1)))) := by
                  show _ = _
                  rw [HSE.out]
                  exact Tr.listEq_drop _ _ _ _ _ hltj (by omega)
                have hmaxX := hmaxL j hltj
                have hltjb : j < b.body.length := by omega
                obtain ⟨_, _, hv, hLA⟩ := hLa2
                rcases hLA with h | ⟨ba2, oa2, rfl, hcA⟩
                · rw [h] at hltj; exact absurd hltj (by simp)
                injection hv with e1 _ e3
                subst e1 e3
                obtain ⟨_, _, hv, hLB⟩ := hLb2
                rcases hLB with h | ⟨bb2, ob2, rfl, hcB⟩
                · rw [h] at hltjb; exact absurd hltjb (by simp)
                injection hv with e1 _ e3
                subst e1 e3
                obtain ⟨x0, x1, x2, x3, xv, x4, hTx⟩ := hcA j hltj
                obtain ⟨y0, y1, y2, y3, yv, y4, hTy⟩ := hcB j hltjb
                clear hcA hcB HSE
                generalize Tr.litD a.body j = x at *
                generalize Tr.litD b.body j = y at *
                obtain ⟨aotx, captx, rfl, hTx'⟩ := hTx
                obtain ⟨aoty, capty, rfl, hTy'⟩ := hTy
                go_upto_region 12 with fail
                go_cut [11, 12] (fun v8 v9 wq => ∃ px py : Nat, v8 = .pointer (some ⟨px, 0, none⟩) ∧ v9 = .pointer (some ⟨py, 0, none⟩) ∧ wq.heap[px]? = some (litObj x (.slice aotx x.terms.length captx)) ∧ wq.heap[py]? = some (litObj y (.slice aoty y.terms.length capty)) ∧ Below wz.heap.size wz wq)
                case first =>
                  go_region_held3 (fun w' => w'.cell? ⟨pa, 4, none⟩ = some (.slice (some ⟨ba2, oa2, none⟩) a.body.length capla) ∧ w'.cell? ⟨pb, 4, none⟩ = some (.slice (some ⟨bb2, ob2, none⟩) b.body.length caplb) ∧ w'.cell? ⟨ba2, oa2 + j * 5, none⟩ = some (.int .i64 x.kind) ∧ w'.cell? ⟨ba2, oa2 + j * 5 + 1, none⟩ = some (.int .i64 x.at_) ∧ w'.cell? ⟨ba2, oa2 + j * 5 + 2, none⟩ = some (.int .i64 x.op) ∧ w'.cell? ⟨ba2, oa2 + j * 5 + 3, none⟩ = some (.string ⟨x.name.toArray⟩) ∧ w'.cell? ⟨ba2, oa2 + j * 5 + 4, none⟩ = some (.slice aotx x.terms.length captx) ∧
                    w'.cell? ⟨bb2, ob2 + j * 5, none⟩ = some (.int .i64 y.kind) ∧ w'.cell? ⟨bb2, ob2 + j * 5 + 1, none⟩ = some (.int .i64 y.at_) ∧ w'.cell? ⟨bb2, ob2 + j * 5 + 2, none⟩ = some (.int .i64 y.op) ∧ w'.cell? ⟨bb2, ob2 + j * 5 + 3, none⟩ = some (.string ⟨y.name.toArray⟩) ∧ w'.cell? ⟨bb2, ob2 + j * 5 + 4, none⟩ = some (.slice aoty y.terms.length capty)) (go_keep) (fail)
                  all_goals (go_wp2_with fail; go_meet)
                  · exact ⟨_, _, rfl, rfl, (heap_two wz _ _).1, (heap_two wz _ _).2.1, (heap_two wz _ _).2.2⟩
                  · exact ⟨_, _, rfl, rfl, (heap_two wz _ _).2.1, (heap_two wz _ _).1, (heap_two wz _ _).2.2⟩
                case rest =>
                  obtain ⟨px, py, rfl, rfl, hpx, hpy, hbq⟩ := hcut
                  generalize wc = wq at *
                  have hTx : TermsV wq (.slice aotx x.terms.length captx) x.terms := termsV_below ⟨aotx, captx, rfl, hTx'⟩ hbq
                  have hTy : TermsV wq (.slice aoty y.terms.length capty) y.terms := termsV_below ⟨aoty, capty, rfl, hTy'⟩ hbq
                  have HE : Hid (Calls Tryz.prog 25 #[.slice aotx x.terms.length captx, .slice aoty y.terms.length capty] wq fun e w' => e = .returned (.bool (Tr.termsEq x.terms y.terms)) ∧ ∃ k', w' = wq.drewN k') := sameTerms_any x.terms y.terms wq _ _ hTx hTy hmaxX
                  have hbw4 := hbw3.trans (hbq.mono hbw3.size)
                  have hbz4 := hbz.trans (hbq.mono hbz.size)
                  clear hTx hTy hTx' hTy' x0 x1 x2 x3 x4 y0 y1 y2 y3 y4 c4 d4 hpa2 hpb2 hbr3
                  obtain ⟨x0, x1, x2, x3, x4⟩ := lit_cells hpx
                  obtain ⟨y0, y1, y2, y3, y4⟩ := lit_cells hpy
                  go_upto_region 13 with fail
                  go_cut [129] (fun v wk => v = .bool (!(Tr.litEq q x y)) ∧ ∃ nz, wk = wq.drewN nz)
                  case first =>
                    cases q
                    · skip
                      cases h1 : (x.kind != y.kind)
                      rotate_left
                      · skip
                        go_wp2_with (go_at_call 25; refine Calls.mono HE.out ?_; rintro e y1 ⟨rfl, kq, rfl⟩)
                        go_meet
                        exact ⟨by simp [Tr.litEq, *], 0, rfl⟩
                      · cases h2 : (x.op != y.op)
                        rotate_left
                        · skip
                          go_wp2_with (go_at_call 25; refine Calls.mono HE.out ?_; rintro e y1 ⟨rfl, kq, rfl⟩)
                          go_meet
                          exact ⟨by simp [Tr.litEq, *], 0, rfl⟩
                        · cases h3 : (x.name == y.name)
                          · skip
                            go_wp2_with (go_at_call 25; refine Calls.mono HE.out ?_; rintro e y1 ⟨rfl, kq, rfl⟩)
                            go_meet
                            exact ⟨by simp [Tr.litEq, *], 0, rfl⟩
                          · cases h4 : Tr.termsEq x.terms y.terms
                            · skip
                              go_wp2_with (go_at_call 25; refine Calls.mono HE.out ?_; rintro e y1 ⟨rfl, kq, rfl⟩)
                              go_meet
                              exact ⟨by simp [Tr.litEq, *], kq, rfl⟩
                            · skip
                              go_wp2_with (go_at_call 25; refine Calls.mono HE.out ?_; rintro e y1 ⟨rfl, kq, rfl⟩)
                              go_meet
                              exact ⟨by simp [Tr.litEq, *], kq, rfl⟩
                    · cases h0 : (x.at_ != y.at_)
                      · skip
                        cases h1 : (x.kind != y.kind)
                        rotate_left
                        · skip
                          go_wp2_with (go_at_call 25; refine Calls.mono HE.out ?_; rintro e y1 ⟨rfl, kq, rfl⟩)
                          go_meet
                          exact ⟨by simp [Tr.litEq, *], 0, rfl⟩
                        · cases h2 : (x.op != y.op)
                          rotate_left
                          · skip
                            go_wp2_with (go_at_call 25; refine Calls.mono HE.out ?_; rintro e y1 ⟨rfl, kq, rfl⟩)
                            go_meet
                            exact ⟨by simp [Tr.litEq, *], 0, rfl⟩
                          · cases h3 : (x.name == y.name)
                            · skip
                              go_wp2_with (go_at_call 25; refine Calls.mono HE.out ?_; rintro e y1 ⟨rfl, kq, rfl⟩)
                              go_meet
                              exact ⟨by simp [Tr.litEq, *], 0, rfl⟩
                            · cases h4 : Tr.termsEq x.terms y.terms
                              · skip
                                go_wp2_with (go_at_call 25; refine Calls.mono HE.out ?_; rintro e y1 ⟨rfl, kq, rfl⟩)
                                go_meet
                                exact ⟨by simp [Tr.litEq, *], kq, rfl⟩
                              · skip
                                go_wp2_with (go_at_call 25; refine Calls.mono HE.out ?_; rintro e y1 ⟨rfl, kq, rfl⟩)
                                go_meet
                                exact ⟨by simp [Tr.litEq, *], kq, rfl⟩
                      · skip
                        go_wp2_with (go_at_call 25; refine Calls.mono HE.out ?_; rintro e y1 ⟨rfl, kq, rfl⟩)
                        go_meet
                        exact ⟨by simp [Tr.litEq, *], 0, rfl⟩
                  case rest =>
                    obtain ⟨rfl, nz2, rfl⟩ := hcut
                    cases hh2 : Tr.litEq q x y
                    · have HV : Hid (Tr.treeEq q l m = false) := by show _ = _; rw [HD.out, HDL.out, hh2]; rfl
                      clear HD HDL
                      go_wp2_with fail
                      go_ret
                      exact ⟨ret_bool HV.out.symm, below_drewN hbw4 _⟩
                    · have HV : Hid (Tr.ruleEq q a b = Tr.listEq (Tr.litEq q) (a.body.drop (j + 1)) (b.body.drop (j + 1))) := by show _ = _; rw [HDL.out, hh2]; rfl
                      clear HDL
                      go_wp2_with fail
                      go_roundw
                      case rel => exact ⟨j + 1, by omega, by go_num, HV.out, below_drewN hbz4 _⟩
                      case measure => simp [intOf]; omega
              · have HV : Hid (Tr.ruleEq q a b = true) := by
                  show _ = _
                  rw [HSE.out, List.drop_of_length_le (by omega), List.drop_of_length_le (by omega)]
                  rfl
                have HV2 : Hid (Tr.treeEq q l m = Tr.treeEq q (l.drop (k + 1)) (m.drop (k + 1))) := by show _ = _; rw [HD.out, HV.out]; rfl
                clear HD HV HSE
                go_wp2_with fail
                go_roundw
                case rel => exact ⟨k + 1, by omega, by go_num, HV2.out, hbr3⟩
                case measure => simp [intOf]; omega
    · have HV : Hid (Tr.treeEq q l m = true) := by
        show _ = _
        rw [HS.out, List.drop_of_length_le (by rw [HA.out]; omega), List.drop_of_length_le (by rw [HB.out]; omega)]
        rfl
      clear HS hA hB
      go_wp2_with fail
      go_ret
      exact ⟨ret_bool HV.out.symm, hbw⟩

set_option maxRecDepth 100000 in
set_option maxHeartbeats 400000 in
theorem sameTree_diff (q : Bool) (w : World) (ao bo : Option Addr) (n m ca cb : Nat) (h : ¬ n = m) :
    Calls Tryz.prog 11 #[.agg #[.slice ao n ca], .agg #[.slice bo m cb], .bool q] w fun e w' => e = .returned (.bool false) ∧ Below w.heap.size w w' := by
  have hne : ((n : Int) != (m : Int)) = true := bne_iff_ne.2 (by omega)
  have hbel0 : Below w.heap.size w ((w.alloc (.cells #[.slice ao n ca] 24)).alloc (.cells #[.slice bo m cb] 24)) := ((Below.refl _ _).alloc (Nat.le_refl _) _).alloc (by simp) _
  go_enter Tryz.func11, Tryz.ntmps11
  go_wp2_with fail
  go_ret
  exact ⟨rfl, hbel0⟩

set_option maxRecDepth 100000 in
set_option maxHeartbeats 400000 in
theorem sameTree_none (q : Bool) (w : World) (ao bo : Option Addr) (ca cb : Nat) :
    Calls Tryz.prog 11 #[.agg #[.slice ao 0 ca], .agg #[.slice bo 0 cb], .bool q] w fun e w' => e = .returned (.bool true) ∧ Below w.heap.size w w' := by
  have hbel0 : Below w.heap.size w ((w.alloc (.cells #[.slice ao 0 ca] 24)).alloc (.cells #[.slice bo 0 cb] 24)) := ((Below.refl _ _).alloc (Nat.le_refl _) _).alloc (by simp) _
  go_enter Tryz.func11, Tryz.ntmps11
  go_wp2_with fail
  refine wp_loop_rounds 1 ?_
  rw [rounds_succ]
  go_wp2_with fail
  go_ret
  exact ⟨rfl, hbel0⟩

/-- Trees that are not too great for the machine's counters. -/
def Fine (l : List Tr.Rule) : Prop := l.length ≤ 9223372036854775807 ∧ ∀ i, i < l.length → (Tr.ruleD l i).terms.length ≤ 9223372036854775807 ∧ (Tr.ruleD l i).body.length ≤ 9223372036854775807 ∧ FitsB (Tr.ruleD l i).body

/-- SameTree, whatever trees it is handed. -/
theorem sameTree_any (l m : List Tr.Rule) (q : Bool) (w : World) (va vb : Value) (hA : RulesV w va l) (hB : RulesV w vb m) (hF : Fine l) :
    Calls Tryz.prog 11 #[.agg #[va], .agg #[vb], .bool q] w fun e w' => e = .returned (.bool (Tr.treeEq q l m)) ∧ Below w.heap.size w w' := by
  obtain ⟨ao, ca, rfl, hA⟩ := hA
  obtain ⟨bo, cb, rfl, hB⟩ := hB
  by_cases h : l.length = m.length
  · rcases hA with rfl | ⟨b, off, rfl, hA⟩
    · have hl : m = [] := List.eq_nil_of_length_eq_zero h.symm
      subst hl
      exact sameTree_none q w ao bo ca cb
    · rcases hB with rfl | ⟨b', off', rfl, hB⟩
      · have hl : l = [] := List.eq_nil_of_length_eq_zero h
        subst hl
        exact sameTree_none q w _ bo ca cb
      · rw [← h]
        exact sameTree_loop l m q w l.length ca cb b off b' off' rfl h.symm hF.1 hF.2 hA (by rw [h]; exact hB)
  · rw [show Tr.treeEq q l m = false from Tr.listEq_len _ l m h]
    exact sameTree_diff q w ao bo _ _ ca cb h

end Go.Proofs.YtclbbiocagkmcaaGreatDoor

/- Package show: literals and rules. -/
namespace Go.Proofs.YtclbbiocagkmcaaGreatDoor
open Go.RowKit

namespace Sh
def sign (o : Int) : List UInt8 := if o = 1 then [60] else if o = 2 then [60, 61] else if o = 3 then [61] else if o = 4 then [33, 61] else if o = 5 then [43] else if o = 6 then [45] else [42]
theorem sign_len (o : Int) : (sign o).length ≤ 2 := by
  unfold sign
  (repeat' split) <;> simp
def third (x : Tr.Lit) : List UInt8 := if x.kind = 4 then [32, 61, 32] ++ term (Tr.termD x.terms 2) else []
def reck (x : Tr.Lit) : List UInt8 := term (Tr.termD x.terms 0) ++ ([32] ++ sign x.op ++ [32]) ++ term (Tr.termD x.terms 1) ++ third x
def lit (x : Tr.Lit) : List UInt8 := if x.kind = 1 then atom x.name x.terms 0 else if x.kind = 2 then [110, 111, 116, 32] ++ atom x.name x.terms 0 else reck x
def lits (l : List Tr.Lit) : Nat → List UInt8
  | 0 => []
  | n + 1 => lits l n ++ sep n ++ lit (Tr.litD l n)
theorem lits_len (l : List Tr.Lit) : ∀ n m, n ≤ m → (lits l n).length ≤ (lits l m).length
  | n, 0, h => by
    obtain rfl : n = 0 := by omega
    exact Nat.le_refl _
  | n, m + 1, h => by
    rcases Nat.lt_or_ge n (m + 1) with h1 | h1
    · have := lits_len l n m (by omega)
      rw [lits, List.length_append, List.length_append]
      omega
    · obtain rfl : n = m + 1 := by omega
      exact Nat.le_refl _
def tail (b : List Tr.Lit) : List UInt8 := if 0 < b.length then [32, 58, 45, 32] ++ lits b b.length else []
def rule (r : Tr.Rule) : List UInt8 := atom r.name r.terms r.fold ++ tail r.body ++ [46, 10]
def rules (l : List Tr.Rule) : Nat → List UInt8
  | 0 => []
  | n + 1 => rules l n ++ rule (Tr.ruleD l n)
theorem rules_len (l : List Tr.Rule) : ∀ n m, n ≤ m → (rules l n).length ≤ (rules l m).length
  | n, 0, h => by
    obtain rfl : n = 0 := by omega
    exact Nat.le_refl _
  | n, m + 1, h => by
    rcases Nat.lt_or_ge n (m + 1) with h1 | h1
    · have := rules_len l n m (by omega)
      rw [rules, List.length_append]
      omega
    · obtain rfl : n = m + 1 := by omega
      exact Nat.le_refl _
/-- What Check has passed, as far as it is needed here. -/
structure LitOk (x : Tr.Lit) : Prop where
  num : ∀ i, i < x.terms.length → NumOk (Tr.termD x.terms i)
  len : x.terms.length ≤ 4611686018427387904
  two : ¬ x.kind = 1 → ¬ x.kind = 2 → 2 ≤ x.terms.length
  three : x.kind = 4 → 3 ≤ x.terms.length
end Sh

theorem Kept.get {P X : Nat} {w w' : World} {cs : Array Value} {e : TypeId} {fz : Nat × Nat} (hk : Kept P w w') (h : w.heap[X]? = some (.cells cs e fz)) (hX : X ≠ P) (he : e ≠ 5) : w'.heap[X]? = some (.cells cs e fz) :=
  hk X _ h (by simpa using hX) (fun c f h2 => by injection h2 with _ h2; exact he h2)

set_option maxRecDepth 100000 in
set_option maxHeartbeats 1000000 in
theorem shSign_any (o : Int) (w : World) : Calls Tryz.prog 78 #[.int .i64 o] w fun e w' => e = .returned (strV (Sh.sign o)) ∧ w' = w := by
  by_cases h1 : o = 1
  · subst h1
    go_enter Tryz.func78, Tryz.ntmps78
    go_wp2
    go_ret
    exact ⟨rfl, rfl⟩
  by_cases h2 : o = 2
  · subst h2
    go_enter Tryz.func78, Tryz.ntmps78
    go_wp2
    go_ret
    exact ⟨rfl, rfl⟩
  by_cases h3 : o = 3
  · subst h3
    go_enter Tryz.func78, Tryz.ntmps78
    go_wp2
    go_ret
    exact ⟨rfl, rfl⟩
  by_cases h4 : o = 4
  · subst h4
    go_enter Tryz.func78, Tryz.ntmps78
    go_wp2
    go_ret
    exact ⟨rfl, rfl⟩
  by_cases h5 : o = 5
  · subst h5
    go_enter Tryz.func78, Tryz.ntmps78
    go_wp2
    go_ret
    exact ⟨rfl, rfl⟩
  by_cases h6 : o = 6
  · subst h6
    go_enter Tryz.func78, Tryz.ntmps78
    go_wp2
    go_ret
    exact ⟨rfl, rfl⟩
  have e : Sh.sign o = [42] := by unfold Sh.sign; rw [if_neg h1, if_neg h2, if_neg h3, if_neg h4, if_neg h5, if_neg h6]
  rw [e]
  have g1 : (o == 1) = false := by simpa using h1
  have g2 : (o == 2) = false := by simpa using h2
  have g3 : (o == 3) = false := by simpa using h3
  have g4 : (o == 4) = false := by simpa using h4
  have g5 : (o == 5) = false := by simpa using h5
  have g6 : (o == 6) = false := by simpa using h6
  go_enter Tryz.func78, Tryz.ntmps78
  go_wp2
  go_ret
  exact ⟨rfl, rfl⟩

theorem cat_list (l : List UInt8) : strV ([32] ++ l ++ [32]) = .string ({ data := #[32] } ++ { data := l.toArray } ++ { data := #[32] }) := by
  congr 1

set_option maxRecDepth 100000 in
set_option maxHeartbeats 2000000 in
theorem reck_any (w0 : World) (P : Nat) (bs : List UInt8) (x : Tr.Lit) (v : Value) (w : World) (hV : TermsV w0 v x.terms) (h : PI w0 w P bs) (hx : Sh.LitOk x) (h2 : 2 ≤ x.terms.length) (hp : Pow w0)
    (hlen : bs.length + (Sh.reck x).length ≤ 140737488355328) :
    Calls Tryz.prog 59 #[.pointer (some ⟨P, 0, none⟩), litVal x v] w fun e w' => e = .returned (.tuple #[]) ∧ PI w0 w' P (bs ++ Sh.reck x) ∧ Kept P w w' := by
  obtain ⟨ao, ca, rfl, hV'⟩ := hV
  rcases hV' with h0 | ⟨b, off, rfl, hc⟩
  · rw [h0] at h2; simp at h2
  have hb1 : Below w.heap.size w (w.alloc (litObj x (.slice (some ⟨b, off, none⟩) x.terms.length ca))) := (Below.refl _ _).alloc (Nat.le_refl _) _
  have hI1 := h.below hb1
  have hk1 : Kept P w (w.alloc (litObj x (.slice (some ⟨b, off, none⟩) x.terms.length ca))) := kept_below hb1
  have hX1 := heap_alloc_new w (litObj x (.slice (some ⟨b, off, none⟩) x.terms.length ca))
  have hXP : w.heap.size ≠ P := by have := h.lt; omega
  obtain ⟨a0, a1⟩ := hc 0 (by omega)
  obtain ⟨b0, b1⟩ := hc 1 (by omega)
  replace a0 : w0.cell? ⟨b, off, none⟩ = some (.string ⟨(Tr.termD x.terms 0).var.toArray⟩) := by simpa using a0
  replace a1 : w0.cell? ⟨b, off + 1, none⟩ = some (.int .i64 (Tr.termD x.terms 0).n) := by simpa using a1
  replace b0 : w0.cell? ⟨b, off + 2, none⟩ = some (.string ⟨(Tr.termD x.terms 1).var.toArray⟩) := b0
  replace b1 : w0.cell? ⟨b, off + 2 + 1, none⟩ = some (.int .i64 (Tr.termD x.terms 1).n) := b1
  have hn0 := hx.num 0 (by omega)
  have hn1 := hx.num 1 (by omega)
  have hr : (Sh.reck x).length = (Sh.term (Tr.termD x.terms 0)).length + ((Sh.sign x.op).length + 2) + (Sh.term (Tr.termD x.terms 1)).length + (Sh.third x).length := by unfold Sh.reck; simp; omega
  rw [hr] at hlen
  have HR : Hid (Sh.reck x = Sh.term (Tr.termD x.terms 0) ++ ([32] ++ Sh.sign x.op ++ [32]) ++ Sh.term (Tr.termD x.terms 1) ++ Sh.third x) := rfl
  have H3 : Hid (x.kind = 4 → Sh.third x = [32, 61, 32] ++ Sh.term (Tr.termD x.terms 2)) := fun h => by unfold Sh.third; rw [if_pos h]
  have H0 : Hid (¬ x.kind = 4 → Sh.third x = []) := fun h => by unfold Sh.third; rw [if_neg h]
  have hln : (2 : Int) ≤ (x.terms.length : Int) := by omega
  have hi0 : (0 : Int) < (x.terms.length : Int) := by omega
  have hi1 : (1 : Int) < (x.terms.length : Int) := by omega
  clear hr
  generalize Sh.reck x = RX at *
  generalize Sh.third x = TX at *
  have a0' := cell_below hI1.bel a0
  have a1' := cell_below hI1.bel a1
  go_enter Tryz.func59, Tryz.ntmps59
  go_upto_region 1 with fail
  generalize w.alloc (litObj x (.slice (some ⟨b, off, none⟩) x.terms.length ca)) = w1 at *
  generalize w.heap.size = X at *
  obtain ⟨x0, x1, x2, x3, x4⟩ := lit_cells hX1
  generalize Tr.termD x.terms 0 = t0 at *
  generalize Tr.termD x.terms 1 = t1 at *
  have HT0 := shTerm_any w0 P bs t0 w1 hI1 hn0 hp (by omega)
  go_wp2_with fail
  refine HT0.mono ?_
  rintro e w2 ⟨rfl, hI2, hk2⟩
  have hX2 := hk2.get hX1 hXP (by decide)
  have hkw2 := hk1.trans hk2
  clear x0 x1 x2 x3 x4 HT0 hI1 hk1 hX1 a0' a1' a0 a1 hk2
  obtain ⟨x0, x1, x2, x3, x4⟩ := lit_cells hX2
  have HP2 : Hid (∀ w1, PI w0 w1 P (bs ++ Sh.term t0) → Calls Tryz.prog 31 #[.pointer (some ⟨P, 0, none⟩), strV ([32] ++ Sh.sign x.op ++ [32])] w1 fun e w' => e = .returned (.tuple #[]) ∧ PI w0 w' P (bs ++ Sh.term t0 ++ ([32] ++ Sh.sign x.op ++ [32])) ∧ Kept P w1 w') := fun w1 h1 => put_any w0 P _ _ w1 h1 (by simp only [List.length_append, List.length_cons, List.length_nil]; omega)
  go_upto_region 2 with fail
  go_cut [] (fun wx => PI w0 wx P (bs ++ Sh.term t0 ++ ([32] ++ Sh.sign x.op ++ [32])) ∧ Kept P w wx ∧ wx.heap[X]? = some (litObj x (.slice (some ⟨b, off, none⟩) x.terms.length ca)))
  case first =>
    have HSG : Hid (∀ w1, Calls Tryz.prog 78 #[.int .i64 x.op] w1 fun e w' => e = .returned (strV (Sh.sign x.op)) ∧ w' = w1) := fun w1 => shSign_any _ w1
    have hsl : (Sh.sign x.op).length ≤ 2 := Sh.sign_len _
    rw [cat_list] at HP2
    generalize Sh.sign x.op = SG at *
    have hs1 : ¬ 9223372036854775807 < 1 + SG.length := by omega
    have hs2 : ¬ 9223372036854775807 < 1 + SG.length + 1 := by omega
    go_region_law (first
      | (go_simp; go_at_call 78; refine Calls.mono (HSG.out _) ?_; rintro e y2 ⟨rfl, rfl⟩; dsimp only)
      | (go_simp; go_at_call 31; refine Calls.mono (HP2.out _ (PI.same hI2 ⟨rfl, rfl, rfl, Nat.le_refl _, fun _ _ => rfl⟩)) ?_; rintro e y3 ⟨rfl, hI3, hk3⟩; have hk4 := Kept.on3 hkw2 hk3 ⟨rfl, rfl, rfl, Nat.le_refl _, fun _ _ => rfl⟩; have hk5 := Kept.on3 (Lib.OthersKept.refl 5 (some P) w2) hk3 ⟨rfl, rfl, rfl, Nat.le_refl _, fun _ _ => rfl⟩; dsimp only))
    all_goals go_wp2_with fail
    all_goals go_meet
    all_goals exact ⟨hI3, hk4, hk5.get hX2 hXP (by decide)⟩
  case rest =>
    obtain ⟨hI3, hkw3, hX3⟩ := hcut
    generalize wc = w3 at *
    clear x0 x1 x2 x3 x4 hI2 hkw2 hX2 HP2
    obtain ⟨x0, x1, x2, x3, x4⟩ := lit_cells hX3
    have b0' := cell_below hI3.bel b0
    have b1' := cell_below hI3.bel b1
    have HT1 := shTerm_any w0 P _ t1 w3 hI3 hn1 hp (by simp only [List.length_append, List.length_cons, List.length_nil]; omega)
    go_wp2_with fail
    refine HT1.mono ?_
    rintro e w4 ⟨rfl, hI4, hk4⟩
    have hX4 := hk4.get hX3 hXP (by decide)
    have hkw4 := hkw3.trans hk4
    clear x0 x1 x2 x3 x4 hI3 hkw3 hX3 HT1 b0' b1' b0 b1 hk4
    obtain ⟨x0, x1, x2, x3, x4⟩ := lit_cells hX4
    by_cases hk : x.kind = 4
    · have hTX := H3.out hk
      have h3 := hx.three hk
      have hi2 : (2 : Int) < (x.terms.length : Int) := by omega
      have hkb : (x.kind == 4) = true := by rw [hk]; rfl
      obtain ⟨d0, d1⟩ := hc 2 (by omega)
      replace d0 : w0.cell? ⟨b, off + 4, none⟩ = some (.string ⟨(Tr.termD x.terms 2).var.toArray⟩) := d0
      replace d1 : w0.cell? ⟨b, off + 4 + 1, none⟩ = some (.int .i64 (Tr.termD x.terms 2).n) := d1
      have hn2 := hx.num 2 (by omega)
      have hTl : TX.length = 3 + (Sh.term (Tr.termD x.terms 2)).length := by rw [hTX]; simp; omega
      rw [hTX] at HR
      generalize Tr.termD x.terms 2 = t2 at *
      have HP5 := put_any w0 P _ [32, 61, 32] w4 hI4 (by simp only [List.length_append, List.length_cons, List.length_nil]; omega)
      clear hTX H3 H0 hk
      go_wp2_with fail
      refine HP5.mono ?_
      rintro e w5 ⟨rfl, hI5, hk5⟩
      have hX5 := hk5.get hX4 hXP (by decide)
      have hkw5 := hkw4.trans hk5
      clear x0 x1 x2 x3 x4 hI4 hkw4 hX4 HP5 hk5
      obtain ⟨x0, x1, x2, x3, x4⟩ := lit_cells hX5
      have d0' := cell_below hI5.bel d0
      have d1' := cell_below hI5.bel d1
      have HT6 := shTerm_any w0 P _ t2 w5 hI5 hn2 hp (by simp only [List.length_append, List.length_cons, List.length_nil]; omega)
      go_wp2_with fail
      refine HT6.mono ?_
      rintro e w6 ⟨rfl, hI6, hk6⟩
      go_wp2_with fail
      go_end0
      exact ⟨rfl, by rw [HR.out]; simpa only [List.append_assoc] using hI6, hkw5.trans hk6⟩
    · have hTX := H0.out hk
      have hkb : (x.kind == 4) = false := by simpa using hk
      rw [hTX, List.append_nil] at HR
      clear hTX H3 H0 hk
      go_wp2_with fail
      go_end0
      exact ⟨rfl, by rw [HR.out]; simpa only [List.append_assoc] using hI4, hkw4⟩

set_option maxRecDepth 100000 in
set_option maxHeartbeats 2000000 in
theorem shLit_any (w0 : World) (P : Nat) (bs : List UInt8) (x : Tr.Lit) (v : Value) (w : World) (hV : TermsV w0 v x.terms) (h : PI w0 w P bs) (hx : Sh.LitOk x) (hp : Pow w0)
    (hlen : bs.length + (Sh.lit x).length ≤ 140737488355328) :
    Calls Tryz.prog 34 #[.pointer (some ⟨P, 0, none⟩), litVal x v] w fun e w' => e = .returned (.tuple #[]) ∧ PI w0 w' P (bs ++ Sh.lit x) ∧ Kept P w w' := by
  have hV0 := hV
  obtain ⟨ao, ca, rfl, hV'⟩ := hV
  clear hV'
  have hb1 : Below w.heap.size w (w.alloc (litObj x (.slice ao x.terms.length ca))) := (Below.refl _ _).alloc (Nat.le_refl _) _
  have hI1 := h.below hb1
  have hk1 : Kept P w (w.alloc (litObj x (.slice ao x.terms.length ca))) := kept_below hb1
  have hX1 := heap_alloc_new w (litObj x (.slice ao x.terms.length ca))
  have hXP : w.heap.size ≠ P := by have := h.lt; omega
  by_cases h1 : x.kind = 1
  · have hl : Sh.lit x = Sh.atom x.name x.terms 0 := by unfold Sh.lit; rw [if_pos h1]
    rw [hl] at hlen ⊢
    have hk : (x.kind == 1) = true := by rw [h1]; rfl
    clear hl h1
    go_enter Tryz.func34, Tryz.ntmps34
    go_upto_region 1 with fail
    generalize w.alloc (litObj x (.slice ao x.terms.length ca)) = w1 at *
    generalize w.heap.size = X at *
    obtain ⟨x0, x1, x2, x3, x4⟩ := lit_cells hX1
    have HA := atom_any w0 P bs x.name x.terms _ 0 w1 hV0 hI1 hx.len hx.num hp hlen
    go_wp2_with fail
    refine HA.mono ?_
    rintro e w2 ⟨rfl, hI2, hk2⟩
    go_wp2_with fail
    go_end0
    exact ⟨rfl, hI2, hk1.trans hk2⟩
  by_cases h2 : x.kind = 2
  · have hl : Sh.lit x = [110, 111, 116, 32] ++ Sh.atom x.name x.terms 0 := by unfold Sh.lit; rw [if_neg h1, if_pos h2]
    rw [hl] at hlen ⊢
    rw [List.length_append] at hlen
    simp only [List.length_cons, List.length_nil] at hlen
    have hk : (x.kind == 1) = false := by rw [h2]; rfl
    have hk' : (x.kind == 2) = true := by rw [h2]; rfl
    clear hl h1 h2
    go_enter Tryz.func34, Tryz.ntmps34
    go_upto_region 1 with fail
    generalize w.alloc (litObj x (.slice ao x.terms.length ca)) = w1 at *
    generalize w.heap.size = X at *
    obtain ⟨x0, x1, x2, x3, x4⟩ := lit_cells hX1
    have HP := put_any w0 P bs [110, 111, 116, 32] w1 hI1 (by simp only [List.length_cons, List.length_nil]; omega)
    go_wp2_with fail
    refine HP.mono ?_
    rintro e w2 ⟨rfl, hI2, hk2⟩
    have hX2 := hk2.get hX1 hXP (by decide)
    clear x0 x1 x2 x3 x4 HP
    obtain ⟨x0, x1, x2, x3, x4⟩ := lit_cells hX2
    have HA := atom_any w0 P _ x.name x.terms _ 0 w2 hV0 hI2 hx.len hx.num hp (by simp only [List.length_append, List.length_cons, List.length_nil]; omega)
    go_wp2_with fail
    refine HA.mono ?_
    rintro e w3 ⟨rfl, hI3, hk3⟩
    go_wp2_with fail
    go_end0
    exact ⟨rfl, by simpa using hI3, (hk1.trans hk2).trans hk3⟩
  have hl : Sh.lit x = Sh.reck x := by unfold Sh.lit; rw [if_neg h1, if_neg h2]
  rw [hl] at hlen ⊢
  have h22 := hx.two h1 h2
  have hk : (x.kind == 1) = false := by simpa using h1
  have hk' : (x.kind == 2) = false := by simpa using h2
  clear hl h1 h2
  go_enter Tryz.func34, Tryz.ntmps34
  go_upto_region 1 with fail
  generalize w.alloc (litObj x (.slice ao x.terms.length ca)) = w1 at *
  generalize w.heap.size = X at *
  obtain ⟨x0, x1, x2, x3, x4⟩ := lit_cells hX1
  have HA := reck_any w0 P bs x _ w1 hV0 hI1 hx h22 hp hlen
  go_wp2_with fail
  refine HA.mono ?_
  rintro e w2 ⟨rfl, hI2, hk2⟩
  go_wp2_with fail
  go_end0
  exact ⟨rfl, hI2, hk1.trans hk2⟩

end Go.Proofs.YtclbbiocagkmcaaGreatDoor

/- Package show: Show. -/
namespace Go.Proofs.YtclbbiocagkmcaaGreatDoor
open Go.RowKit

set_option maxRecDepth 100000 in
set_option maxHeartbeats 1000000 in
theorem rulePut_any (w0 : World) (P : Nat) (bs : List UInt8) (i : Int) (x : Tr.Lit) (v : Value) (B : Nat) (w : World) (hV : TermsV w0 v x.terms) (h : PI w0 w P bs) (hB : w.heap[B]? = some (.cells #[.pointer (some ⟨P, 0, none⟩)] 37)) (hx : Sh.LitOk x) (hp : Pow w0)
    (hlen : bs.length + (Sh.lit x).length ≤ 140737488355328) :
    Calls Tryz.prog 33 #[.int .i64 i, litVal x v, .pointer (some ⟨B, 0, none⟩)] w fun e w' => e = .returned (.tuple #[]) ∧ PI w0 w' P (bs ++ Sh.lit x) ∧ Kept P w w' := by
  have hV0 := hV
  obtain ⟨ao, ca, rfl, hV'⟩ := hV
  clear hV'
  have hb1 : Below w.heap.size w (w.alloc (litObj x (.slice ao x.terms.length ca))) := (Below.refl _ _).alloc (Nat.le_refl _) _
  have hI1 := h.below hb1
  have hk1 : Kept P w (w.alloc (litObj x (.slice ao x.terms.length ca))) := kept_below hb1
  have hX1 := heap_alloc_new w (litObj x (.slice ao x.terms.length ca))
  have hB1 := (hb1.block _ (heap_lt hB)).trans hB
  go_enter Tryz.func33, Tryz.ntmps33
  go_upto_region 1 with fail
  generalize w.alloc (litObj x (.slice ao x.terms.length ca)) = w1 at *
  generalize w.heap.size = X at *
  obtain ⟨x0, x1, x2, x3, x4⟩ := lit_cells hX1
  have c0 : w1.cell? ⟨B, 0, none⟩ = some (.pointer (some ⟨P, 0, none⟩)) := by rw [Lib.cell_of_heap hB1]; rfl
  have HA := shLit_any w0 P bs x _ w1 hV0 hI1 hx hp hlen
  go_wp2_with fail
  refine HA.mono ?_
  rintro e w2 ⟨rfl, hI2, hk2⟩
  go_wp2_with fail
  go_end0
  exact ⟨rfl, hI2, hk1.trans hk2⟩

set_option maxRecDepth 100000 in
set_option maxHeartbeats 1000000 in
theorem commasL_any (w0 : World) (P : Nat) (bs : List UInt8) (l : List Tr.Lit) (ca : Nat) (ao : Option Addr) (B : Nat) (w : World) (hV : LitsV w0 (.slice ao l.length ca) l) (h : PI w0 w P bs) (hB : w.heap[B]? = some (.cells #[.pointer (some ⟨P, 0, none⟩)] 37)) (hBP : B ≠ P) (hn4 : l.length ≤ 4611686018427387904) (hn : ∀ i, i < l.length → Sh.LitOk (Tr.litD l i)) (hp : Pow w0)
    (hlen : bs.length + (Sh.lits l l.length).length ≤ 140737488355328) :
    Calls Tryz.prog 32 #[.pointer (some ⟨P, 0, none⟩), .slice ao l.length ca, .func (.func 33) #[] #[.pointer (some ⟨B, 0, none⟩)]] w fun e w' => e = .returned (.tuple #[]) ∧ PI w0 w' P (bs ++ Sh.lits l l.length) ∧ Kept P w w' := by
  generalize hN : l.length = N at *
  go_enter Tryz.func32, Tryz.ntmps32
  go_wp2_with fail
  go_loopw [10] (fun i wr => ∃ k : Nat, k ≤ N ∧ i = .int .i64 k ∧ PI w0 wr P (bs ++ Sh.lits l k) ∧ Kept P w wr) (fun i _ => N - (intOf i).toNat)
  case atStart => exact ⟨0, Nat.zero_le _, rfl, by simpa [Sh.lits] using h, Lib.OthersKept.refl _ _ _⟩
  case round =>
    obtain ⟨k, hk, rfl, hI, hkp⟩ := hrel
    by_cases hlt : k < N
    · have hdk : decide (k < N) = true := decide_eq_true hlt
      obtain ⟨ao', ca', hv, hV'⟩ := hV
      injection hv with hv1 hv2 hv3
      subst hv1
      clear hv2 hv3
      rcases hV' with h0 | ⟨b, off, rfl, hc⟩
      · rw [h0] at hN; simp at hN; omega
      obtain ⟨a0, a1, a2, a3, va, a4, hVa⟩ := hc k (by omega)
      replace a0 := cell_below hI.bel a0
      replace a1 := cell_below hI.bel a1
      replace a2 := cell_below hI.bel a2
      replace a3 := cell_below hI.bel a3
      replace a4 := cell_below hI.bel a4
      have hBr := hkp.get hB hBP (by decide)
      have hnk := hn k hlt
      have hle := Sh.lits_len l (k + 1) N (by omega)
      have hST : Sh.lits l (k + 1) = Sh.lits l k ++ Sh.sep k ++ Sh.lit (Tr.litD l k) := by rw [Sh.lits]
      rw [hST] at hle
      have HST : Hid _ := hST
      simp only [List.length_append] at hle
      have HN : Hid (l.length = N) := hN
      clear hc hn hST hN
      generalize Tr.litD l k = t at *
      obtain ⟨aoa, caa, rfl, hVa'⟩ := hVa
      have hVa : TermsV w0 (.slice aoa t.terms.length caa) t.terms := ⟨aoa, caa, rfl, hVa'⟩
      clear hVa'
      have hb1 : Below wr.heap.size wr (wr.alloc (litObj t (.slice aoa t.terms.length caa))) := (Below.refl _ _).alloc (Nat.le_refl _) _
      have hI1 := hI.below hb1
      have hk1 := Kept.below hkp hb1
      have hX1 := heap_alloc_new wr (litObj t (.slice aoa t.terms.length caa))
      have hXP : wr.heap.size ≠ P := by have := hI.lt; omega
      go_upto_if 16 with fail
      generalize wr.alloc (litObj t (.slice aoa t.terms.length caa)) = w1 at *
      generalize wr.heap.size = X at *
      go_cut [] (fun wx => PI w0 wx P (bs ++ Sh.lits l k ++ Sh.sep k) ∧ Kept P w wx ∧ Kept P w1 wx)
      case first =>
        by_cases h0 : 0 < k
        · have hd0 : decide (0 < k) = true := decide_eq_true h0
          have hs : Sh.sep k = [44, 32] := by unfold Sh.sep; rw [if_pos h0]
          have HS : Hid (Sh.sep k = [44, 32]) := hs
          have HP := put_any w0 P _ [44, 32] w1 hI1 (by rw [List.length_append]; rw [hs] at hle; simp only [List.length_cons, List.length_nil] at hle ⊢; omega)
          clear hs
          go_wp2_with fail
          refine HP.mono ?_
          rintro e w2 ⟨rfl, hI2, hk2⟩
          go_wp2_with fail
          go_meet
          exact ⟨by rw [HS.out]; exact hI2, hk1.trans hk2, hk2⟩
        · have hd0 : decide (0 < k) = false := decide_eq_false h0
          have hs : Sh.sep k = [] := by unfold Sh.sep; rw [if_neg h0]
          have HS : Hid (Sh.sep k = []) := hs
          clear hs
          go_wp2_with fail
          go_meet
          exact ⟨by rw [HS.out, List.append_nil]; exact hI1, hk1, Lib.OthersKept.refl _ _ _⟩
      case rest =>
        obtain ⟨hI2, hk2, hk3⟩ := hcut
        generalize wc = w2 at *
        have hX2 := hk3.get hX1 hXP (by decide)
        obtain ⟨x0, x1, x2, x3, x4⟩ := lit_cells hX2
        have HA := rulePut_any w0 P _ k t _ B w2 hVa hI2 (hk2.get hB hBP (by decide)) hnk hp (by simp only [List.length_append]; omega)
        clear hI1 hX1 hI hkp hBr hk1 a0 a1 a2 a3 a4 hb1
        go_wp2_with fail
        refine HA.mono ?_
        rintro e w3 ⟨rfl, hI3, hk4⟩
        have hI3' : PI w0 w3 P (bs ++ Sh.lits l (k + 1)) := by
          rw [HST.out]
          simpa only [List.append_assoc] using hI3
        go_wp2_with fail
        go_roundw
        case rel => exact ⟨k + 1, by omega, by go_num, hI3', hk2.trans hk4⟩
        case measure => simp [intOf]; omega
    · have hdk : decide (k < N) = false := decide_eq_false hlt
      obtain rfl : k = N := by omega
      clear hN
      go_wp2_with fail
      go_end0
      exact ⟨rfl, hI, hkp⟩

/-- What Check has passed of a rule, as far as it is needed here. -/
structure Sh.RuleOk (r : Tr.Rule) : Prop where
  num : ∀ i, i < r.terms.length → Sh.NumOk (Tr.termD r.terms i)
  len : r.terms.length ≤ 4611686018427387904
  lit : ∀ i, i < r.body.length → Sh.LitOk (Tr.litD r.body i)
  lens : r.body.length ≤ 4611686018427387904

set_option maxRecDepth 100000 in
set_option maxHeartbeats 2000000 in
theorem shRule_any (w0 : World) (P : Nat) (bs : List UInt8) (r : Tr.Rule) (v u : Value) (w : World) (hV : TermsV w0 v r.terms) (hU : LitsV w0 u r.body) (h : PI w0 w P bs) (hr : Sh.RuleOk r) (hp : Pow w0)
    (hlen : bs.length + (Sh.rule r).length ≤ 140737488355328) :
    Calls Tryz.prog 15 #[.pointer (some ⟨P, 0, none⟩), ruleVal r v u] w fun e w' => e = .returned (.tuple #[]) ∧ PI w0 w' P (bs ++ Sh.rule r) ∧ Kept P w w' := by
  have hV0 := hV
  have hU0 := hU
  obtain ⟨ao, ca, rfl, hV'⟩ := hV
  obtain ⟨bo, cb, rfl, hU'⟩ := hU
  clear hV' hU'
  have hmf : ∀ (fn : Fn) (first cap : Array Value) (w : World), (Instr.makeFunc fn first cap).run Tryz.prog w = .ok (.func fn first cap) w := fun _ _ _ _ => rfl
  have hb1 : Below w.heap.size w ((w.alloc (.cells #[.pointer (some ⟨P, 0, none⟩)] 37)).alloc (rulObj r (.slice ao r.terms.length ca) (.slice bo r.body.length cb))) := ((Below.refl _ _).alloc (Nat.le_refl _) _).alloc (by simp) _
  have hI1 := h.below hb1
  have hk1 : Kept P w ((w.alloc (.cells #[.pointer (some ⟨P, 0, none⟩)] 37)).alloc (rulObj r (.slice ao r.terms.length ca) (.slice bo r.body.length cb))) := kept_below hb1
  have hB1 : ((w.alloc (.cells #[.pointer (some ⟨P, 0, none⟩)] 37)).alloc (rulObj r (.slice ao r.terms.length ca) (.slice bo r.body.length cb))).heap[w.heap.size]? = some (.cells #[.pointer (some ⟨P, 0, none⟩)] 37) := (heap_alloc_old _ _ (by simp)).trans (heap_alloc_new w _)
  have hX1 : ((w.alloc (.cells #[.pointer (some ⟨P, 0, none⟩)] 37)).alloc (rulObj r (.slice ao r.terms.length ca) (.slice bo r.body.length cb))).heap[w.heap.size + 1]? = some (rulObj r (.slice ao r.terms.length ca) (.slice bo r.body.length cb)) := by
    have := heap_alloc_new (w.alloc (.cells #[.pointer (some ⟨P, 0, none⟩)] 37)) (rulObj r (.slice ao r.terms.length ca) (.slice bo r.body.length cb))
    simpa using this
  have hBP : w.heap.size ≠ P := by have := h.lt; omega
  have hXP : w.heap.size + 1 ≠ P := by have := h.lt; omega
  have hl : (Sh.rule r).length = (Sh.atom r.name r.terms r.fold).length + (Sh.tail r.body).length + 2 := by unfold Sh.rule; simp; omega
  rw [hl] at hlen
  have HR : Hid (Sh.rule r = Sh.atom r.name r.terms r.fold ++ Sh.tail r.body ++ [46, 10]) := rfl
  have HT1 : Hid (0 < r.body.length → Sh.tail r.body = [32, 58, 45, 32] ++ Sh.lits r.body r.body.length) := fun h => by unfold Sh.tail; rw [if_pos h]
  have HT0 : Hid (¬ 0 < r.body.length → Sh.tail r.body = []) := fun h => by unfold Sh.tail; rw [if_neg h]
  clear hl h hb1
  generalize Sh.rule r = RX at *
  generalize Sh.tail r.body = TX at *
  go_enter Tryz.func15, Tryz.ntmps15
  go_upto_region 1 with fail
  generalize (w.alloc (.cells #[.pointer (some ⟨P, 0, none⟩)] 37)).alloc (rulObj r (.slice ao r.terms.length ca) (.slice bo r.body.length cb)) = w1 at *
  generalize w.heap.size + 1 = X at *
  generalize w.heap.size = B at *
  obtain ⟨x0, x1, x2, x3, x4⟩ := rul_cells hX1
  have c0 : w1.cell? ⟨B, 0, none⟩ = some (.pointer (some ⟨P, 0, none⟩)) := by rw [Lib.cell_of_heap hB1]; rfl
  have HA := atom_any w0 P bs r.name r.terms _ r.fold w1 hV0 hI1 hr.len hr.num hp (by omega)
  go_wp2_with fail
  refine HA.mono ?_
  rintro e w2 ⟨rfl, hI2, hk2⟩
  have hX2 := hk2.get hX1 hXP (by decide)
  have hB2 := hk2.get hB1 hBP (by decide)
  have hkw2 := hk1.trans hk2
  clear x0 x1 x2 x3 x4 c0 HA hI1 hk1 hX1 hB1 hk2
  obtain ⟨x0, x1, x2, x3, x4⟩ := rul_cells hX2
  have c0 : w2.cell? ⟨B, 0, none⟩ = some (.pointer (some ⟨P, 0, none⟩)) := by rw [Lib.cell_of_heap hB2]; rfl
  go_upto_if 15 with fail
  go_cut [] (fun wx => PI w0 wx P (bs ++ Sh.atom r.name r.terms r.fold ++ TX) ∧ Kept P w wx ∧ wx.heap[B]? = some (.cells #[.pointer (some ⟨P, 0, none⟩)] 37))
  case first =>
    by_cases hb : 0 < r.body.length
    · have hTX := HT1.out hb
      have hTl : TX.length = 4 + (Sh.lits r.body r.body.length).length := by rw [hTX]; simp; omega
      have HTX : Hid _ := hTX
      have hd : decide (0 < r.body.length) = true := decide_eq_true hb
      have HP3 := put_any w0 P _ [32, 58, 45, 32] w2 hI2 (by simp only [List.length_append, List.length_cons, List.length_nil]; omega)
      clear hTX HT1 HT0 HR
      go_wp2_with fail
      refine HP3.mono ?_
      rintro e w3 ⟨rfl, hI3, hk3⟩
      have hX3 := hk3.get hX2 hXP (by decide)
      have hB3 := hk3.get hB2 hBP (by decide)
      clear x0 x1 x2 x3 x4 c0 HP3
      obtain ⟨x0, x1, x2, x3, x4⟩ := rul_cells hX3
      have c0 : w3.cell? ⟨B, 0, none⟩ = some (.pointer (some ⟨P, 0, none⟩)) := by rw [Lib.cell_of_heap hB3]; rfl
      have HL := commasL_any w0 P _ r.body cb bo B w3 hU0 hI3 hB3 hBP hr.lens hr.lit hp (by simp only [List.length_append, List.length_cons, List.length_nil]; omega)
      go_wp2_with fail
      refine HL.mono ?_
      rintro e w4 ⟨rfl, hI4, hk4⟩
      go_wp2_with fail
      go_meet
      exact ⟨by rw [HTX.out]; simpa only [List.append_assoc] using hI4, (hkw2.trans hk3).trans hk4, hk4.get hB3 hBP (by decide)⟩
    · have hTX := HT0.out hb
      have HTX : Hid _ := hTX
      have hd : decide (0 < r.body.length) = false := decide_eq_false hb
      clear hTX HT1 HT0 HR
      go_wp2_with fail
      go_meet
      exact ⟨by rw [HTX.out, List.append_nil]; exact hI2, hkw2, hB2⟩
  case rest =>
    obtain ⟨hI5, hkw5, hB5⟩ := hcut
    generalize wc = w5 at *
    clear x0 x1 x2 x3 x4 c0 hI2 hkw2 hX2 hB2
    have c0 : w5.cell? ⟨B, 0, none⟩ = some (.pointer (some ⟨P, 0, none⟩)) := by rw [Lib.cell_of_heap hB5]; rfl
    have HP6 := put_any w0 P _ [46, 10] w5 hI5 (by simp only [List.length_append, List.length_cons, List.length_nil]; omega)
    go_wp2_with fail
    refine HP6.mono ?_
    rintro e w6 ⟨rfl, hI6, hk6⟩
    go_wp2_with fail
    go_end0
    exact ⟨rfl, by rw [HR.out]; simpa only [List.append_assoc] using hI6, hkw5.trans hk6⟩

theorem str_nums (bs : List UInt8) : strOfNums (bs.map fun b => (b.toNat : Int)) = ⟨bs.toArray⟩ := by
  have h : (bs.map fun b => (b.toNat : Int)).map (fun n => UInt8.ofNat n.toNat) = bs := by
    rw [List.map_map]
    conv => rhs; rw [← List.map_id bs]
    apply List.map_congr_left
    intro b _
    simp
  apply ByteArray.ext
  apply Array.toList_inj.1
  rw [strOfNums_data, h]

set_option maxRecDepth 100000 in
set_option maxHeartbeats 1000000 in
theorem whole_any (w0 : World) (P : Nat) (bs : List UInt8) (w : World) (h : PI w0 w P bs) : Calls Tryz.prog 16 #[.pointer (some ⟨P, 0, none⟩)] w fun e w' => e = .returned (strV bs) ∧ w' = w := by
  obtain ⟨v, hbk, hown⟩ := h.prt
  have c0 : w.cell? ⟨P, 0, none⟩ = some v := by rw [Lib.cell_of_heap hbk]; rfl
  have HC : Hid ((convert 38 9 v).run Tryz.prog w = .ok (strV bs) w) := by
    show _ = _
    rcases hown.2 with ⟨hv, h0⟩ | ⟨g, cap, cur, hv, _⟩
    · have hb0 : bs = [] := List.eq_nil_of_length_eq_zero h0
      rw [hv, hb0]
      exact run_convert_bytes_nil w 38 5 Tryz.underlying38 Tryz.underlying5 0 0 9 Tryz.underlying9
    · subst hv
      rw [run_convert_bytes_arg w 38 5 Tryz.underlying38 Tryz.underlying5 g 0 bs.length cap (bs.map fun b => (b.toNat : Int)) (by simp) ?_ 9 Tryz.underlying9, str_nums]
      intro i hi
      rw [Nat.zero_add, World.ownsRow.cellAt hown i (by omega)]
      simp [hi]
  obtain ⟨ao, cap, rfl⟩ := own_slice hown
  go_enter Tryz.func16, Tryz.ntmps16
  go_wp2_with fail
  rw [HC.out]
  simp only [Result.andThen]
  rw [Oper.upon_value]
  go_wp2
  go_ret
  exact ⟨rfl, rfl⟩

end Go.Proofs.YtclbbiocagkmcaaGreatDoor

