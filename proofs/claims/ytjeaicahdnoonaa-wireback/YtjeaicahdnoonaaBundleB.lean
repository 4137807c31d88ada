/- Own texts, one behind the other (part 2). -/
import Derived.Test.YtjeaicahdnoonaaBundleA
import Derived.Test.YtjeaicahdnoonaaRows
import Derived.Laws.IdiomStrings
import Derived.Laws.BitsAllLaws
import Derived.Laws.Strings2
import Derived.Lib.BufferMore
import Derived.Laws.EntriesVeiled
/- Whether some of a list is so. -/
namespace Go.Proofs.Ytjeaicahdnoonaa
open Go.RowKit
theorem any_step {α : Type} (P : α → Bool) (d : α) (l : List α) (k : Nat) (hk : k < l.length) (h : l.any P = (l.drop k).any P) : l.any P = (P (l.getD k d) || (l.drop (k + 1)).any P) := by
  rw [h, List.drop_eq_getElem_cons hk, List.any_cons, List.getD_eq_getElem?_getD, List.getElem?_eq_getElem hk]
  rfl
theorem any_end {α : Type} (P : α → Bool) (l : List α) (k : Nat) (hk : ¬ k < l.length) (h : l.any P = (l.drop k).any P) : l.any P = false := by
  rw [h, List.drop_of_length_le (by omega)]
  rfl

set_option maxRecDepth 100000 in
set_option maxHeartbeats 1000000 in
theorem wrongNum_any (n : Int) (w : World) : Calls Try.prog 59 #[.int .i64 n] w fun e w' => e = .returned (.bool (!Wr.numOk n)) ∧ w' = w := by
  have HR : Hid (Wr.numOk n = (decide (-1000000 ≤ n) && decide (n ≤ 1000000))) := by
    show _ = _
    unfold Wr.numOk
    simp only [Bool.decide_and]
  by_cases h1 : n < -1000000
  · have d1 : decide (n < -1000000) = true := decide_eq_true h1
    go_enter Try.func59, Try.ntmps59
    go_wp2_with fail
    go_ret
    exact ⟨by rw [HR.out, decide_eq_false (p := -1000000 ≤ n) (by omega)]; rfl, rfl⟩
  · have d1 : decide (n < -1000000) = false := decide_eq_false h1
    by_cases h2 : 1000000 < n
    · have d2 : decide (1000000 < n) = true := decide_eq_true h2
      go_enter Try.func59, Try.ntmps59
      go_wp2_with fail
      go_ret
      exact ⟨by rw [HR.out, decide_eq_true (p := -1000000 ≤ n) (by omega), decide_eq_false (p := n ≤ 1000000) (by omega)]; rfl, rfl⟩
    · have d2 : decide (1000000 < n) = false := decide_eq_false h2
      go_enter Try.func59, Try.ntmps59
      go_wp2_with fail
      go_ret
      exact ⟨by rw [HR.out, decide_eq_true (p := -1000000 ≤ n) (by omega), decide_eq_true (p := n ≤ 1000000) (by omega)]; rfl, rfl⟩

set_option maxRecDepth 100000 in
set_option maxHeartbeats 1000000 in
theorem indexN_any (l : List Int) (v : Value) (w : World) (hV : IntsV w v l) (hl : l.length ≤ 1000000) : Calls Try.prog 63 #[v, .func (.func 59) #[] #[]] w fun e w' => ∃ r : Int, e = .returned (.int .i64 r) ∧ (decide (0 ≤ r) = l.any (fun n => !Wr.numOk n)) ∧ Below w.heap.size w w' := by
  obtain ⟨ao, cap, rfl, hA⟩ := hV
  have HA : Hid (IntsAt w ao l) := hA
  clear hA
  go_enter Try.func63, Try.ntmps63
  go_wp2_with fail
  go_loopw [8] (fun iv wr => ∃ k : Nat, k ≤ l.length ∧ iv = .int .i64 k ∧ Hid (l.any (fun n => !Wr.numOk n) = (l.drop k).any (fun n => !Wr.numOk n)) ∧ Below w.heap.size w wr) (fun iv _ => l.length - (intOf iv).toNat)
  case atStart => exact ⟨0, Nat.zero_le _, rfl, rfl, Below.refl _ _⟩
  case round =>
    obtain ⟨k, hk, rfl, HR, hbw⟩ := hrel
    by_cases hlt : k < l.length
    · have HD : Hid _ := any_step (fun n => !Wr.numOk n) 0 l k hlt HR.out
      obtain ⟨b, off, rfl, p0⟩ := ints_at HA.out k hlt
      have a0 := cell_below hbw p0
      clear p0 HR
      have HD2 : Hid (l.any (fun n => !Wr.numOk n) = ((fun n => !Wr.numOk n) (Sc.intD l k) || (l.drop (k + 1)).any (fun n => !Wr.numOk n))) := HD.out
      clear HD
      generalize Sc.intD l k = x at *
      have HC : Hid (∀ z, Calls Try.prog 59 #[.int .i64 x] z fun e w' => e = .returned (.bool ((fun n => !Wr.numOk n) x)) ∧ Below z.heap.size z w') := fun z => (wrongNum_any x z).mono fun e w' h => ⟨h.1, by rw [h.2]; exact Below.refl _ _⟩
      generalize (fun n => !Wr.numOk n) x = bx at *
      cases bx
      · go_wp2_with (go_at_call 59; refine Calls.mono (HC.out _) ?_; rintro e z1 ⟨rfl, hg1⟩)
        have hb1 := hbw.trans (hg1.mono hbw.size)
        go_roundw
        case rel => exact ⟨k + 1, hlt, by go_num, HD2.out.trans (by rw [Bool.false_or]), hb1⟩
        case measure => simp [intOf]; omega
      · go_wp2_with (go_at_call 59; refine Calls.mono (HC.out _) ?_; rintro e z1 ⟨rfl, hg1⟩)
        go_ret
        exact ⟨k, rfl, by rw [HD2.out, decide_eq_true (by omega)]; rfl, hbw.trans (hg1.mono hbw.size)⟩
    · have hdd : decide (k < l.length) = false := decide_eq_false hlt
      have HE : Hid (l.any (fun n => !Wr.numOk n) = false) := any_end (fun n => !Wr.numOk n) l k hlt HR.out
      go_wp2_with fail
      go_ret
      exact ⟨-1, rfl, by rw [HE.out]; rfl, hbw⟩

set_option maxRecDepth 100000 in
set_option maxHeartbeats 1000000 in
theorem containsN_any (l : List Int) (v : Value) (w : World) (hV : IntsV w v l) (hl : l.length ≤ 1000000) : Calls Try.prog 58 #[v, .func (.func 59) #[] #[]] w fun e w' => e = .returned (.bool (l.any (fun n => !Wr.numOk n))) ∧ Below w.heap.size w w' := by
  obtain ⟨ao, cap, rfl, _⟩ := id hV
  have HC : Hid _ := indexN_any l _ w hV hl
  generalize l.any (fun n => !Wr.numOk n) = bb at *
  clear hV
  go_enter Try.func58, Try.ntmps58
  go_wp2_with (go_at_call 63; refine Calls.mono HC.out ?_; rintro e z1 ⟨r, rfl, hr, hg1⟩)
  go_ret
  exact ⟨by rw [← hr]; rfl, hg1⟩

set_option maxRecDepth 100000 in
set_option maxHeartbeats 1000000 in
theorem wrongFact_any (f : Rl.Fc) (v : Value) (w : World) (hV : IntsV w v f.args) (hf : FFit f) : Calls Try.prog 34 #[fcVal f.pred v] w fun e w' => e = .returned (.bool (!Wr.factOk f)) ∧ Below w.heap.size w w' := by
  obtain ⟨p, x⟩ := f
  have hV : IntsV w v x := hV
  have hf : x.length ≤ 9223372036854775807 := hf
  obtain ⟨ao, cap, rfl, _⟩ := id hV
  have hb : Below w.heap.size w (w.alloc (.cells #[.int .i64 p, .slice ao x.length cap] 49)) := (Gr.refl w).alloc _ |>.below
  have HC : Hid (x.length ≤ 1000000 → Calls Try.prog 58 #[.slice ao x.length cap, .func (.func 59) #[] #[]] (w.alloc (.cells #[.int .i64 p, .slice ao x.length cap] 49)) fun e w' => e = .returned (.bool (x.any (fun n => !Wr.numOk n))) ∧ Below (w.alloc (.cells #[.int .i64 p, .slice ao x.length cap] 49)).heap.size (w.alloc (.cells #[.int .i64 p, .slice ao x.length cap] 49)) w') := fun h => containsN_any x _ _ (intsV_below hV hb) h
  have HBL : Hid _ := hb
  have HB : Hid _ := heap_alloc_new w (.cells #[.int .i64 p, .slice ao x.length cap] 49)
  have HR : Hid ((!Wr.factOk ⟨p, x⟩) = (!decide (0 ≤ p) || (!decide (p ≤ 9) || (!decide (x.length ≤ 3) || x.any (fun n => !Wr.numOk n))))) := by
    show _ = _
    unfold Wr.factOk
    simp only [Bool.decide_and, Bool.not_and, Bool.or_assoc]
    rw [List.not_all_eq_any_not]
  clear hV hb
  go_enter Try.func34, Try.ntmps34
  go_upto_region 1 with fail
  generalize w.alloc (.cells #[.int .i64 p, .slice ao x.length cap] 49) = w2 at *
  have c0 : w2.cell? ⟨w.heap.size, 0, none⟩ = some (.int .i64 p) := by rw [Lib.cell_of_heap HB.out]; rfl
  have c1 : w2.cell? ⟨w.heap.size, 1, none⟩ = some (.slice ao x.length cap) := by rw [Lib.cell_of_heap HB.out]; rfl
  by_cases h1 : p < 0
  · have d1 : decide (p < 0) = true := decide_eq_true h1
    go_wp2_with fail
    go_ret
    exact ⟨by rw [HR.out, decide_eq_false (p := 0 ≤ p) (by omega)]; rfl, HBL.out⟩
  · have d1 : decide (p < 0) = false := decide_eq_false h1
    by_cases h2 : 10 ≤ p
    · have d2 : decide (10 ≤ p) = true := decide_eq_true h2
      go_wp2_with fail
      go_ret
      exact ⟨by rw [HR.out, decide_eq_true (p := 0 ≤ p) (by omega), decide_eq_false (p := p ≤ 9) (by omega)]; rfl, HBL.out⟩
    · have d2 : decide (10 ≤ p) = false := decide_eq_false h2
      by_cases h3 : 3 < x.length
      · have d3 : decide (3 < x.length) = true := decide_eq_true h3
        have d3i : decide ((3 : Int) < (x.length : Int)) = true := decide_eq_true (by omega)
        go_wp2_with fail
        go_ret
        exact ⟨by rw [HR.out, decide_eq_true (p := 0 ≤ p) (by omega), decide_eq_true (p := p ≤ 9) (by omega), decide_eq_false (p := x.length ≤ 3) (by omega)]; rfl, HBL.out⟩
      · have d3 : decide (3 < x.length) = false := decide_eq_false h3
        have d3i : decide ((3 : Int) < (x.length : Int)) = false := decide_eq_false (by omega)
        have HC2 : Hid _ := HC.out (by omega)
        rw [decide_eq_true (p := 0 ≤ p) (by omega), decide_eq_true (p := p ≤ 9) (by omega), decide_eq_true (p := x.length ≤ 3) (by omega)] at HR
        generalize x.any (fun n => !Wr.numOk n) = bb at *
        clear HC
        go_wp2_with (go_at_call 58; refine Calls.mono HC2.out ?_; rintro e z1 ⟨rfl, hg1⟩)
        go_ret
        exact ⟨by rw [HR.out]; rfl, HBL.out.trans (hg1.mono HBL.out.size)⟩

set_option maxRecDepth 100000 in
set_option maxHeartbeats 1000000 in
theorem indexId_any (l : List Wr.Id) (v : Value) (w : World) (hV : IdsV w v l) (hl : l.length ≤ 1000000) : Calls Try.prog 53 #[v, .func (.func 28) #[] #[]] w fun e w' => ∃ r : Int, e = .returned (.int .i64 r) ∧ (decide (0 ≤ r) = l.any (fun x => !Wr.isId x)) ∧ Below w.heap.size w w' := by
  obtain ⟨ao, cap, rfl, _, hA⟩ := hV
  have HA : Hid (IdsAt w ao l) := hA
  clear hA
  go_enter Try.func53, Try.ntmps53
  go_wp2_with fail
  go_loopw [8] (fun iv wr => ∃ k : Nat, k ≤ l.length ∧ iv = .int .i64 k ∧ Hid (l.any (fun x => !Wr.isId x) = (l.drop k).any (fun x => !Wr.isId x)) ∧ Below w.heap.size w wr) (fun iv _ => l.length - (intOf iv).toNat)
  case atStart => exact ⟨0, Nat.zero_le _, rfl, rfl, Below.refl _ _⟩
  case round =>
    obtain ⟨k, hk, rfl, HR, hbw⟩ := hrel
    by_cases hlt : k < l.length
    · have HD : Hid _ := any_step (fun x => !Wr.isId x) ⟨0, 0⟩ l k hlt HR.out
      obtain ⟨b, off, rfl, p0, p1⟩ := ids_at HA.out k hlt
      have a0 := cell_below hbw p0
      have a1 := cell_below hbw p1
      clear p0 p1 HR
      have HD2 : Hid (l.any (fun x => !Wr.isId x) = ((fun x => !Wr.isId x) (idD l k) || (l.drop (k + 1)).any (fun x => !Wr.isId x))) := HD.out
      clear HD
      generalize idD l k = x at *
      obtain ⟨xa, xn⟩ := x
      have HC : Hid (∀ z, Calls Try.prog 28 #[idVal ⟨xa, xn⟩] z fun e w' => e = .returned (.bool ((fun x => !Wr.isId x) ⟨xa, xn⟩)) ∧ Below z.heap.size z w') := fun z => (isWrongId_any ⟨xa, xn⟩ z).mono fun e w' h => ⟨h.1, h.2.below⟩
      generalize (fun x => !Wr.isId x) ⟨xa, xn⟩ = bx at *
      cases bx
      · go_wp2_with (go_at_call 28; refine Calls.mono (HC.out _) ?_; rintro e z1 ⟨rfl, hg1⟩)
        have hb1 := hbw.trans (hg1.mono hbw.size)
        go_roundw
        case rel => exact ⟨k + 1, hlt, by go_num, HD2.out.trans (by rw [Bool.false_or]), hb1⟩
        case measure => simp [intOf]; omega
      · go_wp2_with (go_at_call 28; refine Calls.mono (HC.out _) ?_; rintro e z1 ⟨rfl, hg1⟩)
        go_ret
        exact ⟨k, rfl, by rw [HD2.out, decide_eq_true (by omega)]; rfl, hbw.trans (hg1.mono hbw.size)⟩
    · have hdd : decide (k < l.length) = false := decide_eq_false hlt
      have HE : Hid (l.any (fun x => !Wr.isId x) = false) := any_end (fun x => !Wr.isId x) l k hlt HR.out
      go_wp2_with fail
      go_ret
      exact ⟨-1, rfl, by rw [HE.out]; rfl, hbw⟩

set_option maxRecDepth 100000 in
set_option maxHeartbeats 1000000 in
theorem containsId_any (l : List Wr.Id) (v : Value) (w : World) (hV : IdsV w v l) (hl : l.length ≤ 1000000) : Calls Try.prog 29 #[v, .func (.func 28) #[] #[]] w fun e w' => e = .returned (.bool (l.any (fun x => !Wr.isId x))) ∧ Below w.heap.size w w' := by
  obtain ⟨ao, cap, rfl, _⟩ := id hV
  have HC : Hid _ := indexId_any l _ w hV hl
  generalize l.any (fun x => !Wr.isId x) = bb at *
  clear hV
  go_enter Try.func29, Try.ntmps29
  go_wp2_with (go_at_call 53; refine Calls.mono HC.out ?_; rintro e z1 ⟨r, rfl, hr, hg1⟩)
  go_ret
  exact ⟨by rw [← hr]; rfl, hg1⟩

set_option maxRecDepth 100000 in
set_option maxHeartbeats 1000000 in
theorem indexF_any (l : List Rl.Fc) (v : Value) (w : World) (hV : FactsV w v l) (hl : l.length ≤ 1000000) (hf : ∀ f, f ∈ l → FFit f) : Calls Try.prog 57 #[v, .func (.func 34) #[] #[]] w fun e w' => ∃ r : Int, e = .returned (.int .i64 r) ∧ (decide (0 ≤ r) = l.any (fun x => !Wr.factOk x)) ∧ Below w.heap.size w w' := by
  obtain ⟨ao, cap, rfl, _, hA⟩ := hV
  have HA : Hid (FactsAt w ao l) := hA
  have HF : Hid (∀ f, f ∈ l → FFit f) := hf
  clear hf
  clear hA
  go_enter Try.func57, Try.ntmps57
  go_wp2_with fail
  go_loopw [8] (fun iv wr => ∃ k : Nat, k ≤ l.length ∧ iv = .int .i64 k ∧ Hid (l.any (fun x => !Wr.factOk x) = (l.drop k).any (fun x => !Wr.factOk x)) ∧ Below w.heap.size w wr) (fun iv _ => l.length - (intOf iv).toNat)
  case atStart => exact ⟨0, Nat.zero_le _, rfl, rfl, Below.refl _ _⟩
  case round =>
    obtain ⟨k, hk, rfl, HR, hbw⟩ := hrel
    by_cases hlt : k < l.length
    · have HD : Hid _ := any_step (fun x => !Wr.factOk x) ⟨0, []⟩ l k hlt HR.out
      obtain ⟨b, off, rfl, p0, fv, p1, hIv⟩ := facts_at HA.out k hlt
      have a0 := cell_below hbw p0
      have a1 := cell_below hbw p1
      have HFI : Hid (FFit (Rl.factD l k)) := HF.out _ (factD_mem l k hlt)
      have HIV : Hid (IntsV wr fv (Rl.factD l k).args) := intsV_below hIv hbw
      obtain ⟨af, cf, rfl, _⟩ := hIv
      clear p0 p1 HR
      have HD2 : Hid (l.any (fun x => !Wr.factOk x) = ((fun x => !Wr.factOk x) (Rl.factD l k) || (l.drop (k + 1)).any (fun x => !Wr.factOk x))) := HD.out
      clear HD
      generalize Rl.factD l k = x at *
      have HC : Hid (∀ z, z = wr → Calls Try.prog 34 #[fcVal x.pred (.slice af x.args.length cf)] z fun e w' => e = .returned (.bool ((fun x => !Wr.factOk x) x)) ∧ Below z.heap.size z w') := fun z hz => wrongFact_any x _ z (by rw [hz]; exact HIV.out) HFI.out
      generalize (fun x => !Wr.factOk x) x = bx at *
      cases bx
      · go_wp2_with (go_at_call 34; refine Calls.mono (HC.out _ rfl) ?_; rintro e z1 ⟨rfl, hg1⟩)
        have hb1 := hbw.trans (hg1.mono hbw.size)
        go_roundw
        case rel => exact ⟨k + 1, hlt, by go_num, HD2.out.trans (by rw [Bool.false_or]), hb1⟩
        case measure => simp [intOf]; omega
      · go_wp2_with (go_at_call 34; refine Calls.mono (HC.out _ rfl) ?_; rintro e z1 ⟨rfl, hg1⟩)
        go_ret
        exact ⟨k, rfl, by rw [HD2.out, decide_eq_true (by omega)]; rfl, hbw.trans (hg1.mono hbw.size)⟩
    · have hdd : decide (k < l.length) = false := decide_eq_false hlt
      have HE : Hid (l.any (fun x => !Wr.factOk x) = false) := any_end (fun x => !Wr.factOk x) l k hlt HR.out
      go_wp2_with fail
      go_ret
      exact ⟨-1, rfl, by rw [HE.out]; rfl, hbw⟩

set_option maxRecDepth 100000 in
set_option maxHeartbeats 1000000 in
theorem containsF_any (l : List Rl.Fc) (v : Value) (w : World) (hV : FactsV w v l) (hl : l.length ≤ 1000000) (hf : ∀ f, f ∈ l → FFit f) : Calls Try.prog 33 #[v, .func (.func 34) #[] #[]] w fun e w' => e = .returned (.bool (l.any (fun x => !Wr.factOk x))) ∧ Below w.heap.size w w' := by
  obtain ⟨ao, cap, rfl, _⟩ := id hV
  have HC : Hid _ := indexF_any l _ w hV hl hf
  generalize l.any (fun x => !Wr.factOk x) = bb at *
  clear hV hf
  go_enter Try.func33, Try.ntmps33
  go_wp2_with (go_at_call 57; refine Calls.mono HC.out ?_; rintro e z1 ⟨r, rfl, hr, hg1⟩)
  go_ret
  exact ⟨by rw [← hr]; rfl, hg1⟩

end Go.Proofs.Ytjeaicahdnoonaa

/- Check of an update. -/
namespace Go.Proofs.Ytjeaicahdnoonaa
open Go.RowKit
abbrev upVal (u : Wr.Up) (vp vs vt : Value) : Value := .agg #[.int .i64 u.id.a, .int .i64 u.id.n, vp, vs, vt]
theorem beqId (x y : Wr.Id) : (x == y) = ((x.a == y.a) && (x.n == y.n)) := by
  rw [Bool.eq_iff_iff, beq_iff_eq, Bool.and_eq_true, beq_iff_eq, beq_iff_eq]
  obtain ⟨a, n⟩ := x
  obtain ⟨b, m⟩ := y
  rw [Wr.Id.mk.injEq]
def Wr.has (l : List Wr.Id) (x : Wr.Id) : Bool := l.contains x
theorem any_has (l : List Wr.Id) (x : Wr.Id) : Wr.has l x = l.any (fun y => y == x) := by
  unfold Wr.has
  rw [List.contains_eq_any_beq]
  congr 1
  funext y
  rw [Bool.eq_iff_iff, beq_iff_eq, beq_iff_eq]
  exact eq_comm

set_option maxRecDepth 100000 in
set_option maxHeartbeats 1000000 in
theorem indexOf_any (l : List Wr.Id) (x : Wr.Id) (v : Value) (w : World) (hV : IdsV w v l) (hl : l.length ≤ 1000000) : Calls Try.prog 62 #[v, idVal x] w fun e w' => ∃ r : Int, e = .returned (.int .i64 r) ∧ (decide (0 ≤ r) = Wr.has l x) ∧ Below w.heap.size w w' := by
  obtain ⟨ao, cap, rfl, _, hA⟩ := hV
  obtain ⟨xa, xn⟩ := x
  have HA : Hid (IdsAt w ao l) := hA
  have HG : Hid (Below w.heap.size w (w.alloc (.cells #[.int .i64 xa, .int .i64 xn] 23))) := ((Gr.refl w).alloc _).below
  have HB : Hid _ := heap_alloc_new w (.cells #[.int .i64 xa, .int .i64 xn] 23)
  clear hA
  go_enter Try.func62, Try.ntmps62
  go_upto_region 1 with fail
  generalize w.alloc (.cells #[.int .i64 xa, .int .i64 xn] 23) = w2 at *
  have c0 : w2.cell? ⟨w.heap.size, 0, none⟩ = some (.int .i64 xa) := by rw [Lib.cell_of_heap HB.out]; rfl
  have c1 : w2.cell? ⟨w.heap.size, 1, none⟩ = some (.int .i64 xn) := by rw [Lib.cell_of_heap HB.out]; rfl
  clear HB
  go_wp2_with fail
  go_loopw [8] (fun iv wr => ∃ k nq : Nat, k ≤ l.length ∧ iv = .int .i64 k ∧ Hid (l.any (fun y => y == (⟨xa, xn⟩ : Wr.Id)) = (l.drop k).any (fun y => y == (⟨xa, xn⟩ : Wr.Id))) ∧ wr = w2.drewN nq) (fun iv _ => l.length - (intOf iv).toNat)
  case atStart => exact ⟨0, 0, Nat.zero_le _, rfl, rfl, rfl⟩
  case round =>
    obtain ⟨k, nq, hk, rfl, HR, rfl⟩ := hrel
    have HBW : Hid (Below w.heap.size w (w2.drewN nq)) := HG.out.trans ((blw_drewN w2 nq).mono HG.out.size)
    by_cases hlt : k < l.length
    · have HD : Hid _ := any_step (fun y => y == (⟨xa, xn⟩ : Wr.Id)) ⟨0, 0⟩ l k hlt HR.out
      obtain ⟨b, off, rfl, p0, p1⟩ := ids_at HA.out k hlt
      have a0 := cell_below HG.out p0
      have a1 := cell_below HG.out p1
      clear p0 p1 HR
      have HD2 : Hid (l.any (fun y => y == (⟨xa, xn⟩ : Wr.Id)) = ((idD l k == (⟨xa, xn⟩ : Wr.Id)) || (l.drop (k + 1)).any (fun y => y == (⟨xa, xn⟩ : Wr.Id)))) := HD.out
      clear HD
      generalize idD l k = z at *
      obtain ⟨za, zn⟩ := z
      rw [beqId] at HD2
      by_cases e1 : za = xa
      · by_cases e2 : zn = xn
        · subst e1 e2
          have g1 : (za == za) = true := by simp
          have g2 : (zn == zn) = true := by simp
          have HE : Hid (l.any (fun y => y == (⟨za, zn⟩ : Wr.Id)) = true) := by
            show _ = _
            rw [HD2.out]
            simp
          go_upto_region 4 with fail
          go_quiet (fail)
          go_wp2_with fail
          go_ret
          exact ⟨k, rfl, by rw [any_has, HE.out, decide_eq_true (by omega)], HG.out.trans ((blw_drewN w2 _).mono HG.out.size)⟩
        · have g2 : (zn == xn) = false := by simpa using e2
          have g3 : (xn == zn) = false := by simpa using fun h => e2 h.symm
          subst e1
          have g1 : (za == za) = true := by simp
          have HE : Hid (l.any (fun y => y == (⟨za, xn⟩ : Wr.Id)) = (l.drop (k + 1)).any (fun y => y == (⟨za, xn⟩ : Wr.Id))) := by
            show _ = _
            rw [HD2.out, g2, Bool.and_false, Bool.false_or]
          clear HD2 e2
          go_upto_region 4 with fail
          go_quiet (fail)
          go_wp2_with fail
          go_roundw
          case rel => exact ⟨k + 1, _, hlt, by go_num, HE.out, rfl⟩
          case measure => simp [intOf]; omega
      · have g1 : (za == xa) = false := by simpa using e1
        have g3 : (xa == za) = false := by simpa using fun h => e1 h.symm
        have HE : Hid (l.any (fun y => y == (⟨xa, xn⟩ : Wr.Id)) = (l.drop (k + 1)).any (fun y => y == (⟨xa, xn⟩ : Wr.Id))) := by
          show _ = _
          rw [HD2.out, g1, Bool.false_and, Bool.false_or]
        clear HD2 e1
        go_upto_region 4 with fail
        go_quiet (fail)
        go_wp2_with fail
        go_roundw
        case rel => exact ⟨k + 1, _, hlt, by go_num, HE.out, rfl⟩
        case measure => simp [intOf]; omega
    · have hdd : decide (k < l.length) = false := decide_eq_false hlt
      have HE : Hid (l.any (fun y => y == (⟨xa, xn⟩ : Wr.Id)) = false) := any_end _ l k hlt HR.out
      go_wp2_with fail
      go_ret
      exact ⟨-1, rfl, by rw [any_has, HE.out]; rfl, HBW.out⟩

set_option maxRecDepth 100000 in
set_option maxHeartbeats 1000000 in
theorem HasId_any (l : List Wr.Id) (x : Wr.Id) (v : Value) (w : World) (hV : IdsV w v l) (hl : l.length ≤ 1000000) : Calls Try.prog 18 #[v, idVal x] w fun e w' => e = .returned (.bool (Wr.has l x)) ∧ Below w.heap.size w w' := by
  obtain ⟨ao, cap, rfl, _, hA⟩ := hV
  obtain ⟨xa, xn⟩ := x
  have HA : Hid (IdsAt w ao l) := hA
  have HG : Hid (Below w.heap.size w (w.alloc (.cells #[.int .i64 xa, .int .i64 xn] 23))) := ((Gr.refl w).alloc _).below
  have HB : Hid _ := heap_alloc_new w (.cells #[.int .i64 xa, .int .i64 xn] 23)
  clear hA
  go_enter Try.func18, Try.ntmps18
  go_upto_region 1 with fail
  generalize w.alloc (.cells #[.int .i64 xa, .int .i64 xn] 23) = w2 at *
  have c0 : w2.cell? ⟨w.heap.size, 0, none⟩ = some (.int .i64 xa) := by rw [Lib.cell_of_heap HB.out]; rfl
  have c1 : w2.cell? ⟨w.heap.size, 1, none⟩ = some (.int .i64 xn) := by rw [Lib.cell_of_heap HB.out]; rfl
  clear HB
  go_wp2_with fail
  go_loopw [5] (fun iv wr => ∃ k nq : Nat, k ≤ l.length ∧ iv = .int .i64 k ∧ Hid (l.any (fun y => y == (⟨xa, xn⟩ : Wr.Id)) = (l.drop k).any (fun y => y == (⟨xa, xn⟩ : Wr.Id))) ∧ wr = w2.drewN nq) (fun iv _ => l.length - (intOf iv).toNat)
  case atStart => exact ⟨0, 0, Nat.zero_le _, rfl, rfl, rfl⟩
  case round =>
    obtain ⟨k, nq, hk, rfl, HR, rfl⟩ := hrel
    have HBW : Hid (Below w.heap.size w (w2.drewN nq)) := HG.out.trans ((blw_drewN w2 nq).mono HG.out.size)
    by_cases hlt : k < l.length
    · have HD : Hid _ := any_step (fun y => y == (⟨xa, xn⟩ : Wr.Id)) ⟨0, 0⟩ l k hlt HR.out
      obtain ⟨b, off, rfl, p0, p1⟩ := ids_at HA.out k hlt
      have a0 := cell_below HG.out p0
      have a1 := cell_below HG.out p1
      clear p0 p1 HR
      have HD2 : Hid (l.any (fun y => y == (⟨xa, xn⟩ : Wr.Id)) = ((idD l k == (⟨xa, xn⟩ : Wr.Id)) || (l.drop (k + 1)).any (fun y => y == (⟨xa, xn⟩ : Wr.Id)))) := HD.out
      clear HD
      generalize idD l k = z at *
      obtain ⟨za, zn⟩ := z
      rw [beqId] at HD2
      by_cases e1 : za = xa
      · by_cases e2 : zn = xn
        · subst e1 e2
          have g1 : (za == za) = true := by simp
          have g2 : (zn == zn) = true := by simp
          have HE : Hid (l.any (fun y => y == (⟨za, zn⟩ : Wr.Id)) = true) := by
            show _ = _
            rw [HD2.out]
            simp
          go_upto_region 4 with fail
          go_quiet (fail)
          go_wp2_with fail
          go_ret
          exact ⟨by rw [any_has, HE.out]; rfl, HG.out.trans ((blw_drewN w2 _).mono HG.out.size)⟩
        · have g2 : (zn == xn) = false := by simpa using e2
          have g3 : (xn == zn) = false := by simpa using fun h => e2 h.symm
          subst e1
          have g1 : (za == za) = true := by simp
          have HE : Hid (l.any (fun y => y == (⟨za, xn⟩ : Wr.Id)) = (l.drop (k + 1)).any (fun y => y == (⟨za, xn⟩ : Wr.Id))) := by
            show _ = _
            rw [HD2.out, g2, Bool.and_false, Bool.false_or]
          clear HD2 e2
          go_upto_region 4 with fail
          go_quiet (fail)
          go_wp2_with fail
          go_roundw
          case rel => exact ⟨k + 1, _, hlt, by go_num, HE.out, rfl⟩
          case measure => simp [intOf]; omega
      · have g1 : (za == xa) = false := by simpa using e1
        have g3 : (xa == za) = false := by simpa using fun h => e1 h.symm
        have HE : Hid (l.any (fun y => y == (⟨xa, xn⟩ : Wr.Id)) = (l.drop (k + 1)).any (fun y => y == (⟨xa, xn⟩ : Wr.Id))) := by
          show _ = _
          rw [HD2.out, g1, Bool.false_and, Bool.false_or]
        clear HD2 e1
        go_upto_region 4 with fail
        go_quiet (fail)
        go_wp2_with fail
        go_roundw
        case rel => exact ⟨k + 1, _, hlt, by go_num, HE.out, rfl⟩
        case measure => simp [intOf]; omega
    · have hdd : decide (k < l.length) = false := decide_eq_false hlt
      have HE : Hid (l.any (fun y => y == (⟨xa, xn⟩ : Wr.Id)) = false) := any_end _ l k hlt HR.out
      go_wp2_with fail
      go_ret
      exact ⟨by rw [any_has, HE.out]; rfl, HBW.out⟩

set_option maxRecDepth 100000 in
set_option maxHeartbeats 1000000 in
theorem contains_any (l : List Wr.Id) (x : Wr.Id) (v : Value) (w : World) (hV : IdsV w v l) (hl : l.length ≤ 1000000) : Calls Try.prog 56 #[v, idVal x] w fun e w' => e = .returned (.bool (Wr.has l x)) ∧ Below w.heap.size w w' := by
  obtain ⟨ao, cap, rfl, _⟩ := id hV
  obtain ⟨xa, xn⟩ := x
  have HC : Hid (∀ z, Below w.heap.size w z → Calls Try.prog 62 #[.slice ao l.length cap, idVal ⟨xa, xn⟩] z fun e w' => ∃ r : Int, e = .returned (.int .i64 r) ∧ (decide (0 ≤ r) = Wr.has l ⟨xa, xn⟩) ∧ Below w.heap.size w w') := fun z hz => (indexOf_any l ⟨xa, xn⟩ _ z (idsV_below hV hz) hl).mono fun e w' ⟨r, h1, h2, h3⟩ => ⟨r, h1, h2, hz.trans (h3.mono hz.size)⟩
  have HG : Hid (Below w.heap.size w (w.alloc (.cells #[.int .i64 xa, .int .i64 xn] 23))) := ((Gr.refl w).alloc _).below
  have HB : Hid _ := heap_alloc_new w (.cells #[.int .i64 xa, .int .i64 xn] 23)
  generalize Wr.has l ⟨xa, xn⟩ = bb at *
  clear hV
  go_enter Try.func56, Try.ntmps56
  go_upto_region 1 with fail
  generalize w.alloc (.cells #[.int .i64 xa, .int .i64 xn] 23) = w2 at *
  have c0 : w2.cell? ⟨w.heap.size, 0, none⟩ = some (.int .i64 xa) := by rw [Lib.cell_of_heap HB.out]; rfl
  have c1 : w2.cell? ⟨w.heap.size, 1, none⟩ = some (.int .i64 xn) := by rw [Lib.cell_of_heap HB.out]; rfl
  go_wp2_with (go_at_call 62; refine Calls.mono (HC.out _ HG.out) ?_; rintro e z1 ⟨r, rfl, hr, hg1⟩)
  go_ret
  exact ⟨by rw [← hr]; rfl, hg1⟩

end Go.Proofs.Ytjeaicahdnoonaa

/- Check of an update. -/
namespace Go.Proofs.Ytjeaicahdnoonaa
open Go.RowKit

set_option maxRecDepth 100000 in
set_option maxHeartbeats 1000000 in
theorem lacks_any (u : Wr.Up) (vp vs vt : Value) (w : World) (hP : IdsV w vp u.ps) (hpl : u.ps.length ≤ 6) (hn : 1 ≤ u.id.n ∧ u.id.n ≤ 200) : Calls Try.prog 32 #[upVal u vp vs vt] w fun e w' => e = .returned (.bool (Wr.lacks u)) ∧ Below w.heap.size w w' := by
  obtain ⟨⟨a, n⟩, ps, says, ts⟩ := u
  have hP : IdsV w vp ps := hP
  have hpl : ps.length ≤ 6 := hpl
  have hn : 1 ≤ n ∧ n ≤ 200 := hn
  obtain ⟨ao, cap, rfl, _⟩ := id hP
  have HG : Hid (Below w.heap.size w (w.alloc (.cells #[.int .i64 a, .int .i64 n, .slice ao ps.length cap, vs, vt] 27))) := ((Gr.refl w).alloc _).below
  have HB : Hid _ := heap_alloc_new w (.cells #[.int .i64 a, .int .i64 n, .slice ao ps.length cap, vs, vt] 27)
  have HC : Hid (∀ z, Below w.heap.size w z → Calls Try.prog 56 #[.slice ao ps.length cap, idVal ⟨a, n - 1⟩] z fun e w' => e = .returned (.bool (Wr.has ps ⟨a, n - 1⟩)) ∧ Below w.heap.size w w') := fun z hz => (contains_any ps ⟨a, n - 1⟩ _ z (idsV_below hP hz) (by omega)).mono fun e w' h => ⟨h.1, hz.trans (h.2.mono hz.size)⟩
  have HR : Hid (Wr.lacks ⟨⟨a, n⟩, ps, says, ts⟩ = (decide (1 < n) && !Wr.has ps ⟨a, n - 1⟩)) := rfl
  have hwr : IntKind.i64.wrap (n - 1) = n - 1 := by
    simp [IntKind.wrap, IntKind.bits, IntKind.signed]
    omega
  generalize Wr.has ps ⟨a, n - 1⟩ = bb at *
  clear hP
  go_enter Try.func32, Try.ntmps32
  go_upto_region 1 with fail
  generalize w.alloc (.cells #[.int .i64 a, .int .i64 n, .slice ao ps.length cap, vs, vt] 27) = w2 at *
  have c0 : w2.cell? ⟨w.heap.size, 0, none⟩ = some (.int .i64 a) := by rw [Lib.cell_of_heap HB.out]; rfl
  have c1 : w2.cell? ⟨w.heap.size, 1, none⟩ = some (.int .i64 n) := by rw [Lib.cell_of_heap HB.out]; rfl
  have c2 : w2.cell? ⟨w.heap.size, 2, none⟩ = some (.slice ao ps.length cap) := by rw [Lib.cell_of_heap HB.out]; rfl
  have HB3 : Hid _ := heap_alloc_new w2 (.cells #[.int .i64 a, .int .i64 (n - 1)] 23)
  have HG3 : Hid (Below w2.heap.size w2 (w2.alloc (.cells #[.int .i64 a, .int .i64 (n - 1)] 23))) := ((Gr.refl w2).alloc _).below
  go_upto_region 2 with fail
  generalize w2.alloc (.cells #[.int .i64 a, .int .i64 (n - 1)] 23) = w3 at *
  have e0 : w3.cell? ⟨w2.heap.size, 0, none⟩ = some (.int .i64 a) := by rw [Lib.cell_of_heap HB3.out]; rfl
  have e1 : w3.cell? ⟨w2.heap.size, 1, none⟩ = some (.int .i64 (n - 1)) := by rw [Lib.cell_of_heap HB3.out]; rfl
  have f2 := cell_below HG3.out c2
  have HGW : Hid (Below w.heap.size w w3) := HG.out.trans (HG3.out.mono HG.out.size)
  clear HB HB3 c0 c1 c2
  by_cases h1 : 0 < n - 1
  · have d1 : decide (0 < n - 1) = true := decide_eq_true h1
    have d2 : Hid (decide (1 < n) = true) := decide_eq_true (by omega)
    generalize n - 1 = m at *
    go_wp2_with (go_at_call 56; refine Calls.mono (HC.out _ HGW.out) ?_; rintro e z1 ⟨rfl, hg1⟩)
    go_ret
    exact ⟨by rw [HR.out, d2.out]; rfl, hg1⟩
  · have d1 : decide (0 < n - 1) = false := decide_eq_false h1
    have d2 : Hid (decide (1 < n) = false) := decide_eq_false (by omega)
    generalize n - 1 = m at *
    go_wp2_with fail
    go_ret
    exact ⟨by rw [HR.out, d2.out]; rfl, HGW.out⟩

set_option maxRecDepth 100000 in
set_option maxHeartbeats 8000000 in
theorem Check_any (u : Wr.Up) (vp vs vt : Value) (w : World) (hP : IdsV w vp u.ps) (hS : FactsV w vs u.says) (hT : IdsV w vt u.ts) (hF : ∀ f, f ∈ u.says → FFit f) (hl : u.ps.length ≤ 9223372036854775807 ∧ u.says.length ≤ 9223372036854775807 ∧ u.ts.length ≤ 9223372036854775807) :
    Calls Try.prog 11 #[upVal u vp vs vt] w fun e w' => e = .returned (.int .i64 (Wr.check u)) ∧ Below w.heap.size w w' := by
  obtain ⟨⟨a, n⟩, ps, says, ts⟩ := u
  dsimp only at hP hS hT hF hl
  obtain ⟨ap, cp, rfl, _⟩ := id hP
  obtain ⟨as_, cs, rfl, _⟩ := id hS
  obtain ⟨at_, ct, rfl, _⟩ := id hT
  have HK : Hid (Wr.check ⟨⟨a, n⟩, ps, says, ts⟩ = if Wr.isId ⟨a, n⟩ = false then 3
    else if 6 < ps.length ∨ 6 < says.length ∨ 6 < ts.length then 2
    else if ps.all Wr.isId = false ∨ ts.all Wr.isId = false then 3
    else if Wr.rise Wr.idOrd ps = false ∨ Wr.rise Wr.idOrd ts = false then 4
    else if Wr.lacks ⟨⟨a, n⟩, ps, says, ts⟩ = true then 5
    else if says.all Wr.factOk = false then 3
    else if Wr.rise Rl.ord says = false then 4 else 0) := rfl
  have hG : Below w.heap.size w (w.alloc (.cells #[.int .i64 a, .int .i64 n, .slice ap ps.length cp, .slice as_ says.length cs, .slice at_ ts.length ct] 27)) := ((Gr.refl w).alloc _).below
  have hB := heap_alloc_new w (.cells #[.int .i64 a, .int .i64 n, .slice ap ps.length cp, .slice as_ says.length cs, .slice at_ ts.length ct] 27)
  have HID : Hid (Wr.isId ⟨a, n⟩ = true → 1 ≤ n ∧ n ≤ 200) := fun h => (of_decide_eq_true h).2.2
  go_enter Try.func11, Try.ntmps11
  go_upto_region 1 with fail
  generalize w.alloc (.cells #[.int .i64 a, .int .i64 n, .slice ap ps.length cp, .slice as_ says.length cs, .slice at_ ts.length ct] 27) = w2 at *
  have c0 : w2.cell? ⟨w.heap.size, 0, none⟩ = some (.int .i64 a) := by rw [Lib.cell_of_heap hB]; rfl
  have c1 : w2.cell? ⟨w.heap.size, 1, none⟩ = some (.int .i64 n) := by rw [Lib.cell_of_heap hB]; rfl
  have c2 : w2.cell? ⟨w.heap.size, 2, none⟩ = some (.slice ap ps.length cp) := by rw [Lib.cell_of_heap hB]; rfl
  have c3 : w2.cell? ⟨w.heap.size, 3, none⟩ = some (.slice as_ says.length cs) := by rw [Lib.cell_of_heap hB]; rfl
  have c4 : w2.cell? ⟨w.heap.size, 4, none⟩ = some (.slice at_ ts.length ct) := by rw [Lib.cell_of_heap hB]; rfl
  have KB : ∀ {z w' : World}, Below w2.heap.size w2 z → Below z.heap.size z w' → Below w2.heap.size w2 w' ∧ w'.cell? ⟨w.heap.size, 0, none⟩ = some (.int .i64 a) ∧ w'.cell? ⟨w.heap.size, 1, none⟩ = some (.int .i64 n) ∧ w'.cell? ⟨w.heap.size, 2, none⟩ = some (.slice ap ps.length cp) ∧ w'.cell? ⟨w.heap.size, 3, none⟩ = some (.slice as_ says.length cs) ∧ w'.cell? ⟨w.heap.size, 4, none⟩ = some (.slice at_ ts.length ct) := fun hz h => by
    have h3 := hz.trans (h.mono hz.size)
    exact ⟨h3, cell_below h3 c0, cell_below h3 c1, cell_below h3 c2, cell_below h3 c3, cell_below h3 c4⟩
  have HP : IdsV w2 (.slice ap ps.length cp) ps := idsV_below hP hG
  have HS : FactsV w2 (.slice as_ says.length cs) says := factsV_below hS hG
  have HT : IdsV w2 (.slice at_ ts.length ct) ts := idsV_below hT hG
  have HG : Hid _ := hG
  clear hP hS hT hG hB
  have H28 : Hid (∀ z, Below w2.heap.size w2 z → Calls Try.prog 28 #[idVal ⟨a, n⟩] z fun e w' => e = .returned (.bool (!Wr.isId ⟨a, n⟩)) ∧ Below w2.heap.size w2 w' ∧ w'.cell? ⟨w.heap.size, 0, none⟩ = some (.int .i64 a) ∧ w'.cell? ⟨w.heap.size, 1, none⟩ = some (.int .i64 n) ∧ w'.cell? ⟨w.heap.size, 2, none⟩ = some (.slice ap ps.length cp) ∧ w'.cell? ⟨w.heap.size, 3, none⟩ = some (.slice as_ says.length cs) ∧ w'.cell? ⟨w.heap.size, 4, none⟩ = some (.slice at_ ts.length ct)) := fun z hz => ((isWrongId_any ⟨a, n⟩ z).mono fun e w' h => (⟨h.1, h.2.below⟩ : _ ∧ Below z.heap.size z w')).mono fun e w' h => ⟨h.1, KB hz h.2⟩
  have HP29 : Hid (∀ z, Below w2.heap.size w2 z → ps.length ≤ 1000000 → Calls Try.prog 29 #[.slice ap ps.length cp, .func (.func 28) #[] #[]] z fun e w' => e = .returned (.bool (!ps.all Wr.isId)) ∧ Below w2.heap.size w2 w' ∧ w'.cell? ⟨w.heap.size, 0, none⟩ = some (.int .i64 a) ∧ w'.cell? ⟨w.heap.size, 1, none⟩ = some (.int .i64 n) ∧ w'.cell? ⟨w.heap.size, 2, none⟩ = some (.slice ap ps.length cp) ∧ w'.cell? ⟨w.heap.size, 3, none⟩ = some (.slice as_ says.length cs) ∧ w'.cell? ⟨w.heap.size, 4, none⟩ = some (.slice at_ ts.length ct)) := fun z hz hp => by rw [List.not_all_eq_any_not]; exact (containsId_any ps _ z (idsV_below HP hz) hp).mono fun e w' h => ⟨h.1, KB hz h.2⟩
  have HT29 : Hid (∀ z, Below w2.heap.size w2 z → ts.length ≤ 1000000 → Calls Try.prog 29 #[.slice at_ ts.length ct, .func (.func 28) #[] #[]] z fun e w' => e = .returned (.bool (!ts.all Wr.isId)) ∧ Below w2.heap.size w2 w' ∧ w'.cell? ⟨w.heap.size, 0, none⟩ = some (.int .i64 a) ∧ w'.cell? ⟨w.heap.size, 1, none⟩ = some (.int .i64 n) ∧ w'.cell? ⟨w.heap.size, 2, none⟩ = some (.slice ap ps.length cp) ∧ w'.cell? ⟨w.heap.size, 3, none⟩ = some (.slice as_ says.length cs) ∧ w'.cell? ⟨w.heap.size, 4, none⟩ = some (.slice at_ ts.length ct)) := fun z hz hp => by rw [List.not_all_eq_any_not]; exact (containsId_any ts _ z (idsV_below HT hz) hp).mono fun e w' h => ⟨h.1, KB hz h.2⟩
  have HP30 : Hid (∀ z, Below w2.heap.size w2 z → ps.length ≤ 1000000 → Calls Try.prog 30 #[.slice ap ps.length cp, .func (.func 31) #[] #[]] z fun e w' => e = .returned (.bool (Wr.rise Wr.idOrd ps)) ∧ Below w2.heap.size w2 w' ∧ w'.cell? ⟨w.heap.size, 0, none⟩ = some (.int .i64 a) ∧ w'.cell? ⟨w.heap.size, 1, none⟩ = some (.int .i64 n) ∧ w'.cell? ⟨w.heap.size, 2, none⟩ = some (.slice ap ps.length cp) ∧ w'.cell? ⟨w.heap.size, 3, none⟩ = some (.slice as_ says.length cs) ∧ w'.cell? ⟨w.heap.size, 4, none⟩ = some (.slice at_ ts.length ct)) := fun z hz hp => (RiseId_any ps _ z (idsV_below HP hz) hp).mono fun e w' h => ⟨h.1, KB hz h.2⟩
  have HT30 : Hid (∀ z, Below w2.heap.size w2 z → ts.length ≤ 1000000 → Calls Try.prog 30 #[.slice at_ ts.length ct, .func (.func 31) #[] #[]] z fun e w' => e = .returned (.bool (Wr.rise Wr.idOrd ts)) ∧ Below w2.heap.size w2 w' ∧ w'.cell? ⟨w.heap.size, 0, none⟩ = some (.int .i64 a) ∧ w'.cell? ⟨w.heap.size, 1, none⟩ = some (.int .i64 n) ∧ w'.cell? ⟨w.heap.size, 2, none⟩ = some (.slice ap ps.length cp) ∧ w'.cell? ⟨w.heap.size, 3, none⟩ = some (.slice as_ says.length cs) ∧ w'.cell? ⟨w.heap.size, 4, none⟩ = some (.slice at_ ts.length ct)) := fun z hz hp => (RiseId_any ts _ z (idsV_below HT hz) hp).mono fun e w' h => ⟨h.1, KB hz h.2⟩
  have H32 : Hid (∀ z, Below w2.heap.size w2 z → (ps.length ≤ 6 ∧ 1 ≤ n ∧ n ≤ 200) → Calls Try.prog 32 #[upVal ⟨⟨a, n⟩, ps, says, ts⟩ (.slice ap ps.length cp) (.slice as_ says.length cs) (.slice at_ ts.length ct)] z fun e w' => e = .returned (.bool (Wr.lacks ⟨⟨a, n⟩, ps, says, ts⟩)) ∧ Below w2.heap.size w2 w' ∧ w'.cell? ⟨w.heap.size, 0, none⟩ = some (.int .i64 a) ∧ w'.cell? ⟨w.heap.size, 1, none⟩ = some (.int .i64 n) ∧ w'.cell? ⟨w.heap.size, 2, none⟩ = some (.slice ap ps.length cp) ∧ w'.cell? ⟨w.heap.size, 3, none⟩ = some (.slice as_ says.length cs) ∧ w'.cell? ⟨w.heap.size, 4, none⟩ = some (.slice at_ ts.length ct)) := fun z hz hp => (lacks_any ⟨⟨a, n⟩, ps, says, ts⟩ _ _ _ z (idsV_below HP hz) hp.1 hp.2).mono fun e w' h => ⟨h.1, KB hz h.2⟩
  have H33 : Hid (∀ z, Below w2.heap.size w2 z → says.length ≤ 1000000 → Calls Try.prog 33 #[.slice as_ says.length cs, .func (.func 34) #[] #[]] z fun e w' => e = .returned (.bool (!says.all Wr.factOk)) ∧ Below w2.heap.size w2 w' ∧ w'.cell? ⟨w.heap.size, 0, none⟩ = some (.int .i64 a) ∧ w'.cell? ⟨w.heap.size, 1, none⟩ = some (.int .i64 n) ∧ w'.cell? ⟨w.heap.size, 2, none⟩ = some (.slice ap ps.length cp) ∧ w'.cell? ⟨w.heap.size, 3, none⟩ = some (.slice as_ says.length cs) ∧ w'.cell? ⟨w.heap.size, 4, none⟩ = some (.slice at_ ts.length ct)) := fun z hz hp => by rw [List.not_all_eq_any_not]; exact (containsF_any says _ z (factsV_below HS hz) hp hF).mono fun e w' h => ⟨h.1, KB hz h.2⟩
  have H35 : Hid (∀ z, Below w2.heap.size w2 z → says.length ≤ 1000000 → Calls Try.prog 35 #[.slice as_ says.length cs, .func (.func 36) #[] #[]] z fun e w' => e = .returned (.bool (Wr.rise Rl.ord says)) ∧ Below w2.heap.size w2 w' ∧ w'.cell? ⟨w.heap.size, 0, none⟩ = some (.int .i64 a) ∧ w'.cell? ⟨w.heap.size, 1, none⟩ = some (.int .i64 n) ∧ w'.cell? ⟨w.heap.size, 2, none⟩ = some (.slice ap ps.length cp) ∧ w'.cell? ⟨w.heap.size, 3, none⟩ = some (.slice as_ says.length cs) ∧ w'.cell? ⟨w.heap.size, 4, none⟩ = some (.slice at_ ts.length ct)) := fun z hz hp => (RiseF_any says _ z (factsV_below HS hz) hp hF).mono fun e w' h => ⟨h.1, KB hz h.2⟩
  have HB2 : Below w2.heap.size w2 w2 := Below.refl _ _
  clear HP HS HT hF KB
  generalize Wr.isId ⟨a, n⟩ = b0 at *
  generalize ps.all Wr.isId = b1 at *
  generalize ts.all Wr.isId = b2 at *
  generalize Wr.rise Wr.idOrd ps = b3 at *
  generalize Wr.rise Wr.idOrd ts = b4 at *
  generalize Wr.lacks ⟨⟨a, n⟩, ps, says, ts⟩ = b5 at *
  generalize says.all Wr.factOk = b6 at *
  generalize Wr.rise Rl.ord says = b7 at *
  cases b0
  · go_wp2_with (go_at_call 28; refine Calls.mono (H28.out _ (by assumption)) ?_; rintro e z1 ⟨rfl, hb1, x10, x11, x12, x13, x14⟩)
    go_ret
    exact ⟨by rw [HK.out]; rfl, HG.out.trans (hb1.mono HG.out.size)⟩
  rw [if_neg (by decide)] at HK
  have hn := HID.out rfl
  go_upto_region 3 with (go_at_call 28; refine Calls.mono (H28.out _ (by assumption)) ?_; rintro e z1 ⟨rfl, hb1, x10, x11, x12, x13, x14⟩)
  clear H28 c0 c1 c2 c3 c4 HB2
  by_cases l_ps : 6 < ps.length
  · have dn : decide (6 < ps.length) = true := decide_eq_true l_ps
    have di : decide ((6 : Int) < (ps.length : Int)) = true := decide_eq_true (by omega)
    rw [if_pos (by omega)] at HK
    go_wp2_with fail
    go_ret
    exact ⟨by rw [HK.out]; rfl, HG.out.trans (hb1.mono HG.out.size)⟩
  have dn_ps : decide (6 < ps.length) = false := decide_eq_false l_ps
  have di_ps : decide ((6 : Int) < (ps.length : Int)) = false := decide_eq_false (by omega)
  by_cases l_says : 6 < says.length
  · have dn : decide (6 < says.length) = true := decide_eq_true l_says
    have di : decide ((6 : Int) < (says.length : Int)) = true := decide_eq_true (by omega)
    rw [if_pos (by omega)] at HK
    go_wp2_with fail
    go_ret
    exact ⟨by rw [HK.out]; rfl, HG.out.trans (hb1.mono HG.out.size)⟩
  have dn_says : decide (6 < says.length) = false := decide_eq_false l_says
  have di_says : decide ((6 : Int) < (says.length : Int)) = false := decide_eq_false (by omega)
  by_cases l_ts : 6 < ts.length
  · have dn : decide (6 < ts.length) = true := decide_eq_true l_ts
    have di : decide ((6 : Int) < (ts.length : Int)) = true := decide_eq_true (by omega)
    rw [if_pos (by omega)] at HK
    go_wp2_with fail
    go_ret
    exact ⟨by rw [HK.out]; rfl, HG.out.trans (hb1.mono HG.out.size)⟩
  have dn_ts : decide (6 < ts.length) = false := decide_eq_false l_ts
  have di_ts : decide ((6 : Int) < (ts.length : Int)) = false := decide_eq_false (by omega)
  rw [if_neg (by omega)] at HK
  have lp : ps.length ≤ 1000000 := by omega
  have lt : ts.length ≤ 1000000 := by omega
  go_upto_region 5 with fail
  clear dn_ps di_ps dn_says di_says dn_ts di_ts
  cases b1
  · rw [if_pos (Or.inl rfl)] at HK
    go_wp2_with (go_at_call 29; refine Calls.mono (HP29.out _ (by assumption) (by omega)) ?_; rintro e z2 ⟨rfl, hb2, x20, x21, x22, x23, x24⟩)
    go_ret
    exact ⟨by rw [HK.out]; rfl, HG.out.trans (hb2.mono HG.out.size)⟩
  cases b2
  · rw [if_pos (Or.inr rfl)] at HK
    go_wp2_with (first | (go_at_call 29; with_reducible refine Calls.mono (HP29.out _ (by assumption) lp) ?_; rintro e z2 ⟨rfl, hb2, x20, x21, x22, x23, x24⟩) | (go_at_call 29; with_reducible refine Calls.mono (HT29.out _ (by assumption) lt) ?_; rintro e z3 ⟨rfl, hb3, x30, x31, x32, x33, x34⟩))
    go_ret
    exact ⟨by rw [HK.out]; rfl, HG.out.trans (hb3.mono HG.out.size)⟩
  rw [if_neg (by decide)] at HK
  go_upto_region 7 with (first | (go_at_call 29; with_reducible refine Calls.mono (HP29.out _ (by assumption) lp) ?_; rintro e z2 ⟨rfl, hb2, x20, x21, x22, x23, x24⟩) | (go_at_call 29; with_reducible refine Calls.mono (HT29.out _ (by assumption) lt) ?_; rintro e z3 ⟨rfl, hb3, x30, x31, x32, x33, x34⟩))
  clear HP29 HT29
  cases b3
  · rw [if_pos (Or.inl rfl)] at HK
    go_wp2_with (go_at_call 30; refine Calls.mono (HP30.out _ (by assumption) (by omega)) ?_; rintro e z2 ⟨rfl, hb2, x20, x21, x22, x23, x24⟩)
    go_ret
    exact ⟨by rw [HK.out]; rfl, HG.out.trans (hb2.mono HG.out.size)⟩
  cases b4
  · rw [if_pos (Or.inr rfl)] at HK
    go_wp2_with (first | (go_at_call 30; with_reducible refine Calls.mono (HP30.out _ (by assumption) lp) ?_; rintro e z2 ⟨rfl, hb2, x20, x21, x22, x23, x24⟩) | (go_at_call 30; with_reducible refine Calls.mono (HT30.out _ (by assumption) lt) ?_; rintro e z3 ⟨rfl, hb3, x30, x31, x32, x33, x34⟩))
    go_ret
    exact ⟨by rw [HK.out]; rfl, HG.out.trans (hb3.mono HG.out.size)⟩
  rw [if_neg (by decide)] at HK
  go_upto_region 9 with (first | (go_at_call 30; with_reducible refine Calls.mono (HP30.out _ (by assumption) lp) ?_; rintro e z2 ⟨rfl, hb2, x20, x21, x22, x23, x24⟩) | (go_at_call 30; with_reducible refine Calls.mono (HT30.out _ (by assumption) lt) ?_; rintro e z3 ⟨rfl, hb3, x30, x31, x32, x33, x34⟩))
  clear HP30 HT30
  cases b5
  rotate_left
  · rw [if_pos rfl] at HK
    go_wp2_with (go_at_call 32; refine Calls.mono (H32.out _ (by assumption) ⟨by omega, hn⟩) ?_; rintro e z5 ⟨rfl, hb5, x50, x51, x52, x53, x54⟩)
    go_ret
    exact ⟨by rw [HK.out]; rfl, HG.out.trans (hb5.mono HG.out.size)⟩
  rw [if_neg (by decide)] at HK
  go_upto_region 11 with (go_at_call 32; refine Calls.mono (H32.out _ (by assumption) ⟨by omega, hn⟩) ?_; rintro e z5 ⟨rfl, hb5, x50, x51, x52, x53, x54⟩)
  clear H32
  cases b6
  · rw [if_pos rfl] at HK
    go_wp2_with (go_at_call 33; refine Calls.mono (H33.out _ (by assumption) (by omega)) ?_; rintro e z6 ⟨rfl, hb6, x60, x61, x62, x63, x64⟩)
    go_ret
    exact ⟨by rw [HK.out]; rfl, HG.out.trans (hb6.mono HG.out.size)⟩
  rw [if_neg (by decide)] at HK
  go_upto_region 13 with (go_at_call 33; refine Calls.mono (H33.out _ (by assumption) (by omega)) ?_; rintro e z6 ⟨rfl, hb6, x60, x61, x62, x63, x64⟩)
  clear H33
  cases b7
  · rw [if_pos rfl] at HK
    go_wp2_with (go_at_call 35; refine Calls.mono (H35.out _ (by assumption) (by omega)) ?_; rintro e z7 ⟨rfl, hb7, x70, x71, x72, x73, x74⟩)
    go_ret
    exact ⟨by rw [HK.out]; rfl, HG.out.trans (hb7.mono HG.out.size)⟩
  rw [if_neg (by decide)] at HK
  go_wp2_with (go_at_call 35; refine Calls.mono (H35.out _ (by assumption) (by omega)) ?_; rintro e z7 ⟨rfl, hb7, x70, x71, x72, x73, x74⟩)
  go_ret
  exact ⟨by rw [HK.out]; rfl, HG.out.trans (hb7.mono HG.out.size)⟩

end Go.Proofs.Ytjeaicahdnoonaa

/- The bytes of an update: putUpdate and Encode. -/
namespace Go.Proofs.Ytjeaicahdnoonaa
open Go.RowKit

def allF (l : List Rl.Fc) : Wr.By := (l.map Wr.encF).flatten
theorem allF_snoc (l : List Rl.Fc) (k : Nat) (hk : k < l.length) : allF (l.take (k + 1)) = allF (l.take k) ++ Wr.encF (Rl.factD l k) := by
  unfold allF
  rw [List.take_succ_eq_append_getElem hk, List.map_append, List.flatten_append]
  congr 1
  simp [Rl.factD, List.getD_eq_getElem?_getD, hk]
theorem allF_len (l : List Rl.Fc) (h : ∀ f, f ∈ l → f.args.length ≤ 3) : (allF l).length ≤ 14 * l.length := by
  unfold allF
  induction l with
  | nil => exact Nat.le_refl _
  | cons x l ih =>
    rw [List.map_cons, List.flatten_cons, List.length_append, encF_len, List.length_cons]
    have := ih (fun f hf => h f (List.mem_cons_of_mem _ hf))
    have := h x List.mem_cons_self
    omega

set_option maxRecDepth 100000 in
set_option maxHeartbeats 2000000 in
theorem putUpdate_any (u : Wr.Up) (vp vs vt : Value) (W w : World) (hP : IdsV W vp u.ps) (hS : FactsV W vs u.says) (hT : IdsV W vt u.ts) (hR : Wr.Right u) (hW : Below W.heap.size W w) :
    Calls Try.prog 13 #[.slice none 0 0, upVal u vp vs vt] w fun e w' => ∃ v', e = .returned v' ∧ BRow w' W.heap.size v' (Wr.enc u) ∧ KB W.heap.size w w' := by
  have hfl : ∀ f, f ∈ u.says → f.args.length ≤ 3 := fun f hf => by
    have := hR.fs f hf
    unfold Wr.factOk at this
    rw [Bool.and_eq_true, decide_eq_true_eq] at this
    exact this.1.2.2
  obtain ⟨hid, hps, hsays, hts, _, _, _⟩ := hR
  obtain ⟨⟨a, n⟩, ps, says, ts⟩ := u
  dsimp only at hP hS hT hfl hps hsays hts
  have HPV : Hid (IdsV W vp ps) := hP
  have HTV : Hid (IdsV W vt ts) := hT
  obtain ⟨ap, cp, rfl, _⟩ := hP
  obtain ⟨as_, cs, rfl, _, hA⟩ := hS
  obtain ⟨at_, ct, rfl, _⟩ := hT
  have HA : Hid (FactsAt W as_ says) := hA
  have HW : Hid (Below W.heap.size W w) := hW
  have HFL : Hid _ := hfl
  have hB := hW.size
  have hG : KB W.heap.size w (w.alloc (.cells #[.int .i64 a, .int .i64 n, .slice ap ps.length cp, .slice as_ says.length cs, .slice at_ ts.length ct] 27)) := (KB.refl W.heap.size w).alloc hB _
  have hBx := heap_alloc_new w (.cells #[.int .i64 a, .int .i64 n, .slice ap ps.length cp, .slice as_ says.length cs, .slice at_ ts.length ct] 27)
  have hs : W.heap.size ≤ (w.alloc (.cells #[.int .i64 a, .int .i64 n, .slice ap ps.length cp, .slice as_ says.length cs, .slice at_ ts.length ct] 27)).heap.size := Nat.le_trans hB hG.1.size
  clear hA hW hfl hid
  go_enter Try.func13, Try.ntmps13
  go_upto_region 1 with fail
  generalize w.alloc (.cells #[.int .i64 a, .int .i64 n, .slice ap ps.length cp, .slice as_ says.length cs, .slice at_ ts.length ct] 27) = w2 at *
  have HC : Hid (∀ z, KB W.heap.size w2 z → z.cell? ⟨w.heap.size, 0, none⟩ = some (.int .i64 a) ∧ z.cell? ⟨w.heap.size, 1, none⟩ = some (.int .i64 n) ∧ z.cell? ⟨w.heap.size, 2, none⟩ = some (.slice ap ps.length cp) ∧ z.cell? ⟨w.heap.size, 3, none⟩ = some (.slice as_ says.length cs) ∧ z.cell? ⟨w.heap.size, 4, none⟩ = some (.slice at_ ts.length ct)) := by
    intro z h3
    have hA' := h3.cell hBx (by decide)
    exact ⟨by rw [Lib.cell_of_heap hA']; rfl, by rw [Lib.cell_of_heap hA']; rfl, by rw [Lib.cell_of_heap hA']; rfl, by rw [Lib.cell_of_heap hA']; rfl, by rw [Lib.cell_of_heap hA']; rfl⟩
  obtain ⟨c0, c1, c2, c3, c4⟩ := HC.out w2 (KB.refl _ _)
  have HP1 : Hid (Calls Try.prog 41 #[.slice none 0 0, .agg #[.int .i64 a, .int .i64 n]] w2.drew fun e w' => ∃ v', e = .returned v' ∧ Hid (BRow w' W.heap.size v' (Wr.encId ⟨a, n⟩)) ∧ Hid (KB W.heap.size w2 w') ∧ w'.cell? ⟨w.heap.size, 0, none⟩ = some (.int .i64 a) ∧ w'.cell? ⟨w.heap.size, 1, none⟩ = some (.int .i64 n) ∧ w'.cell? ⟨w.heap.size, 2, none⟩ = some (.slice ap ps.length cp) ∧ w'.cell? ⟨w.heap.size, 3, none⟩ = some (.slice as_ says.length cs) ∧ w'.cell? ⟨w.heap.size, 4, none⟩ = some (.slice at_ ts.length ct)) := by
    refine (putId_any W.heap.size [] ⟨a, n⟩ _ w2.drew (World.ownsRow_nil _ _ _ _) hs (by simp)).mono ?_
    rintro e w' ⟨v', rfl, h1, h2⟩
    have h3 : KB W.heap.size w2 w' := (KB.drew _ w2).trans h2
    exact ⟨v', rfl, h1, h3, HC.out w' h3⟩
  have HP2 : Hid (∀ z v, Hid (BRow z W.heap.size v (Wr.encId ⟨a, n⟩)) → Hid (KB W.heap.size w2 z) → Calls Try.prog 40 #[v, .slice ap ps.length cp] z fun e w' => ∃ v', e = .returned v' ∧ Hid (BRow w' W.heap.size v' (Wr.encId ⟨a, n⟩ ++ Wr.encIds ps)) ∧ Hid (KB W.heap.size w2 w') ∧ w'.cell? ⟨w.heap.size, 0, none⟩ = some (.int .i64 a) ∧ w'.cell? ⟨w.heap.size, 1, none⟩ = some (.int .i64 n) ∧ w'.cell? ⟨w.heap.size, 2, none⟩ = some (.slice ap ps.length cp) ∧ w'.cell? ⟨w.heap.size, 3, none⟩ = some (.slice as_ says.length cs) ∧ w'.cell? ⟨w.heap.size, 4, none⟩ = some (.slice at_ ts.length ct)) := by
    intro z v h1 h2
    refine (putIds_any W _ ps v _ z h1.out (HW.out.trans (hG.trans h2.out).1) HPV.out (by rw [encId_len]; omega) (by omega)).mono ?_
    rintro e w' ⟨v', rfl, h3, h4⟩
    have h5 := h2.out.trans h4
    exact ⟨v', rfl, h3, h5, HC.out w' h5⟩
  have HP3 : Hid (∀ z v, Hid (BRow z W.heap.size v (Wr.encId ⟨a, n⟩ ++ Wr.encIds ps)) → Hid (KB W.heap.size w2 z) → Calls Try.prog 39 #[v, .int .i64 says.length, .int .i64 1] z fun e w' => ∃ v', e = .returned v' ∧ BRow w' W.heap.size v' ((Wr.encId ⟨a, n⟩ ++ Wr.encIds ps) ++ Wr.le 1 says.length) ∧ KB W.heap.size w2 w') := by
    intro z v h1 h2
    refine (put_any W.heap.size _ says.length 1 v z h1.out (Nat.le_trans hs h2.out.1.size) (by rw [List.length_append, encId_len, encIds_len]; omega) (by omega)).mono ?_
    rintro e w' ⟨v', rfl, h3, h4⟩
    exact ⟨v', rfl, h3, h2.out.trans h4⟩
  clear hBx
  go_cut [0] from 7 to 17 (fun v1 z => BRow z W.heap.size v1 ((Wr.encId ⟨a, n⟩ ++ Wr.encIds ps) ++ Wr.le 1 says.length) ∧ KB W.heap.size w2 z)
  case first =>
    go_region_with (first | (go_at_call 41; with_reducible refine Calls.mono HP1.out ?_; rintro e w3 ⟨v3, rfl, ho3, hk3, d0, d1, d2, d3, d4⟩) | (go_at_call 40; with_reducible refine Calls.mono (HP2.out _ _ ho3 hk3) ?_; rintro e w4 ⟨v4, rfl, ho4, hk4, e0, e1, e2, e3, e4⟩) | (go_at_call 39; with_reducible refine Calls.mono (HP3.out _ _ ho4 hk4) ?_; rintro e w5 ⟨v5, rfl, ho5, hk5⟩))
    all_goals (go_wp2_with fail; go_meet; exact ⟨ho5, hk5⟩)
  case rest =>
    obtain ⟨ho1, hk1⟩ := hcut
    obtain ⟨ao1, cap1, rfl⟩ := own_slice ho1
    clear HP1 HP2 HP3 c0 c1 c2 c3 c4
    obtain ⟨c0, c1, c2, c3, c4⟩ := HC.out _ hk1
    go_wp2_with fail
    go_loopw [0, 21] (fun vs iv wr => ∃ k : Nat, k ≤ says.length ∧ iv = .int .i64 k ∧ BRow wr W.heap.size vs (((Wr.encId ⟨a, n⟩ ++ Wr.encIds ps) ++ Wr.le 1 says.length) ++ allF (says.take k)) ∧ KB W.heap.size w2 wr) (fun _ iv _ => says.length - (intOf iv).toNat)
    case atStart => exact ⟨0, Nat.zero_le _, rfl, by simpa [allF] using ho1, hk1⟩
    case round =>
      clear c0 c1 c2 c3 c4
      obtain ⟨k, hk, rfl, ho, hkb⟩ := hrel
      have hlen : (((Wr.encId ⟨a, n⟩ ++ Wr.encIds ps) ++ Wr.le 1 says.length) ++ allF (says.take k)).length ≤ 1000 := by
        have := allF_len (says.take k) (fun f hf => HFL.out f (List.mem_of_mem_take hf))
        rw [List.length_append, List.length_append, List.length_append, le_len, encId_len, encIds_len]
        rw [List.length_take] at this
        omega
      have HS : Hid (k < says.length → allF (says.take (k + 1)) = allF (says.take k) ++ Wr.encF (Rl.factD says k)) := allF_snoc says k
      have HE : Hid (¬ k < says.length → allF (says.take k) = allF says) := fun h => by rw [List.take_of_length_le (by omega)]
      by_cases hlt : k < says.length
      · obtain ⟨b, off, rfl, p0, fv, p1, hIv⟩ := facts_at HA.out k hlt
        have HB : Hid _ := HW.out.trans (hG.trans hkb).1
        have a0 := cell_below HB.out p0
        have a1 := cell_below HB.out p1
        have HST : Hid _ := HS.out hlt
        have HAR : Hid _ := HFL.out _ (factD_mem says k hlt)
        have HIV : Hid (IntsV W fv (Rl.factD says k).args) := hIv
        clear HS HE p0 p1
        obtain ⟨af, cf, rfl, _⟩ := hIv
        generalize Rl.factD says k = x at *
        obtain ⟨xp, xs⟩ := x
        dsimp only at *
        obtain ⟨L, hL⟩ : ∃ L, (((Wr.encId ⟨a, n⟩ ++ Wr.encIds ps) ++ Wr.le 1 says.length) ++ allF (says.take k)) = L := ⟨_, rfl⟩
        have HL : Hid ((((Wr.encId ⟨a, n⟩ ++ Wr.encIds ps) ++ Wr.le 1 says.length) ++ allF (says.take k)) = L) := hL
        rw [hL] at ho hlen
        clear hL
        obtain ⟨ao2, cap2, rfl⟩ := own_slice ho
        have hsz := hkb.1.size
        have HCC : Hid (∀ c, Calls Try.prog 42 #[.slice ao2 L.length cap2, .agg #[.int .i64 xp, .slice af xs.length cf]] (wr.alloc c) fun e w' => ∃ v', e = .returned v' ∧ Hid (BRow w' W.heap.size v' (((Wr.encId ⟨a, n⟩ ++ Wr.encIds ps) ++ Wr.le 1 says.length) ++ allF (says.take (k + 1)))) ∧ Hid (KB W.heap.size w2 w')) := by
          intro c
          refine (putFact_any W L ⟨xp, xs⟩ _ _ _ (ho.alloc c) (HB.out.alloc (Nat.le_trans hs hsz) c) HIV.out (by omega) (by show xs.length ≤ 255; have := HAR.out; omega)).mono ?_
          rintro e w' ⟨v', rfl, h1, h2⟩
          refine ⟨v', rfl, ?_, (hkb.alloc hs c).trans h2⟩
          rw [HST.out, ← List.append_assoc, HL.out]
          exact h1
        clear ho hkb HST HL HB HIV HAR
        go_wp2_with fail
        refine Calls.mono (HCC.out _) ?_
        rintro e w4 ⟨v4, rfl, ho4, hk4⟩
        go_wp2_with fail
        go_roundw
        case rel => exact ⟨k + 1, hlt, by go_num, ho4.out, hk4.out⟩
        case measure => simp [intOf]; omega
      · have HST : Hid _ := HE.out hlt
        clear HS HE
        rw [HST.out] at ho hlen
        obtain ⟨L, hL⟩ : ∃ L, (((Wr.encId ⟨a, n⟩ ++ Wr.encIds ps) ++ Wr.le 1 says.length) ++ allF says) = L := ⟨_, rfl⟩
        have HL : Hid ((((Wr.encId ⟨a, n⟩ ++ Wr.encIds ps) ++ Wr.le 1 says.length) ++ allF says) = L) := hL
        rw [hL] at ho hlen
        clear hL HST
        obtain ⟨ao2, cap2, rfl⟩ := own_slice ho
        obtain ⟨c0, c1, c2, c3, c4⟩ := HC.out _ hkb
        have HCC : Hid (Calls Try.prog 40 #[.slice ao2 L.length cap2, .slice at_ ts.length ct] wr fun e w' => ∃ v', e = .returned v' ∧ Hid (BRow w' W.heap.size v' (Wr.enc ⟨⟨a, n⟩, ps, says, ts⟩)) ∧ Hid (KB W.heap.size w w')) := by
          refine (putIds_any W L ts _ _ _ ho (HW.out.trans (hG.trans hkb).1) HTV.out (by omega) (by omega)).mono ?_
          rintro e w' ⟨v', rfl, h1, h2⟩
          refine ⟨v', rfl, ?_, hG.trans (hkb.trans h2)⟩
          rw [← HL.out] at h1
          simp only [List.append_assoc] at h1
          show BRow _ _ _ _
          unfold Wr.enc Wr.encFs
          simp only [List.append_assoc]
          exact h1
        clear ho hkb HL hG
        have hdd : decide (k < says.length) = false := decide_eq_false hlt
        go_wp2_with fail
        refine Calls.mono HCC.out ?_
        rintro e w4 ⟨v4, rfl, ho4, hk4⟩
        go_wp2_with fail
        go_ret
        exact ⟨_, rfl, ho4.out, hk4.out⟩
end Go.Proofs.Ytjeaicahdnoonaa

/- Encode. -/
namespace Go.Proofs.Ytjeaicahdnoonaa
open Go.RowKit

abbrev strVal (l : Wr.By) : Value := .string ⟨l.toArray⟩
def Wr.encOut (u : Wr.Up) : Wr.By := if Wr.check u = 0 then Wr.enc u else []
theorem enc_pos (u : Wr.Up) : 0 < (Wr.enc u).length := by
  unfold Wr.enc
  rw [List.length_append, encId_len]
  omega
theorem brow_cells {w : World} {B : Nat} {v : Value} {l : Wr.By} (h : BRow w B v l) (hl : 0 < l.length) : ∃ g cap, v = .slice (some ⟨g, 0, none⟩) l.length cap ∧ ∀ j (hj : j < l.length), w.cell? ((⟨g, 0, none⟩ : Addr).add j) = some (.int .u8 (l[j].toNat : Int)) := by
  obtain ⟨ao, cap, rfl, _, h⟩ := own_cells h
  rcases h with h | ⟨g, rfl, hc⟩
  · omega
  · refine ⟨g, cap, rfl, fun j hj => ?_⟩
    have := hc j (by omega)
    rw [List.getElem?_map, List.getElem?_eq_getElem hj] at this
    rw [Addr.add_lit, Nat.zero_add]
    exact this

set_option maxRecDepth 100000 in
set_option maxHeartbeats 2000000 in
theorem Encode_any (u : Wr.Up) (vp vs vt : Value) (w : World) (hP : IdsV w vp u.ps) (hS : FactsV w vs u.says) (hT : IdsV w vt u.ts) (hF : ∀ f, f ∈ u.says → FFit f) (hl : u.ps.length ≤ 9223372036854775807 ∧ u.says.length ≤ 9223372036854775807 ∧ u.ts.length ≤ 9223372036854775807) :
    Calls Try.prog 5 #[upVal u vp vs vt] w fun e w' => e = .returned (.tuple #[strVal (Wr.encOut u), .int .i64 (Wr.check u)]) ∧ Below w.heap.size w w' := by
  obtain ⟨⟨a, n⟩, ps, says, ts⟩ := u
  have HP : Hid (IdsV w vp ps) := hP
  have HS : Hid (FactsV w vs says) := hS
  have HT : Hid (IdsV w vt ts) := hT
  have HF : Hid (∀ f, f ∈ says → FFit f) := hF
  obtain ⟨ap, cp, rfl, _⟩ := hP
  obtain ⟨as_, cs, rfl, _⟩ := hS
  obtain ⟨at_, ct, rfl, _⟩ := hT
  dsimp only at hl
  have hG := new_below w (.cells #[.int .i64 a, .int .i64 n, .slice ap ps.length cp, .slice as_ says.length cs, .slice at_ ts.length ct] 27)
  have hBx := heap_alloc_new w (.cells #[.int .i64 a, .int .i64 n, .slice ap ps.length cp, .slice as_ says.length cs, .slice at_ ts.length ct] 27)
  clear hF
  go_enter Try.func5, Try.ntmps5
  go_upto_region 1 with fail
  generalize w.alloc (.cells #[.int .i64 a, .int .i64 n, .slice ap ps.length cp, .slice as_ says.length cs, .slice at_ ts.length ct] 27) = w2 at *
  have HC : Hid (∀ z, Below w2.heap.size w2 z → z.cell? ⟨w.heap.size, 0, none⟩ = some (.int .i64 a) ∧ z.cell? ⟨w.heap.size, 1, none⟩ = some (.int .i64 n) ∧ z.cell? ⟨w.heap.size, 2, none⟩ = some (.slice ap ps.length cp) ∧ z.cell? ⟨w.heap.size, 3, none⟩ = some (.slice as_ says.length cs) ∧ z.cell? ⟨w.heap.size, 4, none⟩ = some (.slice at_ ts.length ct)) := by
    intro z h3
    have hA' := (h3.block w.heap.size (by have := (Array.getElem?_eq_some_iff.1 hBx).1; omega)).trans hBx
    exact ⟨by rw [Lib.cell_of_heap hA']; rfl, by rw [Lib.cell_of_heap hA']; rfl, by rw [Lib.cell_of_heap hA']; rfl, by rw [Lib.cell_of_heap hA']; rfl, by rw [Lib.cell_of_heap hA']; rfl⟩
  obtain ⟨c0, c1, c2, c3, c4⟩ := HC.out w2 (Below.refl _ _)
  have HK : Hid _ := Check_any ⟨⟨a, n⟩, ps, says, ts⟩ _ _ _ w2 (idsV_below HP.out hG) (factsV_below HS.out hG) (idsV_below HT.out hG) HF.out hl
  go_wp2_with fail
  refine Calls.mono HK.out ?_
  rintro e w3 ⟨rfl, hb3⟩
  clear c0 c1 c2 c3 c4 HK
  obtain ⟨c0, c1, c2, c3, c4⟩ := HC.out w3 hb3
  have HG3 : Hid (Below w.heap.size w w3) := hG.trans (hb3.mono hG.size)
  by_cases h0 : Wr.check ⟨⟨a, n⟩, ps, says, ts⟩ = 0
  · have HR : Hid _ := Wr.right_of h0
    have HO : Hid (Wr.encOut ⟨⟨a, n⟩, ps, says, ts⟩ = Wr.enc ⟨⟨a, n⟩, ps, says, ts⟩) := if_pos h0
    have HU : Hid _ := putUpdate_any ⟨⟨a, n⟩, ps, says, ts⟩ _ _ _ w w3 HP.out HS.out HT.out HR.out HG3.out
    have HPOS : Hid (0 < (Wr.enc ⟨⟨a, n⟩, ps, says, ts⟩).length) := enc_pos _
    have HZ : Hid (Wr.check ⟨⟨a, n⟩, ps, says, ts⟩ = 0) := h0
    rw [h0]
    generalize Wr.enc ⟨⟨a, n⟩, ps, says, ts⟩ = E at *
    clear h0 HR
    go_wp2_with fail
    refine Calls.mono HU.out ?_
    rintro e w4 ⟨v4, rfl, ho, hk⟩
    obtain ⟨g, cap, rfl, hcells⟩ := brow_cells ho HPOS.out
    have HCV : Hid _ := run_convert_bytes_back w4 38 9 5 ⟨g, 0, none⟩ cap E Try.underlying38 (by kernel_rfl) (by kernel_rfl) hcells
    clear hcells ho
    go_wp2_with (rw [HCV.out])
    refine bodyPost_ret (results_tmp2 rfl _ _ _) rfl ⟨by rw [HO.out, HZ.out]; rfl, HG3.out.trans hk.1⟩
  · have HO : Hid (Wr.encOut ⟨⟨a, n⟩, ps, says, ts⟩ = []) := if_neg h0
    have hne : (Wr.check ⟨⟨a, n⟩, ps, says, ts⟩ != 0) = true := by simpa using h0
    go_wp2_with fail
    refine bodyPost_ret (results_tmp2 rfl _ _ _) rfl ⟨by rw [HO.out]; rfl, HG3.out⟩
end Go.Proofs.Ytjeaicahdnoonaa

/- The program's reader of numbers. -/
namespace Go.Proofs.Ytjeaicahdnoonaa
open Go.RowKit

namespace Wr
/-- The number of some bytes. -/
def vl : By → Nat
  | [] => 0
  | b :: l => b.toNat + 256 * vl l
theorem vl_lt : ∀ l : By, vl l < 256 ^ l.length
  | [] => by simp [vl]
  | b :: l => by
    have := vl_lt l
    have := b.toNat_lt
    show b.toNat + 256 * vl l < 256 ^ (l.length + 1)
    rw [Nat.pow_succ]
    omega
theorem vl_snoc : ∀ (l : By) (b : UInt8), vl (l ++ [b]) = vl l + b.toNat * 256 ^ l.length
  | [], b => by simp [vl]
  | c :: l, b => by
    show c.toNat + 256 * vl (l ++ [b]) = c.toNat + 256 * vl l + b.toNat * 256 ^ (l.length + 1)
    rw [vl_snoc l b, Nat.pow_succ, ← Nat.mul_assoc]
    omega
theorem num_vl : ∀ (k : Nat) (l : By), k ≤ l.length → num k l = some (vl (l.take k), l.drop k)
  | 0, l, _ => by simp [num, vl]
  | k + 1, [], h => by simp at h
  | k + 1, b :: l, h => by
    show (num k l).map _ = _
    rw [num_vl k l (by simpa using h)]
    rfl
theorem num_none : ∀ (k : Nat) (l : By), l.length < k → num k l = none
  | 0, l, h => by simp at h
  | k + 1, [], _ => rfl
  | k + 1, b :: l, h => by
    show (num k l).map _ = _
    rw [num_none k l (by simpa using h)]
    rfl
end Wr

theorem Wr.or_add (x c i : Nat) (hx : x < 256 ^ i) : x ||| (c * 2 ^ (8 * i)) = x + c * 256 ^ i := by
  have e : 256 ^ i = 2 ^ (8 * i) := by rw [Nat.pow_mul]
  rw [e] at hx ⊢
  have := Nat.two_pow_add_eq_or_of_lt hx c
  rw [Nat.or_comm, Nat.mul_comm c, ← this, Nat.add_comm]
theorem Wr.take_step (L : Wr.By) (i : Nat) (h : i < L.length) (hi : i < 4) : bits .or .u32 ((Wr.vl (L.take i) : Nat) : Int) ((L[i].toNat : Int) % 4294967296 * 2 ^ (8 * i) % 4294967296) = ((Wr.vl (L.take (i + 1)) : Nat) : Int) := by
  have hb := L[i].toNat_lt
  have hl : (L.take i).length = i := by rw [List.length_take]; omega
  have hx := Wr.vl_lt (L.take i)
  rw [hl] at hx
  have hs : Wr.vl (L.take (i + 1)) = Wr.vl (L.take i) + L[i].toNat * 256 ^ i := by rw [List.take_succ_eq_append_getElem h, Wr.vl_snoc, hl]
  have hy : L[i].toNat * 2 ^ (8 * i) < 4294967296 := by
    obtain rfl | rfl | rfl | rfl : i = 0 ∨ i = 1 ∨ i = 2 ∨ i = 3 := by omega
    all_goals omega
  have hx2 : Wr.vl (L.take i) < 4294967296 := by
    obtain rfl | rfl | rfl | rfl : i = 0 ∨ i = 1 ∨ i = 2 ∨ i = 3 := by omega
    all_goals omega
  have e1 : ((L[i].toNat : Int) % 4294967296 * 2 ^ (8 * i) % 4294967296) = ((L[i].toNat * 2 ^ (8 * i) : Nat) : Int) := by
    have e0 : (L[i].toNat : Int) % 4294967296 = (L[i].toNat : Int) := Int.emod_eq_of_lt (by omega) (by omega)
    rw [e0]
    have e2 : ((L[i].toNat : Nat) : Int) * 2 ^ (8 * i) = ((L[i].toNat * 2 ^ (8 * i) : Nat) : Int) := by rw [Int.natCast_mul, Int.natCast_pow]; rfl
    rw [e2]
    exact Int.emod_eq_of_lt (Int.natCast_nonneg _) (Int.ofNat_lt.mpr hy)
  rw [e1, u32_or_nat _ _ hx2 hy, Wr.or_add _ _ _ hx, hs]
theorem grown_set2 (w : World) (a : Addr) (u : Value) : w.grownBy (w.setCell a u) (some a.block) :=
  ⟨rfl, rfl, rfl, by simp [World.setCell], fun k _ hk => heap_setCell_other w a k u (fun e => hk (by rw [e]))⟩

abbrev rdBox (L : Wr.By) (sh : Bool) : Obj := .cells #[strVal L, .bool sh] 42

set_option maxRecDepth 100000 in
set_option maxHeartbeats 1000000 in
theorem number_any (b : Nat) (L : Wr.By) (sh : Bool) (m : Nat) (w : World) (hb : w.heap[b]? = some (rdBox L sh)) (hm : m ≤ 4) :
    Calls Try.prog 44 #[.pointer (some ⟨b, 0, none⟩), .int .i64 m] w fun e w' => ∃ (x : Nat) (L' : Wr.By) (sh' : Bool), e = .returned (.int .u32 x) ∧ x < 256 ^ m ∧ Wr.Step (Wr.num m) (L, sh) x (L', sh') ∧ w'.heap[b]? = some (rdBox L' sh') ∧ w.grownBy w' (some b) := by
  have c0 : w.cell? ⟨b, 0, none⟩ = some (strVal L) := by rw [Lib.cell_of_heap hb]; rfl
  have c1 : w.cell? ⟨b, 1, none⟩ = some (.bool sh) := by rw [Lib.cell_of_heap hb]; rfl
  have f0 : w.frozen? ⟨b, 0, none⟩ = false := Lib.frozen_of_heap hb 0
  have f1 : w.frozen? ⟨b, 1, none⟩ = false := Lib.frozen_of_heap hb 1
  by_cases hlt : L.length < m
  · have d1 : decide (L.length < m) = true := decide_eq_true hlt
    go_enter Try.func44, Try.ntmps44
    go_wp2_with fail
    refine bodyPost_ret (results_tmp rfl _ _ _) rfl ?_
    refine ⟨0, [], true, rfl, Nat.pow_pos (by decide), Wr.Step.none (Wr.num_none m L hlt) rfl, ?_, ?_⟩
    · rw [Lib.heap_setCell_same (Lib.heap_setCell_same hb _)]
      rfl
    · exact (grown_set2 w ⟨b, 0, none⟩ _).trans_row (grown_set2 _ ⟨b, 1, none⟩ _)
  · have d1 : decide (L.length < m) = false := decide_eq_false hlt
    go_enter Try.func44, Try.ntmps44
    go_wp2_with fail
    go_loopw [5, 6, 21] (fun nv _ iv wr => ∃ i : Nat, i ≤ m ∧ iv = .int .i64 i ∧ nv = .int .u32 (Wr.vl (L.take i)) ∧ wr = w) (fun _ _ iv _ => m - (intOf iv).toNat)
    case atStart => exact ⟨0, Nat.zero_le _, rfl, rfl, rfl⟩
    case round =>
      obtain ⟨i, hi, rfl, rfl, rfl⟩ := hrel
      by_cases hil : i < m
      · have hiL : i < L.length := by omega
        have hi4 : i < 4 := by omega
        have HT : Hid _ := Wr.take_step L i hiL hi4
        go_wp2_with fail
        go_roundw
        case rel => exact ⟨i + 1, hil, by go_num, congrArg (Value.int .u32) HT.out, trivial⟩
        case measure => simp [intOf]; omega
      · obtain rfl : i = m := by omega
        have HX : Hid (({ data := List.toArray L } : ByteArray).extract i (List.length L) = { data := (L.drop i).toArray }) := by
          show _ = _
          rw [ByteArray.extract_mk, List.take_of_length_le (by rw [List.length_drop]; exact Nat.le_refl _)]
        have HN : Hid _ := Wr.num_vl i L (by omega)
        have HV : Hid (Wr.vl (L.take i) < 256 ^ i) := by
          have := Wr.vl_lt (L.take i)
          rw [List.length_take, Nat.min_eq_left (by omega)] at this
          exact this
        go_wp2_with fail
        rw [HX.out]
        refine bodyPost_ret (results_tmp rfl _ _ _) rfl ?_
        refine ⟨Wr.vl (L.take i), L.drop i, sh, rfl, HV.out, Wr.Step.some HN.out rfl, ?_, grown_set2 wr ⟨b, 0, none⟩ _⟩
        rw [Lib.heap_setCell_same hb]
        rfl
end Go.Proofs.Ytjeaicahdnoonaa

/- The program's readers of ids and of numbers of a fact. -/
namespace Go.Proofs.Ytjeaicahdnoonaa
open Go.RowKit

abbrev ptrTo (b : Nat) : Value := .pointer (some ⟨b, 0, none⟩)
abbrev rBox (b : Nat) : Obj := .cells #[ptrTo b] 40
theorem grown_alloc (w : World) (o : Obj) (r : Option Nat) : w.grownBy (w.alloc o) r := ⟨rfl, rfl, rfl, by simp, fun k hk _ => Lib.alloc_old w o k hk⟩
theorem grown_refl (w : World) (r : Option Nat) : w.grownBy w r := ⟨rfl, rfl, rfl, Nat.le_refl _, fun _ _ _ => rfl⟩
theorem grown_drew {w z : World} {r : Option Nat} (h : w.drew.grownBy z r) : w.grownBy z r := ⟨h.os, h.tape, h.output, h.size, h.block⟩
/-- A block that is not the reader's stands. -/
theorem grown_old {w w' : World} {b k : Nat} {a : Array Value} {t : TypeId} {fz : Nat × Nat} {L : Wr.By} {sh : Bool} (h : w.grownBy w' (some b)) (hb : w.heap[b]? = some (rdBox L sh)) (hk : w.heap[k]? = some (.cells a t fz)) (ht : t ≠ 42) : w'.heap[k]? = some (.cells a t fz) := by
  rw [h.block k (Array.getElem?_eq_some_iff.1 hk).1 (fun e => ?_)]
  · exact hk
  · cases e
    rw [hb] at hk
    injection hk with hk
    injection hk with _ hk _
    exact ht hk.symm
theorem grown_new {w z : World} {r : Option Nat} (h : w.grownBy z r) (a : Addr) (u : Value) (ha : w.heap.size ≤ a.block) : w.grownBy (z.setCell a u) r :=
  ⟨h.os, h.tape, h.output, by simpa [World.setCell] using h.size, fun k hk hn => (heap_setCell_other z a k u (by omega)).trans (h.block k hk hn)⟩
theorem old_set {z : World} {b k o : Nat} {x : Obj} {a : Array Value} {t : TypeId} {fz : Nat × Nat} (hb : z.heap[b]? = some x) (hk : z.heap[k]? = some (.cells a t fz)) (ht : ∀ c f, x ≠ .cells c t f) (u : Value) : (z.setCell ⟨k, o, none⟩ u).heap[b]? = some x := by
  rw [heap_setCell_other z ⟨k, o, none⟩ b u (fun e => ?_)]
  · exact hb
  · subst e
    rw [hk] at hb
    exact ht a fz (Option.some.inj hb).symm
theorem wrap_small (x : Nat) (h : x < 4294967296) : IntKind.i64.wrap (x : Int) = (x : Int) := by rw [IntKind.wrap_i64]; omega

set_option maxRecDepth 100000 in
set_option maxHeartbeats 1000000 in
theorem rdId_any (R b : Nat) (L : Wr.By) (sh : Bool) (w : World) (hR : w.heap[R]? = some (rBox b)) (hb : w.heap[b]? = some (rdBox L sh)) :
    Calls Try.prog 43 #[ptrTo R] w fun e w' => ∃ (x : Wr.Id) (L' : Wr.By) (sh' : Bool), e = .returned (idVal x) ∧ Wr.Step Wr.idP (L, sh) x (L', sh') ∧ w'.heap[b]? = some (rdBox L' sh') ∧ w.grownBy w' (some b) := by
  have hG := grown_alloc w (.cells #[.int .i64 0, .int .i64 0] 23) (some b)
  have hX := heap_alloc_new w (.cells #[.int .i64 0, .int .i64 0] 23)
  have hR2 := grown_old hG hb hR (by decide)
  have hb2 : (w.alloc (.cells #[.int .i64 0, .int .i64 0] 23)).heap[b]? = some (rdBox L sh) := (Lib.alloc_old w _ b (Array.getElem?_eq_some_iff.1 hb).1).trans hb
  clear hR hb
  go_enter Try.func43, Try.ntmps43
  go_upto_region 1 with fail
  generalize w.alloc (.cells #[.int .i64 0, .int .i64 0] 23) = w2 at *
  have HC : Hid (∀ z, w2.grownBy z (some b) → z.cell? ⟨R, 0, none⟩ = some (ptrTo b) ∧ z.cell? ⟨w.heap.size, 0, none⟩ = some (.int .i64 0) ∧ z.cell? ⟨w.heap.size, 1, none⟩ = some (.int .i64 0) ∧ z.frozen? ⟨w.heap.size, 0, none⟩ = false ∧ z.frozen? ⟨w.heap.size, 1, none⟩ = false) := by
    intro z hz
    have h1 := grown_old hz hb2 hR2 (by decide)
    have h2 := grown_old hz hb2 hX (by decide)
    exact ⟨by rw [Lib.cell_of_heap h1]; rfl, by rw [Lib.cell_of_heap h2]; rfl, by rw [Lib.cell_of_heap h2]; rfl, Lib.frozen_of_heap h2 0, Lib.frozen_of_heap h2 1⟩
  obtain ⟨c0, c1, c2, f0, f1⟩ := HC.out w2 (grown_refl _ _)
  have HN1 : Hid (Calls Try.prog 44 #[ptrTo b, .int .i64 1] w2.drew fun e w' => ∃ (x : Nat) (L' : Wr.By) (sh' : Bool), e = .returned (.int .u32 x) ∧ x < 256 ∧ Hid (Wr.Step (Wr.num 1) (L, sh) x (L', sh')) ∧ Hid (w'.heap[b]? = some (rdBox L' sh')) ∧ Hid (w2.grownBy w' (some b)) ∧ w'.cell? ⟨R, 0, none⟩ = some (ptrTo b) ∧ w'.cell? ⟨w.heap.size, 0, none⟩ = some (.int .i64 0) ∧ w'.cell? ⟨w.heap.size, 1, none⟩ = some (.int .i64 0) ∧ w'.frozen? ⟨w.heap.size, 0, none⟩ = false ∧ w'.frozen? ⟨w.heap.size, 1, none⟩ = false) := by
    refine (number_any b L sh 1 w2.drew hb2 (by omega)).mono ?_
    rintro e w' ⟨x, L', sh', h1, h2, h3, h4, h5⟩
    have h6 := grown_drew h5
    exact ⟨x, L', sh', h1, h2, h3, h4, h6, HC.out w' h6⟩
  have HN2 : Hid (∀ z L1 sh1, Hid (z.heap[b]? = some (rdBox L1 sh1)) → Hid (w2.grownBy z (some b)) → Calls Try.prog 44 #[ptrTo b, .int .i64 2] z fun e w' => ∃ (x : Nat) (L' : Wr.By) (sh' : Bool), e = .returned (.int .u32 x) ∧ x < 65536 ∧ Hid (Wr.Step (Wr.num 2) (L1, sh1) x (L', sh')) ∧ Hid (w'.heap[b]? = some (rdBox L' sh')) ∧ Hid (w2.grownBy w' (some b)) ∧ w'.cell? ⟨R, 0, none⟩ = some (ptrTo b) ∧ w'.cell? ⟨w.heap.size, 0, none⟩ = some (.int .i64 0) ∧ w'.cell? ⟨w.heap.size, 1, none⟩ = some (.int .i64 0) ∧ w'.frozen? ⟨w.heap.size, 0, none⟩ = false ∧ w'.frozen? ⟨w.heap.size, 1, none⟩ = false) := by
    intro z L1 sh1 hz1 hz2
    refine (number_any b L1 sh1 2 z hz1.out (by omega)).mono ?_
    rintro e w' ⟨x, L', sh', h1, h2, h3, h4, h5⟩
    have h6 := hz2.out.trans_row h5
    exact ⟨x, L', sh', h1, h2, h3, h4, h6, HC.out w' h6⟩
  have HX : Hid _ := hX
  clear hX hR2
  go_region_with (first | (go_at_call 44; with_reducible refine Calls.mono HN1.out ?_; rintro e w3 ⟨x, L3, sh3, rfl, hx, hs3, hb3, hg3, d0, d1, d2, d3, d4⟩) | (go_at_call 44; with_reducible refine Calls.mono (HN2.out _ _ _ hb3 hg3) ?_; rintro e w4 ⟨y, L4, sh4, rfl, hy, hs4, hb4, hg4, e0, e1, e2, e3, e4⟩))
  all_goals
    have HD : Hid (∃ w5 : World, (w4.setCell ⟨w.heap.size, 0, none⟩ (.int .i64 x)).setCell ⟨w.heap.size, 1, none⟩ (.int .i64 y) = w5 ∧ w5.cell? ⟨w.heap.size, 0, none⟩ = some (.int .i64 x) ∧ w5.cell? ⟨w.heap.size, 1, none⟩ = some (.int .i64 y) ∧ w5.heap[b]? = some (rdBox L4 sh4) ∧ w.grownBy w5 (some b)) := by
      have h1 := grown_old hg4.out hb2 HX.out (by decide)
      have h2 := Lib.heap_setCell_same (i := 0) h1 (.int .i64 x)
      have h3 := Lib.heap_setCell_same (i := 1) h2 (.int .i64 y)
      refine ⟨_, rfl, by rw [Lib.cell_of_heap h3]; rfl, by rw [Lib.cell_of_heap h3]; rfl, ?_, ?_⟩
      · exact old_set (old_set hb4.out h1 (fun _ _ h => by injection h with _ h _; cases h) _) h2 (fun _ _ h => by injection h with _ h _; cases h) _
      · exact grown_new (grown_new (hG.trans_row hg4.out) _ _ (Nat.le_refl _)) _ _ (Nat.le_refl _)
    rw [wrap_small x (by omega), wrap_small y (by omega)]
    obtain ⟨w5, h50, k0, k1, hb5, hg5⟩ := HD.out
    rw [h50]
    go_wp2_with fail
    exact bodyPost_ret (v := idVal ⟨x, y⟩) (by simp [results, Try.results43, go_sem, k0, k1]) rfl ⟨⟨x, y⟩, L4, sh4, rfl, Wr.Step.id hs3.out hs4.out, hb5, hg5⟩
end Go.Proofs.Ytjeaicahdnoonaa

/- The program's readers of a fact's number, of lists of numbers, and of lists of ids. -/
namespace Go.Proofs.Ytjeaicahdnoonaa
open Go.RowKit

theorem i32_wrap (x : Nat) (h : x < 4294967296) : wrap64 (wrap32 (x : Int)) = Wr.sgn x := by
  unfold Wr.sgn wrap64 wrap32
  split <;> omega
theorem grown_own {w z z' : World} {r : Option Nat} {v : Value} {n e c : Nat} {xs : List Value} (h : w.grownBy z r) (hg : z.grownBy z' v.ownBlock) (ho : z.ownsRow w.heap.size e c v n xs) : w.grownBy z' r :=
  ⟨hg.os.trans h.os, hg.tape.trans h.tape, hg.output.trans h.output, Nat.le_trans h.size hg.size, fun k hk hn => (hg.block k (Nat.lt_of_lt_of_le hk h.size) (fun e => by have := (ho.lt k e.symm).1; omega)).trans (h.block k hk hn)⟩

set_option maxRecDepth 100000 in
set_option maxHeartbeats 1000000 in
theorem rdArg_any (R b : Nat) (L : Wr.By) (sh : Bool) (w : World) (hR : w.heap[R]? = some (rBox b)) (hb : w.heap[b]? = some (rdBox L sh)) :
    Calls Try.prog 45 #[ptrTo R] w fun e w' => ∃ (x : Int) (L' : Wr.By) (sh' : Bool), e = .returned (.int .i64 x) ∧ Wr.Step Wr.argP (L, sh) x (L', sh') ∧ w'.heap[b]? = some (rdBox L' sh') ∧ w.grownBy w' (some b) := by
  have c0 : w.cell? ⟨R, 0, none⟩ = some (ptrTo b) := by rw [Lib.cell_of_heap hR]; rfl
  have HN : Hid _ := number_any b L sh 4 w hb (by omega)
  clear hR hb
  go_enter Try.func45, Try.ntmps45
  go_wp2_with fail
  refine Calls.mono HN.out ?_
  rintro e w3 ⟨x, L3, sh3, rfl, hx, hs3, hb3, hg3⟩
  have hxs : x < 4294967296 := hx
  have HX : Hid (wrap64 (wrap32 (x : Int)) = Wr.sgn x) := i32_wrap x hxs
  have HS : Hid _ := Wr.Step.arg hs3
  clear HN hx hs3 c0
  go_wp2_with fail
  go_ret
  exact ⟨Wr.sgn x, L3, sh3, by rw [← HX.out]; rfl, HS.out, hb3, hg3⟩

theorem wr_info3 : (Try.prog.info? 3).map (fun i => (i.zero, i.size, i.bytes)) = some (some (.int .i64 0), 1, 8) := by kernel_rfl
set_option maxRecDepth 100000 in
set_option maxHeartbeats 1000000 in
theorem rdInts_any (R b : Nat) (L : Wr.By) (sh : Bool) (w : World) (hR : w.heap[R]? = some (rBox b)) (hb : w.heap[b]? = some (rdBox L sh)) :
    Calls Try.prog 47 #[ptrTo b, .func (.func 45) #[] #[ptrTo R]] w fun e w' => ∃ (l : List Int) (v : Value) (L' : Wr.By) (sh' : Bool), e = .returned v ∧ w'.ownsRow w.heap.size 3 1 v l.length (l.map (Value.int .i64)) ∧ l.length ≤ 255 ∧ Wr.Step (Wr.listP Wr.argP) (L, sh) l (L', sh') ∧ w'.heap[b]? = some (rdBox L' sh') ∧ w.grownBy w' (some b) := by
  obtain ⟨i0, hi, hz0, hz1, hz2⟩ := info_parts wr_info3
  have HR : Hid (w.heap[R]? = some (rBox b)) := hR
  have HB : Hid (w.heap[b]? = some (rdBox L sh)) := hb
  have hbw : b < w.heap.size := (Array.getElem?_eq_some_iff.1 hb).1
  have HN : Hid _ := number_any b L sh 1 w hb (by omega)
  clear hR hb
  go_enter Try.func47, Try.ntmps47
  go_wp2_with fail
  refine Calls.mono HN.out ?_
  rintro e w1 ⟨n, L1, sh1, rfl, hn, hs1, hb1, hg1⟩
  have hn2 : n ≤ 255 := Nat.le_of_lt_succ hn
  have HS1 : Hid (Wr.Step (Wr.num 1) (L, sh) n (L1, sh1)) := hs1
  have HB1 : Hid (w1.heap[b]? = some (rdBox L1 sh1)) := hb1
  have HG1 : Hid (w.grownBy w1 (some b)) := hg1
  clear HN hs1 hb1 hg1 hn
  go_wp2_with fail
  go_loopw [5, 8] (fun vs iv wr => ∃ (k : Nat) (l : List Int) (L2 : Wr.By) (sh2 : Bool), k ≤ n ∧ iv = .int .u32 k ∧ wr.ownsRow w.heap.size 3 1 vs l.length (l.map (Value.int .i64)) ∧ Hid (l.length = k) ∧ Hid (Wr.Step (Wr.rep Wr.argP k) (L1, sh1) l (L2, sh2)) ∧ Hid (wr.heap[b]? = some (rdBox L2 sh2)) ∧ Hid (w.grownBy wr (some b))) (fun _ iv _ => n - (intOf iv).toNat)
  case atStart => exact ⟨0, [], L1, sh1, Nat.zero_le _, rfl, World.ownsRow_nil _ _ _ _, rfl, Wr.Step.zero _ _, HB1.out, HG1.out⟩
  case round =>
    obtain ⟨k, l, L2, sh2, hk, rfl, ho, HL, HS2, HB2, HG2⟩ := hrel
    obtain ⟨ao, cap, rfl⟩ := own_slice ho
    by_cases hlt : k < n
    · have HRD : Hid _ := rdArg_any R b L2 sh2 wr (grown_old HG2.out HB.out HR.out (by decide)) HB2.out
      have hll : l.length ≤ 255 := by have := HL.out; omega
      go_wp2_with fail
      refine Calls.mono HRD.out ?_
      rintro e w3 ⟨x, L3, sh3, rfl, hs3, hb3, hg3⟩
      have ho3 := ho.kept hg3 (.inr (fun e => by have := (ho.lt b e).1; omega))
      have HS3 : Hid (Wr.Step (Wr.rep Wr.argP (k + 1)) (L1, sh1) (l ++ [x]) (L3, sh3)) := Wr.Step.snoc HS2.out hs3
      have HB3 : Hid (w3.heap[b]? = some (rdBox L3 sh3)) := hb3
      have HG3 : Hid (w.grownBy w3 (some b)) := HG2.out.trans_row hg3
      have hsz := HG3.out.size
      clear HRD ho hs3 hb3 hg3 HS2 HB2 HG2

      go_wp2_with (at_builtin; refine wpList_append_own _ rfl _ _ 47 rfl w.heap.size 3 i0 _ 1 8 Try.underlying47 hi hz0 hz1 hz2 rfl (by decide) _ _ _ rfl (ho3.alloc _) ⟨w3.heap.size, 0, none⟩ 1 1 ([x].map (Value.int .i64)) rfl rfl ?c1 ?c2 ?c3 ?c4 ?c5 ?_)
      case c2 => intro u hu; simp at hu; subst hu; rfl
      case c3 => unfold maxLen; omega
      case c4 => omega
      case c5 => simp; omega
      · intro j u hj
        match j, hj with
        | 0, hj => simp at hj; subst hj; simp [Addr.add]
      intro vs2 w4 hown4 hgrow4 _
      obtain ⟨ao9, cap9, rfl⟩ := own_slice hown4
      have HO4 : Hid (w4.ownsRow w.heap.size 3 1 (.slice ao9 (l.length + 1) cap9) (l ++ [x]).length ((l ++ [x]).map (Value.int .i64))) := by
        show World.ownsRow _ _ _ _ _ _ _
        rw [List.length_append]
        have : (l ++ [x]).map (Value.int .i64) = l.map (Value.int .i64) ++ [x].map (Value.int .i64) := by simp
        rw [this]
        exact hown4
      have HG4 : Hid (w.grownBy w4 (some b)) := grown_own (grown_own HG3.out (grown_alloc w3 _ _) ho3) hgrow4 (ho3.alloc _)
      have HB4 : Hid (w4.heap[b]? = some (rdBox L3 sh3)) := by
        show _ = _
        rw [hgrow4.block b (by simp; omega) (fun e => by have := (ho3.lt b e.symm).1; omega), Lib.alloc_old w3 _ b (by omega)]
        exact HB3.out
      clear hown4 hgrow4 ho3 HG3 HB3
      go_wp2_with fail
      go_roundw
      case rel => exact ⟨k + 1, l ++ [x], L3, sh3, hlt, by go_num, HO4.out, by rw [List.length_append, HL.out]; rfl, HS3.out, HB4.out, HG4.out⟩
      case measure => simp [intOf]; omega
    · obtain rfl : k = n := by omega
      have HS4 : Hid (Wr.Step (Wr.listP Wr.argP) (L, sh) l (L2, sh2)) := Wr.Step.list HS1.out HS2.out
      go_wp2_with fail
      go_ret
      exact ⟨l, _, L2, sh2, rfl, ho, by rw [HL.out]; exact hn2, HS4.out, HB2.out, HG2.out⟩

abbrev idCells (x : Wr.Id) : List Value := [.int .i64 x.a, .int .i64 x.n]

theorem wr_info23 : (Try.prog.info? 23).map (fun i => (i.zero, i.size, i.bytes)) = some (some (.agg #[.int .i64 0, .int .i64 0]), 2, 16) := by kernel_rfl
set_option maxRecDepth 100000 in
set_option maxHeartbeats 1000000 in
theorem rdIds_any (R b : Nat) (L : Wr.By) (sh : Bool) (w : World) (hR : w.heap[R]? = some (rBox b)) (hb : w.heap[b]? = some (rdBox L sh)) :
    Calls Try.prog 48 #[ptrTo b, .func (.func 43) #[] #[ptrTo R]] w fun e w' => ∃ (l : List Wr.Id) (v : Value) (L' : Wr.By) (sh' : Bool), e = .returned v ∧ w'.ownsRow w.heap.size 23 2 v l.length ((l.map idCells).flatten) ∧ l.length ≤ 255 ∧ Wr.Step (Wr.listP Wr.idP) (L, sh) l (L', sh') ∧ w'.heap[b]? = some (rdBox L' sh') ∧ w.grownBy w' (some b) := by
  obtain ⟨i0, hi, hz0, hz1, hz2⟩ := info_parts wr_info23
  have HR : Hid (w.heap[R]? = some (rBox b)) := hR
  have HB : Hid (w.heap[b]? = some (rdBox L sh)) := hb
  have hbw : b < w.heap.size := (Array.getElem?_eq_some_iff.1 hb).1
  have HN : Hid _ := number_any b L sh 1 w hb (by omega)
  clear hR hb
  go_enter Try.func48, Try.ntmps48
  go_wp2_with fail
  refine Calls.mono HN.out ?_
  rintro e w1 ⟨n, L1, sh1, rfl, hn, hs1, hb1, hg1⟩
  have hn2 : n ≤ 255 := Nat.le_of_lt_succ hn
  have HS1 : Hid (Wr.Step (Wr.num 1) (L, sh) n (L1, sh1)) := hs1
  have HB1 : Hid (w1.heap[b]? = some (rdBox L1 sh1)) := hb1
  have HG1 : Hid (w.grownBy w1 (some b)) := hg1
  clear HN hs1 hb1 hg1 hn
  go_wp2_with fail
  go_loopw [5, 8] (fun vs iv wr => ∃ (k : Nat) (l : List Wr.Id) (L2 : Wr.By) (sh2 : Bool), k ≤ n ∧ iv = .int .u32 k ∧ wr.ownsRow w.heap.size 23 2 vs l.length ((l.map idCells).flatten) ∧ Hid (l.length = k) ∧ Hid (Wr.Step (Wr.rep Wr.idP k) (L1, sh1) l (L2, sh2)) ∧ Hid (wr.heap[b]? = some (rdBox L2 sh2)) ∧ Hid (w.grownBy wr (some b))) (fun _ iv _ => n - (intOf iv).toNat)
  case atStart => exact ⟨0, [], L1, sh1, Nat.zero_le _, rfl, World.ownsRow_nil _ _ _ _, rfl, Wr.Step.zero _ _, HB1.out, HG1.out⟩
  case round =>
    obtain ⟨k, l, L2, sh2, hk, rfl, ho, HL, HS2, HB2, HG2⟩ := hrel
    obtain ⟨ao, cap, rfl⟩ := own_slice ho
    by_cases hlt : k < n
    · have HRD : Hid _ := rdId_any R b L2 sh2 wr (grown_old HG2.out HB.out HR.out (by decide)) HB2.out
      have hll : l.length ≤ 255 := by have := HL.out; omega
      go_wp2_with fail
      refine Calls.mono HRD.out ?_
      rintro e w3 ⟨x, L3, sh3, rfl, hs3, hb3, hg3⟩
      have ho3 := ho.kept hg3 (.inr (fun e => by have := (ho.lt b e).1; omega))
      have HS3 : Hid (Wr.Step (Wr.rep Wr.idP (k + 1)) (L1, sh1) (l ++ [x]) (L3, sh3)) := Wr.Step.snoc HS2.out hs3
      have HB3 : Hid (w3.heap[b]? = some (rdBox L3 sh3)) := hb3
      have HG3 : Hid (w.grownBy w3 (some b)) := HG2.out.trans_row hg3
      have hsz := HG3.out.size
      clear HRD ho hs3 hb3 hg3 HS2 HB2 HG2
      obtain ⟨xa, xn⟩ := x
      go_wp2_with (at_builtin; refine wpList_append_own _ rfl _ _ 24 rfl w.heap.size 23 i0 _ 2 16 Try.underlying24 hi hz0 hz1 hz2 rfl (by decide) _ _ _ rfl (ho3.alloc _) ⟨w3.heap.size, 0, none⟩ 1 1 (([(⟨xa, xn⟩ : Wr.Id)].map idCells).flatten) rfl rfl ?c1 ?c2 ?c3 ?c4 ?c5 ?_)
      case c2 => intro u hu; simp at hu; rcases hu with rfl | rfl <;> rfl
      case c3 => unfold maxLen; omega
      case c4 => omega
      case c5 => simp; omega
      · exact news2 w3 _ _ 23
      intro vs2 w4 hown4 hgrow4 _
      obtain ⟨ao9, cap9, rfl⟩ := own_slice hown4
      have HO4 : Hid (w4.ownsRow w.heap.size 23 2 (.slice ao9 (l.length + 1) cap9) (l ++ [(⟨xa, xn⟩ : Wr.Id)]).length (((l ++ [(⟨xa, xn⟩ : Wr.Id)]).map idCells).flatten)) := by
        show World.ownsRow _ _ _ _ _ _ _
        rw [List.length_append]
        have : ((l ++ [(⟨xa, xn⟩ : Wr.Id)]).map idCells).flatten = (l.map idCells).flatten ++ ([(⟨xa, xn⟩ : Wr.Id)].map idCells).flatten := by simp
        rw [this]
        exact hown4
      have HG4 : Hid (w.grownBy w4 (some b)) := grown_own (grown_own HG3.out (grown_alloc w3 _ _) ho3) hgrow4 (ho3.alloc _)
      have HB4 : Hid (w4.heap[b]? = some (rdBox L3 sh3)) := by
        show _ = _
        rw [hgrow4.block b (by simp; omega) (fun e => by have := (ho3.lt b e.symm).1; omega), Lib.alloc_old w3 _ b (by omega)]
        exact HB3.out
      clear hown4 hgrow4 ho3 HG3 HB3
      go_wp2_with fail
      go_roundw
      case rel => exact ⟨k + 1, l ++ [(⟨xa, xn⟩ : Wr.Id)], L3, sh3, hlt, by go_num, HO4.out, by rw [List.length_append, HL.out]; rfl, HS3.out, HB4.out, HG4.out⟩
      case measure => simp [intOf]; omega
    · obtain rfl : k = n := by omega
      have HS4 : Hid (Wr.Step (Wr.listP Wr.idP) (L, sh) l (L2, sh2)) := Wr.Step.list HS1.out HS2.out
      go_wp2_with fail
      go_ret
      exact ⟨l, _, L2, sh2, rfl, ho, by rw [HL.out]; exact hn2, HS4.out, HB2.out, HG2.out⟩

end Go.Proofs.Ytjeaicahdnoonaa

/- The program's reader of a fact. -/
namespace Go.Proofs.Ytjeaicahdnoonaa
open Go.RowKit

abbrev argFn (R : Nat) : Value := .func (.func 45) #[] #[ptrTo R]
abbrev aBox (R : Nat) : Obj := .cells #[argFn R] 75
/-- A row stands where a cell of a block of another type is set. -/
theorem own_set {z : World} {B e c n k o : Nat} {v u : Value} {xs : List Value} {a : Array Value} {t : TypeId} {fz : Nat × Nat} (h : z.ownsRow B e c v n xs) (hk : z.heap[k]? = some (.cells a t fz)) (ht : e ≠ t) : (z.setCell ⟨k, o, none⟩ u).ownsRow B e c v n xs :=
  own_type h (fun j b hb => old_set hb hk (fun _ _ h => by injection h with _ h _; exact ht h) u)

set_option maxRecDepth 100000 in
set_option maxHeartbeats 1000000 in
theorem rdFact_any (R A b : Nat) (L : Wr.By) (sh : Bool) (w : World) (hR : w.heap[R]? = some (rBox b)) (hA : w.heap[A]? = some (aBox R)) (hb : w.heap[b]? = some (rdBox L sh)) :
    Calls Try.prog 46 #[ptrTo R, ptrTo A] w fun e w' => ∃ (f : Rl.Fc) (v : Value) (L' : Wr.By) (sh' : Bool), e = .returned (fcVal f.pred v) ∧ w'.ownsRow w.heap.size 3 1 v f.args.length (f.args.map (Value.int .i64)) ∧ f.args.length ≤ 255 ∧ Wr.Step Wr.factP (L, sh) f (L', sh') ∧ w'.heap[b]? = some (rdBox L' sh') ∧ w.grownBy w' (some b) := by
  have hG := grown_alloc w (.cells #[.int .i64 0, .slice none 0 0] 49) (some b)
  have hX := heap_alloc_new w (.cells #[.int .i64 0, .slice none 0 0] 49)
  have hR2 := grown_old hG hb hR (by decide)
  have hA2 := grown_old hG hb hA (by decide)
  have hb2 : (w.alloc (.cells #[.int .i64 0, .slice none 0 0] 49)).heap[b]? = some (rdBox L sh) := (Lib.alloc_old w _ b (Array.getElem?_eq_some_iff.1 hb).1).trans hb
  clear hR hA hb
  go_enter Try.func46, Try.ntmps46
  go_upto_region 1 with fail
  generalize w.alloc (.cells #[.int .i64 0, .slice none 0 0] 49) = w2 at *
  have HC : Hid (∀ z, w2.grownBy z (some b) → z.cell? ⟨R, 0, none⟩ = some (ptrTo b) ∧ z.cell? ⟨A, 0, none⟩ = some (argFn R) ∧ z.cell? ⟨w.heap.size, 0, none⟩ = some (.int .i64 0) ∧ z.cell? ⟨w.heap.size, 1, none⟩ = some (.slice none 0 0) ∧ z.frozen? ⟨w.heap.size, 0, none⟩ = false ∧ z.frozen? ⟨w.heap.size, 1, none⟩ = false) := by
    intro z hz
    have h1 := grown_old hz hb2 hR2 (by decide)
    have h2 := grown_old hz hb2 hX (by decide)
    have h3 := grown_old hz hb2 hA2 (by decide)
    exact ⟨by rw [Lib.cell_of_heap h1]; rfl, by rw [Lib.cell_of_heap h3]; rfl, by rw [Lib.cell_of_heap h2]; rfl, by rw [Lib.cell_of_heap h2]; rfl, Lib.frozen_of_heap h2 0, Lib.frozen_of_heap h2 1⟩
  obtain ⟨c0, c3, c1, c2, f0, f1⟩ := HC.out w2 (grown_refl _ _)
  have HN1 : Hid (Calls Try.prog 44 #[ptrTo b, .int .i64 1] w2.drew fun e w' => ∃ (x : Nat) (L' : Wr.By) (sh' : Bool), e = .returned (.int .u32 x) ∧ x < 256 ∧ Hid (Wr.Step (Wr.num 1) (L, sh) x (L', sh')) ∧ Hid (w'.heap[b]? = some (rdBox L' sh')) ∧ Hid (w2.grownBy w' (some b)) ∧ w'.cell? ⟨R, 0, none⟩ = some (ptrTo b) ∧ w'.cell? ⟨A, 0, none⟩ = some (argFn R) ∧ w'.cell? ⟨w.heap.size, 0, none⟩ = some (.int .i64 0) ∧ w'.cell? ⟨w.heap.size, 1, none⟩ = some (.slice none 0 0) ∧ w'.frozen? ⟨w.heap.size, 0, none⟩ = false ∧ w'.frozen? ⟨w.heap.size, 1, none⟩ = false) := by
    refine (number_any b L sh 1 w2.drew hb2 (by omega)).mono ?_
    rintro e w' ⟨x, L', sh', h1, h2, h3, h4, h5⟩
    have h6 := grown_drew h5
    exact ⟨x, L', sh', h1, h2, h3, h4, h6, HC.out w' h6⟩
  have HN2 : Hid (∀ z L1 sh1, Hid (z.heap[b]? = some (rdBox L1 sh1)) → Hid (w2.grownBy z (some b)) → Calls Try.prog 47 #[ptrTo b, argFn R] z fun e w' => ∃ (l : List Int) (ao : Option Addr) (cap : Nat) (L' : Wr.By) (sh' : Bool), e = .returned (.slice ao l.length cap) ∧ Hid (w'.ownsRow w.heap.size 3 1 (.slice ao l.length cap) l.length (l.map (Value.int .i64))) ∧ Hid (l.length ≤ 255) ∧ Hid (Wr.Step (Wr.listP Wr.argP) (L1, sh1) l (L', sh')) ∧ Hid (w'.heap[b]? = some (rdBox L' sh')) ∧ Hid (w2.grownBy w' (some b)) ∧ w'.cell? ⟨w.heap.size, 0, none⟩ = some (.int .i64 0) ∧ w'.cell? ⟨w.heap.size, 1, none⟩ = some (.slice none 0 0) ∧ w'.frozen? ⟨w.heap.size, 0, none⟩ = false ∧ w'.frozen? ⟨w.heap.size, 1, none⟩ = false) := by
    intro z L1 sh1 hz1 hz2
    refine (rdInts_any R b L1 sh1 z (grown_old hz2.out hb2 hR2 (by decide)) hz1.out).mono ?_
    rintro e w' ⟨l, v, L', sh', rfl, h1, h2, h3, h4, h5⟩
    obtain ⟨ao, cap, rfl⟩ := own_slice h1
    have h6 := hz2.out.trans_row h5
    obtain ⟨_, _, k⟩ := HC.out w' h6
    exact ⟨l, ao, cap, L', sh', rfl, rl_own_le h1 (Nat.le_trans hG.size hz2.out.size), h2, h3, h4, h6, k⟩
  have HX : Hid _ := hX
  clear hX hR2 hA2
  go_region_with (first | (go_at_call 44; with_reducible refine Calls.mono HN1.out ?_; rintro e w3 ⟨x, L3, sh3, rfl, hx, hs3, hb3, hg3, d0, d5, d1, d2, d3, d4⟩) | (go_at_call 47; with_reducible refine Calls.mono (HN2.out _ _ _ hb3 hg3) ?_; rintro e w4 ⟨l, ao, cap, L4, sh4, rfl, ho4, hl4, hs4, hb4, hg4, e1, e2, e3, e4⟩))
  all_goals
    have HD : Hid (∃ w5 : World, (w4.setCell ⟨w.heap.size, 0, none⟩ (.int .i64 x)).setCell ⟨w.heap.size, 1, none⟩ (.slice ao l.length cap) = w5 ∧ w5.cell? ⟨w.heap.size, 0, none⟩ = some (.int .i64 x) ∧ w5.cell? ⟨w.heap.size, 1, none⟩ = some (.slice ao l.length cap) ∧ w5.heap[b]? = some (rdBox L4 sh4) ∧ w.grownBy w5 (some b) ∧ w5.ownsRow w.heap.size 3 1 (.slice ao l.length cap) l.length (l.map (Value.int .i64))) := by
      have h1 := grown_old hg4.out hb2 HX.out (by decide)
      have h2 := Lib.heap_setCell_same (i := 0) h1 (.int .i64 x)
      have h3 := Lib.heap_setCell_same (i := 1) h2 (.slice ao l.length cap)
      refine ⟨_, rfl, by rw [Lib.cell_of_heap h3]; rfl, by rw [Lib.cell_of_heap h3]; rfl, ?_, ?_, ?_⟩
      · exact old_set (old_set hb4.out h1 (fun _ _ h => by injection h with _ h _; cases h) _) h2 (fun _ _ h => by injection h with _ h _; cases h) _
      · exact grown_new (grown_new (hG.trans_row hg4.out) _ _ (Nat.le_refl _)) _ _ (Nat.le_refl _)
      · exact own_set (own_set ho4.out h1 (by decide)) h2 (by decide)
    rw [wrap_small x (by omega)]
    obtain ⟨w5, h50, k0, k1, hb5, hg5, ho5⟩ := HD.out
    rw [h50]
    go_wp2_with fail
    exact bodyPost_ret (v := fcVal x (.slice ao l.length cap)) (by simp [results, Try.results46, go_sem, k0, k1]) rfl ⟨⟨x, l⟩, _, L4, sh4, rfl, ho5, hl4.out, Wr.Step.fact hs3.out hs4.out, hb5, hg5⟩
end Go.Proofs.Ytjeaicahdnoonaa

/- The program's reader of a list of facts. -/
namespace Go.Proofs.Ytjeaicahdnoonaa
open Go.RowKit

abbrev factFn (R A : Nat) : Value := .func (.func 46) #[] #[ptrTo R, ptrTo A]
theorem wr_info49 : (Try.prog.info? 49).map (fun i => (i.zero, i.size, i.bytes)) = some (some (.agg #[.int .i64 0, .slice none 0 0]), 2, 32) := by kernel_rfl
/-- Each fact's numbers lie in a row of their own. -/
def ArgsP (B : Nat) (w : World) (q : List Fv) : Prop := ∀ p, p ∈ q → w.ownsRow B 3 1 p.2 p.1.args.length (p.1.args.map (Value.int .i64)) ∧ p.1.args.length ≤ 255
theorem ArgsP.type {B : Nat} {w w' : World} {q : List Fv} (h : ArgsP B w q) (hk : ∀ (k : Nat) (a : Array Value), w.heap[k]? = some (.cells a 3) → w'.heap[k]? = some (.cells a 3)) : ArgsP B w' q := fun p hp => ⟨own_type (h p hp).1 hk, (h p hp).2⟩

set_option maxRecDepth 100000 in
set_option maxHeartbeats 1000000 in
theorem rdFacts_any (R A b : Nat) (L : Wr.By) (sh : Bool) (w : World) (hR : w.heap[R]? = some (rBox b)) (hA : w.heap[A]? = some (aBox R)) (hb : w.heap[b]? = some (rdBox L sh)) :
    Calls Try.prog 49 #[ptrTo b, factFn R A] w fun e w' => ∃ (q : List Fv) (v : Value) (L' : Wr.By) (sh' : Bool), e = .returned v ∧ w'.ownsRow w.heap.size 49 2 v q.length (q.map fcCells).flatten ∧ ArgsP w.heap.size w' q ∧ q.length ≤ 255 ∧ Wr.Step (Wr.listP Wr.factP) (L, sh) (q.map (·.1)) (L', sh') ∧ w'.heap[b]? = some (rdBox L' sh') ∧ w.grownBy w' (some b) := by
  obtain ⟨i0, hi, hz0, hz1, hz2⟩ := info_parts wr_info49
  have HR : Hid (w.heap[R]? = some (rBox b)) := hR
  have HA : Hid (w.heap[A]? = some (aBox R)) := hA
  have HB : Hid (w.heap[b]? = some (rdBox L sh)) := hb
  have hbw : b < w.heap.size := (Array.getElem?_eq_some_iff.1 hb).1
  have HN : Hid _ := number_any b L sh 1 w hb (by omega)
  clear hR hb hA
  go_enter Try.func49, Try.ntmps49
  go_wp2_with fail
  refine Calls.mono HN.out ?_
  rintro e w1 ⟨n, L1, sh1, rfl, hn, hs1, hb1, hg1⟩
  have hn2 : n ≤ 255 := Nat.le_of_lt_succ hn
  have HS1 : Hid (Wr.Step (Wr.num 1) (L, sh) n (L1, sh1)) := hs1
  have HB1 : Hid (w1.heap[b]? = some (rdBox L1 sh1)) := hb1
  have HG1 : Hid (w.grownBy w1 (some b)) := hg1
  clear HN hs1 hb1 hg1 hn
  go_wp2_with fail
  go_loopw [5, 8] (fun vs iv wr => ∃ (k : Nat) (q : List Fv) (L2 : Wr.By) (sh2 : Bool), k ≤ n ∧ iv = .int .u32 k ∧ wr.ownsRow w.heap.size 49 2 vs q.length (q.map fcCells).flatten ∧ Hid (q.length = k) ∧ Hid (ArgsP w.heap.size wr q) ∧ Hid (Wr.Step (Wr.rep Wr.factP k) (L1, sh1) (q.map (·.1)) (L2, sh2)) ∧ Hid (wr.heap[b]? = some (rdBox L2 sh2)) ∧ Hid (w.grownBy wr (some b))) (fun _ iv _ => n - (intOf iv).toNat)
  case atStart => exact ⟨0, [], L1, sh1, Nat.zero_le _, rfl, World.ownsRow_nil _ _ _ _, rfl, (fun p hp => absurd hp (by simp)), Wr.Step.zero _ _, HB1.out, HG1.out⟩
  case round =>
    obtain ⟨k, q, L2, sh2, hk, rfl, ho, HL, HQ, HS2, HB2, HG2⟩ := hrel
    obtain ⟨ao, cap, rfl⟩ := own_slice ho
    by_cases hlt : k < n
    · have HRD : Hid _ := rdFact_any R A b L2 sh2 wr (grown_old HG2.out HB.out HR.out (by decide)) (grown_old HG2.out HB.out HA.out (by decide)) HB2.out
      have hll : q.length ≤ 255 := by have := HL.out; omega
      go_wp2_with fail
      refine Calls.mono HRD.out ?_
      rintro e w3 ⟨⟨xp, xs⟩, fv, L3, sh3, rfl, hof, hfl, hs3, hb3, hg3⟩
      obtain ⟨af, cf, rfl⟩ := own_slice hof
      dsimp only at hof hfl
      have ho3 := ho.kept hg3 (.inr (fun e => by have := (ho.lt b e).1; omega))
      have HS3 : Hid (Wr.Step (Wr.rep Wr.factP (k + 1)) (L1, sh1) ((q ++ [((⟨xp, xs⟩ : Rl.Fc), Value.slice af xs.length cf)]).map (·.1)) (L3, sh3)) := by
        have := Wr.Step.snoc HS2.out hs3
        rw [List.map_append]
        exact this
      have HQ3 : Hid (ArgsP w.heap.size w3 (q ++ [((⟨xp, xs⟩ : Rl.Fc), Value.slice af xs.length cf)])) := by
        intro p hp
        rcases List.mem_append.mp hp with hp | hp
        · exact (HQ.out.type (fun j a hj => grown_old hg3 HB2.out hj (by decide))) p hp
        · obtain rfl : p = ((⟨xp, xs⟩ : Rl.Fc), Value.slice af xs.length cf) := by simpa using hp
          exact ⟨rl_own_le hof HG2.out.size, hfl⟩
      have HB3 : Hid (w3.heap[b]? = some (rdBox L3 sh3)) := hb3
      have HG3 : Hid (w.grownBy w3 (some b)) := HG2.out.trans_row hg3
      have hsz := HG3.out.size
      clear HRD ho hs3 hb3 hg3 HS2 HB2 HG2 HQ hof hfl
      go_wp2_with (at_builtin; refine wpList_append_own _ rfl _ _ 25 rfl w.heap.size 49 i0 _ 2 32 Try.underlying25 hi hz0 hz1 hz2 rfl (by decide) _ _ _ rfl (ho3.alloc _) ⟨w3.heap.size, 0, none⟩ 1 1 (fcCells (⟨xp, xs⟩, .slice af xs.length cf)) rfl rfl ?c1 ?c2 ?c3 ?c4 ?c5 ?_)
      case c2 => intro u hu; simp [fcCells] at hu; rcases hu with rfl | rfl <;> rfl
      case c3 => unfold maxLen; omega
      case c4 => omega
      case c5 => simp; omega
      · exact news2 w3 _ _ 49
      intro vs2 w4 hown4 hgrow4 _
      obtain ⟨ao9, cap9, rfl⟩ := own_slice hown4
      have HO4 : Hid (w4.ownsRow w.heap.size 49 2 (.slice ao9 (q.length + 1) cap9) (q ++ [((⟨xp, xs⟩ : Rl.Fc), Value.slice af xs.length cf)]).length ((q ++ [((⟨xp, xs⟩ : Rl.Fc), Value.slice af xs.length cf)]).map fcCells).flatten) := by
        show World.ownsRow _ _ _ _ _ _ _
        rw [List.length_append, List.map_append, List.flatten_append]
        simpa using hown4
      have HG4 : Hid (w.grownBy w4 (some b)) := grown_own (grown_own HG3.out (grown_alloc w3 _ _) ho3) hgrow4 (ho3.alloc _)
      have HB4 : Hid (w4.heap[b]? = some (rdBox L3 sh3)) := by
        show _ = _
        rw [hgrow4.block b (by simp; omega) (fun e => by have := (ho3.lt b e.symm).1; omega), Lib.alloc_old w3 _ b (by omega)]
        exact HB3.out
      have HQ4 : Hid (ArgsP w.heap.size w4 (q ++ [((⟨xp, xs⟩ : Rl.Fc), Value.slice af xs.length cf)])) := by
        refine HQ3.out.type (fun j a hj => ?_)
        have hj2 := (Lib.alloc_old w3 (.cells #[.int .i64 xp, .slice af xs.length cf] 49) j (Array.getElem?_eq_some_iff.1 hj).1).trans hj
        rw [hgrow4.block j (by have := (Array.getElem?_eq_some_iff.1 hj).1; simp; omega) (fun e => absurd (own_ty ho3 e.symm hj) (by decide))]
        exact hj2
      clear hown4 hgrow4 ho3 HG3 HB3 HQ3
      go_wp2_with fail
      go_roundw
      case rel => exact ⟨k + 1, _, L3, sh3, hlt, by go_num, HO4.out, by rw [List.length_append, HL.out]; rfl, HQ4.out, HS3.out, HB4.out, HG4.out⟩
      case measure => simp [intOf]; omega
    · obtain rfl : k = n := by omega
      have HS4 : Hid (Wr.Step (Wr.listP Wr.factP) (L, sh) (q.map (·.1)) (L2, sh2)) := Wr.Step.list HS1.out HS2.out
      go_wp2_with fail
      go_ret
      exact ⟨q, _, L2, sh2, rfl, ho, HQ.out, by rw [HL.out]; exact hn2, HS4.out, HB2.out, HG2.out⟩
end Go.Proofs.Ytjeaicahdnoonaa

/- The program's reader of an update. -/
namespace Go.Proofs.Ytjeaicahdnoonaa
open Go.RowKit

/-- What stands but the reader and boxes of updates. -/
def KD (z z' : World) : Prop := ∀ (k : Nat) (a : Array Value) (t : TypeId), t ≠ 42 → t ≠ 27 → z.heap[k]? = some (.cells a t) → z'.heap[k]? = some (.cells a t)
theorem KD.refl (z : World) : KD z z := fun _ _ _ _ _ h => h
theorem KD.trans {a b c : World} (h : KD a b) (k : KD b c) : KD a c := fun i x t h1 h2 h3 => k i x t h1 h2 (h i x t h1 h2 h3)
theorem KD.own {z z' : World} (h : KD z z') {B e c n : Nat} {v : Value} {xs : List Value} (ho : z.ownsRow B e c v n xs) (h1 : e ≠ 42) (h2 : e ≠ 27) : z'.ownsRow B e c v n xs := own_type ho (fun k a hk => h k a e h1 h2 hk)
theorem KD.args {z z' : World} (h : KD z z') {B : Nat} {q : List Fv} (ho : ArgsP B z q) : ArgsP B z' q := ho.type (fun k a hk => h k a 3 (by decide) (by decide) hk)
theorem KD.grown {z z' : World} {b : Nat} {L : Wr.By} {sh : Bool} (h : z.grownBy z' (some b)) (hb : z.heap[b]? = some (rdBox L sh)) : KD z z' := fun _ _ _ h1 _ hk => grown_old h hb hk h1
theorem KD.set {z : World} {U o : Nat} {a : Array Value} {fz : Nat × Nat} (hU : z.heap[U]? = some (.cells a 27 fz)) (u : Value) : KD z (z.setCell ⟨U, o, none⟩ u) := fun _ _ t _ h2 hk => old_set hk hU (fun _ _ h => by injection h with _ h _; exact h2 h) u
theorem KD.alloc (z : World) (o : Obj) : KD z (z.alloc o) := fun k _ _ _ _ hk => (Lib.alloc_old z o k (Array.getElem?_eq_some_iff.1 hk).1).trans hk

abbrev zeroUp : Array Value := #[.int .i64 0, .int .i64 0, .slice none 0 0, .slice none 0 0, .slice none 0 0]
/-- The boxes of the reader of an update. -/
structure St5 (z : World) (R A T U b : Nat) (L : Wr.By) (sh : Bool) (uc : Array Value) : Prop where
  r : z.heap[R]? = some (rBox b)
  a : z.heap[A]? = some (aBox R)
  t : z.heap[T]? = some (.cells zeroUp 27)
  u : z.heap[U]? = some (.cells uc 27)
  b : z.heap[b]? = some (rdBox L sh)
  ne : T ≠ U
section
variable {z z' : World} {R A T U b : Nat} {L L' : Wr.By} {sh sh' : Bool} {uc : Array Value}
theorem St5.grown (h : St5 z R A T U b L sh uc) (hg : z.grownBy z' (some b)) (hb : z'.heap[b]? = some (rdBox L' sh')) : St5 z' R A T U b L' sh' uc :=
  ⟨grown_old hg h.b h.r (by decide), grown_old hg h.b h.a (by decide), grown_old hg h.b h.t (by decide), grown_old hg h.b h.u (by decide), hb, h.ne⟩
theorem St5.set (h : St5 z R A T U b L sh uc) (i : Nat) (v : Value) : St5 (z.setCell ⟨U, i, none⟩ v) R A T U b L sh (uc.setIfInBounds i v) :=
  ⟨old_set h.r h.u (fun _ _ h => by injection h with _ h _; cases h) v, old_set h.a h.u (fun _ _ h => by injection h with _ h _; cases h) v, (heap_setCell_other z ⟨U, i, none⟩ T v h.ne).trans h.t, Lib.heap_setCell_same h.u v, old_set h.b h.u (fun _ _ h => by injection h with _ h _; cases h) v, h.ne⟩
end

/-- A box of an update that is written whole. -/
abbrev five (z : World) (T : Nat) (v0 v1 v2 v3 v4 : Value) : World := ((((z.setCell ⟨T, 0, none⟩ v0).setCell ⟨T, 1, none⟩ v1).setCell ⟨T, 2, none⟩ v2).setCell ⟨T, 3, none⟩ v3).setCell ⟨T, 4, none⟩ v4
theorem five_set {z : World} {T : Nat} {x0 x1 x2 x3 x4 : Value} (hT : z.heap[T]? = some (.cells #[x0, x1, x2, x3, x4] 27)) (v0 v1 v2 v3 v4 : Value) :
    (five z T v0 v1 v2 v3 v4).heap[T]? = some (.cells #[v0, v1, v2, v3, v4] 27) ∧ KD z (five z T v0 v1 v2 v3 v4) ∧ (∀ {b : Nat} {L : Wr.By} {sh : Bool}, z.heap[b]? = some (rdBox L sh) → (five z T v0 v1 v2 v3 v4).heap[b]? = some (rdBox L sh)) ∧ ∀ {w : World} {r : Option Nat}, w.grownBy z r → w.heap.size ≤ T → w.grownBy (five z T v0 v1 v2 v3 v4) r := by
  have h1 := Lib.heap_setCell_same (i := 0) hT v0
  have h2 := Lib.heap_setCell_same (i := 1) h1 v1
  have h3 := Lib.heap_setCell_same (i := 2) h2 v2
  have h4 := Lib.heap_setCell_same (i := 3) h3 v3
  have h5 := Lib.heap_setCell_same (i := 4) h4 v4
  refine ⟨h5, (((((KD.set hT v0).trans (KD.set h1 v1)).trans (KD.set h2 v2)).trans (KD.set h3 v3)).trans (KD.set h4 v4)), fun hb => ?_, fun hg ht => ?_⟩
  · have n : ∀ {L : Wr.By} {sh : Bool} (c : Array Value) (f : Nat × Nat), rdBox L sh ≠ .cells c 27 f := fun _ _ h => by injection h with _ h _; cases h
    exact old_set (old_set (old_set (old_set (old_set hb hT n v0) h1 n v1) h2 n v2) h3 n v3) h4 n v4
  · exact grown_new (grown_new (grown_new (grown_new (grown_new hg _ _ ht) _ _ ht) _ _ ht) _ _ ht) _ _ ht

set_option maxRecDepth 100000 in
set_option maxHeartbeats 1000000 in
theorem rdUp_any (b : Nat) (L : Wr.By) (sh : Bool) (w : World) (hb : w.heap[b]? = some (rdBox L sh)) :
    Calls Try.prog 14 #[ptrTo b] w fun e w' => ∃ (x : Wr.Id) (ps ts : List Wr.Id) (q : List Fv) (vp vs vt : Value) (L' : Wr.By) (sh' : Bool), e = .returned (upVal ⟨x, ps, q.map (·.1), ts⟩ vp vs vt) ∧ w'.ownsRow w.heap.size 23 2 vp ps.length (ps.map idCells).flatten ∧ w'.ownsRow w.heap.size 23 2 vt ts.length (ts.map idCells).flatten ∧ w'.ownsRow w.heap.size 49 2 vs q.length (q.map fcCells).flatten ∧ ArgsP w.heap.size w' q ∧ (ps.length ≤ 255 ∧ q.length ≤ 255 ∧ ts.length ≤ 255) ∧ Wr.Step Wr.upP (L, sh) ⟨x, ps, q.map (·.1), ts⟩ (L', sh') ∧ w'.heap[b]? = some (rdBox L' sh') ∧ w.grownBy w' (some b) := by
  have hbw := (Array.getElem?_eq_some_iff.1 hb).1
  have hR := heap_alloc_new w (rBox b)
  have hT := heap_alloc_new (w.alloc (rBox b)) (.cells zeroUp 27)
  have hA := heap_alloc_new ((w.alloc (rBox b)).alloc (.cells zeroUp 27)) (aBox w.heap.size)
  have hG : w.grownBy (((w.alloc (rBox b)).alloc (.cells zeroUp 27)).alloc (aBox w.heap.size)) (some b) := ((grown_alloc w _ _).trans_row (grown_alloc _ _ _)).trans_row (grown_alloc _ _ _)
  have e1 : (w.alloc (rBox b)).heap.size = w.heap.size + 1 := by simp
  have e2 : ((w.alloc (rBox b)).alloc (.cells zeroUp 27)).heap.size = w.heap.size + 1 + 1 := by simp
  have hT2 : (((w.alloc (rBox b)).alloc (.cells zeroUp 27)).alloc (aBox w.heap.size)).heap[w.heap.size + 1]? = some (.cells zeroUp 27) := by
    rw [Lib.alloc_old _ _ _ (by rw [e2]; omega), ← e1]
    exact hT
  have hR2 : (((w.alloc (rBox b)).alloc (.cells zeroUp 27)).alloc (aBox w.heap.size)).heap[w.heap.size]? = some (rBox b) := by
    rw [Lib.alloc_old _ _ _ (by rw [e2]; omega), Lib.alloc_old _ _ _ (by rw [e1]; omega)]
    exact hR
  have hA2 : (((w.alloc (rBox b)).alloc (.cells zeroUp 27)).alloc (aBox w.heap.size)).heap[w.heap.size + 1 + 1]? = some (aBox w.heap.size) := by
    rw [← e2]
    exact hA
  have hb2 : (((w.alloc (rBox b)).alloc (.cells zeroUp 27)).alloc (aBox w.heap.size)).heap[b]? = some (rdBox L sh) := by
    rw [Lib.alloc_old _ _ _ (by rw [e2]; omega), Lib.alloc_old _ _ _ (by rw [e1]; omega), Lib.alloc_old _ _ _ hbw]
    exact hb
  have hsz : w.heap.size + 3 = (((w.alloc (rBox b)).alloc (.cells zeroUp 27)).alloc (aBox w.heap.size)).heap.size := by simp
  clear hb hR hT hA e1 e2
  go_enter Try.func14, Try.ntmps14
  go_upto_region 4 with fail
  generalize ((w.alloc (rBox b)).alloc (.cells zeroUp 27)).alloc (aBox w.heap.size) = w2 at *
  have HG : Hid (w.grownBy w2 (some b)) := hG
  have HB2 : Hid (w2.heap[b]? = some (rdBox L sh)) := hb2
  have HR2 : Hid (w2.heap[w.heap.size]? = some (rBox b)) := hR2
  have HA2 : Hid (w2.heap[w.heap.size + 1 + 1]? = some (aBox w.heap.size)) := hA2
  have HT2 : Hid (w2.heap[w.heap.size + 1]? = some (.cells zeroUp 27)) := hT2
  have HSZ : Hid (w.heap.size + 3 = w2.heap.size) := hsz
  have H1 : Hid _ := rdId_any w.heap.size b L sh w2 hR2 hb2
  clear hG hb2 hR2 hA2 hT2 hsz
  go_wp2_with fail
  refine Calls.mono H1.out ?_
  rintro e w3 ⟨⟨xa, xn⟩, L3, sh3, rfl, hs3, hb3, hg3⟩
  have HS3 : Hid (Wr.Step Wr.idP (L, sh) ⟨xa, xn⟩ (L3, sh3)) := hs3
  have H4 : Hid (St5 (w3.alloc (.cells #[.int .i64 xa, .int .i64 xn, .slice none 0 0, .slice none 0 0, .slice none 0 0] 27)) w.heap.size (w.heap.size + 1 + 1) (w.heap.size + 1) w3.heap.size b L3 sh3 #[.int .i64 xa, .int .i64 xn, .slice none 0 0, .slice none 0 0, .slice none 0 0]) := by
    have ol : ∀ {k : Nat} {x : Obj}, w3.heap[k]? = some x → (w3.alloc (.cells #[.int .i64 xa, .int .i64 xn, .slice none 0 0, .slice none 0 0, .slice none 0 0] 27)).heap[k]? = some x := fun hk => (Lib.alloc_old w3 _ _ (Array.getElem?_eq_some_iff.1 hk).1).trans hk
    exact ⟨ol (grown_old hg3 HB2.out HR2.out (by decide)), ol (grown_old hg3 HB2.out HA2.out (by decide)), ol (grown_old hg3 HB2.out HT2.out (by decide)), heap_alloc_new w3 _, ol hb3, by have := HSZ.out; have := hg3.size; omega⟩
  have HG4 : Hid (w.grownBy (w3.alloc (.cells #[.int .i64 xa, .int .i64 xn, .slice none 0 0, .slice none 0 0, .slice none 0 0] 27)) (some b)) := (HG.out.trans_row hg3).trans_row (grown_alloc _ _ _)
  have HU : Hid (w.heap.size ≤ w3.heap.size) := by have := HSZ.out; have := hg3.size; show _ ≤ _; omega
  clear H1 hs3 hb3 hg3 HB2 HR2 HA2 HT2
  go_upto_region 5 with fail
  generalize w3.alloc (.cells #[.int .i64 xa, .int .i64 xn, .slice none 0 0, .slice none 0 0, .slice none 0 0] 27) = w4 at *
  generalize w3.heap.size = U at *
  have c0 : w4.cell? ⟨w.heap.size, 0, none⟩ = some (ptrTo b) := by rw [Lib.cell_of_heap H4.out.r]; rfl
  have H5 : Hid _ := rdIds_any w.heap.size b L3 sh3 w4 H4.out.r H4.out.b
  go_wp2_with fail
  refine Calls.mono H5.out ?_
  rintro e w5 ⟨ps, vp, L5, sh5, rfl, ho5, hl5, hs5, hb5, hg5⟩
  obtain ⟨ap, cp, rfl⟩ := own_slice ho5
  have H5 : Hid _ := H4.out.grown hg5 hb5
  have HS5 : Hid (Wr.Step (Wr.listP Wr.idP) (L3, sh3) ps (L5, sh5)) := hs5
  have H6 : Hid _ := H5.out.set 2 (.slice ap ps.length cp)
  have HO6 : Hid ((w5.setCell ⟨U, 2, none⟩ (.slice ap ps.length cp)).ownsRow w.heap.size 23 2 (.slice ap ps.length cp) ps.length (ps.map idCells).flatten) := (KD.set H5.out.u _).own (rl_own_le ho5 HG4.out.size) (by decide) (by decide)
  have HG6 : Hid (w.grownBy (w5.setCell ⟨U, 2, none⟩ (.slice ap ps.length cp)) (some b)) := grown_new (HG4.out.trans_row hg5) _ _ HU.out
  have HL5 : Hid (ps.length ≤ 255) := hl5
  have d0 : w5.cell? ⟨U, 2, none⟩ = some (.slice none 0 0) := by rw [Lib.cell_of_heap H5.out.u]; rfl
  have d1 : w5.frozen? ⟨U, 2, none⟩ = false := Lib.frozen_of_heap H5.out.u 2
  clear ho5 hl5 hs5 hb5 hg5 c0 H4 HG4
  go_upto_region 6 with fail
  clear d0 d1 H5
  generalize w5.setCell ⟨U, 2, none⟩ (.slice ap ps.length cp) = w6 at *
  have c0 : w6.cell? ⟨w.heap.size, 0, none⟩ = some (ptrTo b) := by rw [Lib.cell_of_heap H6.out.r]; rfl
  have H7 : Hid _ := rdFacts_any w.heap.size (w.heap.size + 1 + 1) b L5 sh5 w6 H6.out.r H6.out.a H6.out.b
  go_wp2_with fail
  refine Calls.mono H7.out ?_
  rintro e w7 ⟨q, vs, L7, sh7, rfl, ho7, ha7, hl7, hs7, hb7, hg7⟩
  obtain ⟨as_, cs, rfl⟩ := own_slice ho7
  have K7 := KD.grown hg7 H6.out.b
  have H7 : Hid _ := H6.out.grown hg7 hb7
  have HS7 : Hid (Wr.Step (Wr.listP Wr.factP) (L5, sh5) (q.map (·.1)) (L7, sh7)) := hs7
  have H8 : Hid _ := H7.out.set 3 (.slice as_ q.length cs)
  have K8 := KD.set (o := 3) H7.out.u (.slice as_ q.length cs)
  have HO8 : Hid ((w7.setCell ⟨U, 3, none⟩ (.slice as_ q.length cs)).ownsRow w.heap.size 23 2 (.slice ap ps.length cp) ps.length (ps.map idCells).flatten) := (K7.trans K8).own HO6.out (by decide) (by decide)
  have HF8 : Hid ((w7.setCell ⟨U, 3, none⟩ (.slice as_ q.length cs)).ownsRow w.heap.size 49 2 (.slice as_ q.length cs) q.length (q.map fcCells).flatten) := K8.own (rl_own_le ho7 HG6.out.size) (by decide) (by decide)
  have HA8 : Hid (ArgsP w.heap.size (w7.setCell ⟨U, 3, none⟩ (.slice as_ q.length cs)) q) := K8.args (fun p hp => ⟨rl_own_le (ha7 p hp).1 HG6.out.size, (ha7 p hp).2⟩)
  have HG8 : Hid (w.grownBy (w7.setCell ⟨U, 3, none⟩ (.slice as_ q.length cs)) (some b)) := grown_new (HG6.out.trans_row hg7) _ _ HU.out
  have HL7 : Hid (q.length ≤ 255) := hl7
  have d0 : w7.cell? ⟨U, 3, none⟩ = some (.slice none 0 0) := by rw [Lib.cell_of_heap H7.out.u]; rfl
  have d1 : w7.frozen? ⟨U, 3, none⟩ = false := Lib.frozen_of_heap H7.out.u 3
  clear ho7 ha7 hl7 hs7 hb7 hg7 c0 H6 HG6 HO6 K7 K8
  go_upto_region 7 with fail
  clear d0 d1 H7
  generalize w7.setCell ⟨U, 3, none⟩ (.slice as_ q.length cs) = w8 at *
  have c0 : w8.cell? ⟨w.heap.size, 0, none⟩ = some (ptrTo b) := by rw [Lib.cell_of_heap H8.out.r]; rfl
  have H9 : Hid _ := rdIds_any w.heap.size b L7 sh7 w8 H8.out.r H8.out.b
  go_wp2_with fail
  refine Calls.mono H9.out ?_
  rintro e w9 ⟨ts, vt, L9, sh9, rfl, ho9, hl9, hs9, hb9, hg9⟩
  obtain ⟨at_, ct, rfl⟩ := own_slice ho9
  have K9 := KD.grown hg9 H8.out.b
  have H9 : Hid _ := H8.out.grown hg9 hb9
  have HS9 : Hid (Wr.Step Wr.upP (L, sh) ⟨⟨xa, xn⟩, ps, q.map (·.1), ts⟩ (L9, sh9)) := Wr.Step.up HS3.out HS5.out HS7.out hs9
  have H10 : Hid _ := H9.out.set 4 (.slice at_ ts.length ct)
  have K10 := KD.set (o := 4) H9.out.u (.slice at_ ts.length ct)
  have HO10 : Hid ((w9.setCell ⟨U, 4, none⟩ (.slice at_ ts.length ct)).ownsRow w.heap.size 23 2 (.slice ap ps.length cp) ps.length (ps.map idCells).flatten) := (K9.trans K10).own HO8.out (by decide) (by decide)
  have HT10 : Hid ((w9.setCell ⟨U, 4, none⟩ (.slice at_ ts.length ct)).ownsRow w.heap.size 23 2 (.slice at_ ts.length ct) ts.length (ts.map idCells).flatten) := K10.own (rl_own_le ho9 HG8.out.size) (by decide) (by decide)
  have HF10 : Hid ((w9.setCell ⟨U, 4, none⟩ (.slice at_ ts.length ct)).ownsRow w.heap.size 49 2 (.slice as_ q.length cs) q.length (q.map fcCells).flatten) := (K9.trans K10).own HF8.out (by decide) (by decide)
  have HA10 : Hid (ArgsP w.heap.size (w9.setCell ⟨U, 4, none⟩ (.slice at_ ts.length ct)) q) := (K9.trans K10).args HA8.out
  have HG10 : Hid (w.grownBy (w9.setCell ⟨U, 4, none⟩ (.slice at_ ts.length ct)) (some b)) := grown_new (HG8.out.trans_row hg9) _ _ HU.out
  have HL9 : Hid (ts.length ≤ 255) := hl9
  have d0 : w9.cell? ⟨U, 4, none⟩ = some (.slice none 0 0) := by rw [Lib.cell_of_heap H9.out.u]; rfl
  have d1 : w9.frozen? ⟨U, 4, none⟩ = false := Lib.frozen_of_heap H9.out.u 4
  clear ho9 hl9 hs9 hb9 hg9 c0 H8 HG8 HO8 HF8 HA8 K9 K10 HS3 HS5 HS7
  go_upto_region 8 with fail
  clear d0 d1 H9
  generalize w9.setCell ⟨U, 4, none⟩ (.slice at_ ts.length ct) = w10 at *
  have u0 : w10.cell? ⟨U, 0, none⟩ = some (.int .i64 xa) := by rw [Lib.cell_of_heap H10.out.u]; rfl
  have u1 : w10.cell? ⟨U, 1, none⟩ = some (.int .i64 xn) := by rw [Lib.cell_of_heap H10.out.u]; rfl
  have u2 : w10.cell? ⟨U, 2, none⟩ = some (.slice ap ps.length cp) := by rw [Lib.cell_of_heap H10.out.u]; rfl
  have u3 : w10.cell? ⟨U, 3, none⟩ = some (.slice as_ q.length cs) := by rw [Lib.cell_of_heap H10.out.u]; rfl
  have u4 : w10.cell? ⟨U, 4, none⟩ = some (.slice at_ ts.length ct) := by rw [Lib.cell_of_heap H10.out.u]; rfl
  have t0 : w10.cell? ⟨w.heap.size + 1, 0, none⟩ = some (.int .i64 0) := by rw [Lib.cell_of_heap H10.out.t]; rfl
  have t1 : w10.cell? ⟨w.heap.size + 1, 1, none⟩ = some (.int .i64 0) := by rw [Lib.cell_of_heap H10.out.t]; rfl
  have t2 : w10.cell? ⟨w.heap.size + 1, 2, none⟩ = some (.slice none 0 0) := by rw [Lib.cell_of_heap H10.out.t]; rfl
  have t3 : w10.cell? ⟨w.heap.size + 1, 3, none⟩ = some (.slice none 0 0) := by rw [Lib.cell_of_heap H10.out.t]; rfl
  have t4 : w10.cell? ⟨w.heap.size + 1, 4, none⟩ = some (.slice none 0 0) := by rw [Lib.cell_of_heap H10.out.t]; rfl
  have f0 : w10.frozen? ⟨w.heap.size + 1, 0, none⟩ = false := Lib.frozen_of_heap H10.out.t 0
  have f1 : w10.frozen? ⟨w.heap.size + 1, 1, none⟩ = false := Lib.frozen_of_heap H10.out.t 1
  have f2 : w10.frozen? ⟨w.heap.size + 1, 2, none⟩ = false := Lib.frozen_of_heap H10.out.t 2
  have f3 : w10.frozen? ⟨w.heap.size + 1, 3, none⟩ = false := Lib.frozen_of_heap H10.out.t 3
  have f4 : w10.frozen? ⟨w.heap.size + 1, 4, none⟩ = false := Lib.frozen_of_heap H10.out.t 4
  have HE : Hid _ := five_set H10.out.t (.int .i64 xa) (.int .i64 xn) (.slice ap ps.length cp) (.slice as_ q.length cs) (.slice at_ ts.length ct)
  go_wp2_with fail
  clear u0 u1 u2 u3 u4 t0 t1 t2 t3 t4 f0 f1 f2 f3 f4
  obtain ⟨k1, k2, k3, k4⟩ := HE.out
  have hb11 := k3 H10.out.b
  have hg11 := k4 HG10.out (by omega)
  have ho11 := k2.own HO10.out (by decide) (by decide)
  have ht11 := k2.own HT10.out (by decide) (by decide)
  have hf11 := k2.own HF10.out (by decide) (by decide)
  have ha11 := k2.args HA10.out
  clear k2 k3 k4 HE H10
  change bodyPost _ _ _ _ _ (five _ _ _ _ _ _ _)
  generalize five w10 (w.heap.size + 1) (.int .i64 xa) (.int .i64 xn) (.slice ap ps.length cp) (.slice as_ q.length cs) (.slice at_ ts.length ct) = w11 at *
  have t0 : w11.cell? ⟨w.heap.size + 1, 0, none⟩ = some (.int .i64 xa) := by rw [Lib.cell_of_heap k1]; rfl
  have t1 : w11.cell? ⟨w.heap.size + 1, 1, none⟩ = some (.int .i64 xn) := by rw [Lib.cell_of_heap k1]; rfl
  have t2 : w11.cell? ⟨w.heap.size + 1, 2, none⟩ = some (.slice ap ps.length cp) := by rw [Lib.cell_of_heap k1]; rfl
  have t3 : w11.cell? ⟨w.heap.size + 1, 3, none⟩ = some (.slice as_ q.length cs) := by rw [Lib.cell_of_heap k1]; rfl
  have t4 : w11.cell? ⟨w.heap.size + 1, 4, none⟩ = some (.slice at_ ts.length ct) := by rw [Lib.cell_of_heap k1]; rfl
  exact bodyPost_ret (v := upVal ⟨⟨xa, xn⟩, ps, q.map (·.1), ts⟩ (.slice ap ps.length cp) (.slice as_ q.length cs) (.slice at_ ts.length ct)) (by simp [results, Try.results14, go_sem, t0, t1, t2, t3, t4]) rfl ⟨⟨xa, xn⟩, ps, ts, q, _, _, _, L9, sh9, rfl, ho11, ht11, hf11, ha11, ⟨HL5.out, HL7.out, HL9.out⟩, HS9.out, hb11, hg11⟩
end Go.Proofs.Ytjeaicahdnoonaa

/- Decode. -/
namespace Go.Proofs.Ytjeaicahdnoonaa
open Go.RowKit

theorem flat2 {α : Type} (f : α → List Value) (hf : ∀ x, (f x).length = 2) : ∀ (l : List α) (i : Nat) (h : i < l.length) (j : Nat), j < 2 → ((l.map f).flatten)[i * 2 + j]? = (f l[i])[j]?
  | x :: l, 0, h, j, hj => by
    rw [List.map_cons, List.flatten_cons, Nat.zero_mul, Nat.zero_add, List.getElem?_append_left (by rw [hf]; exact hj)]
    rfl
  | x :: l, i + 1, h, j, hj => by
    rw [List.map_cons, List.flatten_cons, List.getElem?_append_right (by rw [hf]; omega), hf]
    have e : (i + 1) * 2 + j - 2 = i * 2 + j := by omega
    rw [e, flat2 f hf l i (by simpa using h) j hj]
    rfl
theorem own_ids {w : World} {B : Nat} {v : Value} {l : List Wr.Id} (h : w.ownsRow B 23 2 v l.length (l.map idCells).flatten) : IdsV w v l := by
  rcases ownsRow_forms9 h with ⟨rfl, h0⟩ | ⟨g, cap, rfl⟩
  · have : l = [] := List.eq_nil_of_length_eq_zero h0
    subst this
    exact ⟨none, 0, rfl, ⟨Nat.le_refl _, fun _ => rfl⟩, .inl rfl⟩
  · obtain ⟨ao, cap', hv, hc, hcs⟩ := own_cells h
    injection hv with h1 h2 h3
    subst h1 h3
    refine ⟨_, cap, rfl, ⟨hc, fun h => by cases h⟩, ?_⟩
    rcases hcs with h0 | ⟨g', hg, hcs⟩
    · exact .inl (List.eq_nil_of_length_eq_zero h0)
    · cases hg
      refine .inr ⟨g, 0, rfl, fun i hi => ?_⟩
      have hd : idD l i = l[i] := by simp [idD, hi]
      have a := flat2 idCells (fun _ => rfl) l i hi
      rw [Nat.zero_add, hd]
      exact ⟨(hcs (i * 2) (by omega)).trans (a 0 (by decide)), (hcs (i * 2 + 1) (by omega)).trans (a 1 (by decide))⟩
theorem own_fcs {w : World} {B : Nat} {v : Value} {q : List Fv} (h : w.ownsRow B 49 2 v q.length (q.map fcCells).flatten) (ha : ArgsP B w q) : FactsV w v (q.map (·.1)) := by
  rcases ownsRow_forms9 h with ⟨rfl, h0⟩ | ⟨g, cap, rfl⟩
  · have : q = [] := List.eq_nil_of_length_eq_zero h0
    subst this
    exact ⟨none, 0, rfl, ⟨Nat.le_refl _, fun _ => rfl⟩, .inl rfl⟩
  · obtain ⟨ao, cap', hv, hc, hcs⟩ := own_cells h
    injection hv with h1 h2 h3
    subst h1 h3
    refine ⟨_, cap, by rw [List.length_map], ⟨by rw [List.length_map]; exact hc, fun h => by cases h⟩, ?_⟩
    rcases hcs with h0 | ⟨g', hg, hcs⟩
    · exact .inl (by rw [List.eq_nil_of_length_eq_zero h0]; rfl)
    · cases hg
      refine .inr ⟨g, 0, rfl, fun i hi => ?_⟩
      rw [List.length_map] at hi
      have hd : Rl.factD (q.map (·.1)) i = q[i].1 := by simp [Rl.factD, hi]
      have a := flat2 fcCells (fun _ => rfl) q i hi
      rw [Nat.zero_add, hd]
      exact ⟨(hcs (i * 2) (by omega)).trans (a 0 (by decide)), q[i].2, (hcs (i * 2 + 1) (by omega)).trans (a 1 (by decide)), own_ints (ha _ (List.getElem_mem hi)).1⟩

namespace Wr
def noUp : Up := ⟨⟨0, 0⟩, [], [], []⟩
/-- What Decode answers: the update and the errno. -/
def decU (l : By) : Up := match dec l with
  | none => noUp
  | some u => if check u = 0 then u else noUp
def decE (l : By) : Int := match dec l with
  | none => 1
  | some u => check u
theorem decU_none {l : By} (h : dec l = none) : decU l = noUp ∧ decE l = 1 := by unfold decU decE; rw [h]; exact ⟨rfl, rfl⟩
theorem decU_ok {l : By} {u : Up} (h : dec l = some u) (hc : check u = 0) : decU l = u ∧ decE l = 0 := by unfold decU decE; rw [h]; exact ⟨if_pos hc, hc⟩
theorem decU_bad {l : By} {u : Up} (h : dec l = some u) (hc : ¬ check u = 0) : decU l = noUp ∧ decE l = check u := by unfold decU decE; rw [h]; exact ⟨if_neg hc, rfl⟩
end Wr
/-- An update as it lies in memory. -/
def UpV (w : World) (u : Wr.Up) (vp vs vt : Value) : Prop := IdsV w vp u.ps ∧ FactsV w vs u.says ∧ IdsV w vt u.ts ∧ (∀ f, f ∈ u.says → FFit f) ∧ (u.ps.length ≤ 255 ∧ u.says.length ≤ 255 ∧ u.ts.length ≤ 255)
theorem UpV.no (w : World) : UpV w Wr.noUp (.slice none 0 0) (.slice none 0 0) (.slice none 0 0) :=
  ⟨⟨none, 0, rfl, ⟨Nat.le_refl _, fun _ => rfl⟩, .inl rfl⟩, ⟨none, 0, rfl, ⟨Nat.le_refl _, fun _ => rfl⟩, .inl rfl⟩, ⟨none, 0, rfl, ⟨Nat.le_refl _, fun _ => rfl⟩, .inl rfl⟩, fun f hf => absurd hf (by simp [Wr.noUp]), by decide⟩

theorem below_grown {N : Nat} {w z z' : World} {b : Nat} (h : Below N w z) (hg : z.grownBy z' (some b)) (hb : N ≤ b) (hN : N ≤ z.heap.size := by omega) : Below N w z' :=
  ⟨hg.os.trans h.os, hg.tape.trans h.tape, hg.output.trans h.output, Nat.le_trans h.size hg.size, fun k hk => (hg.block k (by omega) (fun e => by cases e; omega)).trans (h.block k hk)⟩
theorem five_below {w z : World} (h : Below w.heap.size w z) {v0 v1 v2 v3 v4 : Value} : Below w.heap.size w (five z w.heap.size v0 v1 v2 v3 v4) := by
  have s : ∀ {y : World} (i : Nat) (v : Value), Below w.heap.size w y → Below w.heap.size w (y.setCell ⟨w.heap.size, i, none⟩ v) := fun i v hy => hy.setCell (Nat.le_refl _) v
  exact s 4 _ (s 3 _ (s 2 _ (s 1 _ (s 0 _ h))))

set_option maxRecDepth 100000 in
set_option maxHeartbeats 1000000 in
theorem Decode_any (l : Wr.By) (w : World) :
    Calls Try.prog 6 #[strVal l] w fun e w' => ∃ vp vs vt, e = .returned (.tuple #[upVal (Wr.decU l) vp vs vt, .int .i64 (Wr.decE l)]) ∧ UpV w' (Wr.decU l) vp vs vt ∧ Below w.heap.size w w' := by
  have hT := heap_alloc_new w (.cells zeroUp 27)
  have hb := heap_alloc_new (w.alloc (.cells zeroUp 27)) (rdBox l false)
  have e1 : (w.alloc (.cells zeroUp 27)).heap.size = w.heap.size + 1 := by simp
  have hG : Below w.heap.size w ((w.alloc (.cells zeroUp 27)).alloc (rdBox l false)) := below_two w _ _
  have hT2 : ((w.alloc (.cells zeroUp 27)).alloc (rdBox l false)).heap[w.heap.size]? = some (.cells zeroUp 27) := by
    rw [Lib.alloc_old _ _ _ (by rw [e1]; omega)]
    exact hT
  rw [e1] at hb
  clear hT e1
  go_enter Try.func6, Try.ntmps6
  go_upto_region 2 with fail
  generalize (w.alloc (.cells zeroUp 27)).alloc (rdBox l false) = w2 at *
  have HT : Hid (w2.heap[w.heap.size]? = some (.cells zeroUp 27)) := hT2
  have HB : Hid (w2.heap[w.heap.size + 1]? = some (rdBox l false)) := hb
  have HR : Hid _ := rdUp_any (w.heap.size + 1) l false w2 hb
  have HGB : Hid (Below w.heap.size w w2) := hG
  clear hb hG hT2
  go_wp2_with fail
  refine Calls.mono HR.out ?_
  rintro e w3 ⟨⟨xa, xn⟩, ps, ts, q, vp, vs, vt, L3, sh3, rfl, hp, ht, hs, ha, hl, hst, hb3, hg3⟩
  obtain ⟨ap, cp, rfl⟩ := own_slice hp
  obtain ⟨as_, cs, rfl⟩ := own_slice hs
  obtain ⟨at_, ct, rfl⟩ := own_slice ht
  have HST : Hid (Wr.Step Wr.upP (l, false) ⟨⟨xa, xn⟩, ps, q.map (·.1), ts⟩ (L3, sh3)) := hst
  have HL : Hid (ps.length ≤ 255 ∧ q.length ≤ 255 ∧ ts.length ≤ 255) := hl
  have K4 := KD.alloc w3 (.cells #[.int .i64 xa, .int .i64 xn, .slice ap ps.length cp, .slice as_ q.length cs, .slice at_ ts.length ct] 27)
  have HP4 : Hid _ := K4.own hp (by decide) (by decide)
  have HS4 : Hid _ := K4.own hs (by decide) (by decide)
  have HQ4 : Hid _ := K4.own ht (by decide) (by decide)
  have HA4 : Hid _ := K4.args ha
  have ol : ∀ {k : Nat} {x : Obj}, w3.heap[k]? = some x → (w3.alloc (.cells #[.int .i64 xa, .int .i64 xn, .slice ap ps.length cp, .slice as_ q.length cs, .slice at_ ts.length ct] 27)).heap[k]? = some x := fun hk => (Lib.alloc_old w3 _ _ (Array.getElem?_eq_some_iff.1 hk).1).trans hk
  have HT4 : Hid ((w3.alloc (.cells #[.int .i64 xa, .int .i64 xn, .slice ap ps.length cp, .slice as_ q.length cs, .slice at_ ts.length ct] 27)).heap[w.heap.size]? = some (.cells zeroUp 27)) := ol (grown_old hg3 HB.out HT.out (by decide))
  have HR4 : Hid ((w3.alloc (.cells #[.int .i64 xa, .int .i64 xn, .slice ap ps.length cp, .slice as_ q.length cs, .slice at_ ts.length ct] 27)).heap[w.heap.size + 1]? = some (rdBox L3 sh3)) := ol hb3
  have HU4 : Hid ((w3.alloc (.cells #[.int .i64 xa, .int .i64 xn, .slice ap ps.length cp, .slice as_ q.length cs, .slice at_ ts.length ct] 27)).heap[w3.heap.size]? = some (.cells #[.int .i64 xa, .int .i64 xn, .slice ap ps.length cp, .slice as_ q.length cs, .slice at_ ts.length ct] 27)) := heap_alloc_new w3 _
  have HB4 : Hid (Below w.heap.size w (w3.alloc (.cells #[.int .i64 xa, .int .i64 xn, .slice ap ps.length cp, .slice as_ q.length cs, .slice at_ ts.length ct] 27))) := (below_grown HGB.out hg3 (by omega) HGB.out.size).alloc (Nat.le_trans HGB.out.size hg3.size) _
  clear HR hp hs ht ha hl hst hb3 hg3 K4 ol HB HT HGB
  go_upto_region 3 with fail
  generalize w3.alloc (.cells #[.int .i64 xa, .int .i64 xn, .slice ap ps.length cp, .slice as_ q.length cs, .slice at_ ts.length ct] 27) = w4 at *
  generalize w3.heap.size = U at *
  have r0 : w4.cell? ⟨w.heap.size + 1, 0, none⟩ = some (strVal L3) := by rw [Lib.cell_of_heap HR4.out]; rfl
  have r1 : w4.cell? ⟨w.heap.size + 1, 1, none⟩ = some (.bool sh3) := by rw [Lib.cell_of_heap HR4.out]; rfl
  have t0 : w4.cell? ⟨w.heap.size, 0, none⟩ = some (.int .i64 0) := by rw [Lib.cell_of_heap HT4.out]; rfl
  have f0 : w4.frozen? ⟨w.heap.size, 0, none⟩ = false := Lib.frozen_of_heap HT4.out 0
  have t1 : w4.cell? ⟨w.heap.size, 1, none⟩ = some (.int .i64 0) := by rw [Lib.cell_of_heap HT4.out]; rfl
  have f1 : w4.frozen? ⟨w.heap.size, 1, none⟩ = false := Lib.frozen_of_heap HT4.out 1
  have t2 : w4.cell? ⟨w.heap.size, 2, none⟩ = some (.slice none 0 0) := by rw [Lib.cell_of_heap HT4.out]; rfl
  have f2 : w4.frozen? ⟨w.heap.size, 2, none⟩ = false := Lib.frozen_of_heap HT4.out 2
  have t3 : w4.cell? ⟨w.heap.size, 3, none⟩ = some (.slice none 0 0) := by rw [Lib.cell_of_heap HT4.out]; rfl
  have f3 : w4.frozen? ⟨w.heap.size, 3, none⟩ = false := Lib.frozen_of_heap HT4.out 3
  have t4 : w4.cell? ⟨w.heap.size, 4, none⟩ = some (.slice none 0 0) := by rw [Lib.cell_of_heap HT4.out]; rfl
  have f4 : w4.frozen? ⟨w.heap.size, 4, none⟩ = false := Lib.frozen_of_heap HT4.out 4
  cases sh3 with
  | true =>
    have HU : Hid _ := Wr.decU_none (Wr.dec_bad HST.out rfl)
    have HE : Hid _ := five_set HT4.out (.int .i64 0) (.int .i64 0) (.slice none 0 0) (.slice none 0 0) (.slice none 0 0)
    have HBF : Hid (Below w.heap.size w (five w4 w.heap.size (.int .i64 0) (.int .i64 0) (.slice none 0 0) (.slice none 0 0) (.slice none 0 0))) := five_below HB4.out
    go_wp2_with fail
    clear t0 t1 t2 t3 t4 f0 f1 f2 f3 f4
    obtain ⟨k1, k2, _, _⟩ := HE.out
    change bodyPost _ _ _ _ _ (five _ _ _ _ _ _ _)
    clear HE
    generalize five w4 w.heap.size (.int .i64 0) (.int .i64 0) (.slice none 0 0) (.slice none 0 0) (.slice none 0 0) = w11 at *
    have t0 : w11.cell? ⟨w.heap.size, 0, none⟩ = some (.int .i64 0) := by rw [Lib.cell_of_heap k1]; rfl
    have t1 : w11.cell? ⟨w.heap.size, 1, none⟩ = some (.int .i64 0) := by rw [Lib.cell_of_heap k1]; rfl
    have t2 : w11.cell? ⟨w.heap.size, 2, none⟩ = some (.slice none 0 0) := by rw [Lib.cell_of_heap k1]; rfl
    have t3 : w11.cell? ⟨w.heap.size, 3, none⟩ = some (.slice none 0 0) := by rw [Lib.cell_of_heap k1]; rfl
    have t4 : w11.cell? ⟨w.heap.size, 4, none⟩ = some (.slice none 0 0) := by rw [Lib.cell_of_heap k1]; rfl
    exact bodyPost_ret (v := .tuple #[.agg #[(.int .i64 0), (.int .i64 0), (.slice none 0 0), (.slice none 0 0), (.slice none 0 0)], .int .i64 1]) (by simp [results, Try.results6, go_sem, t0, t1, t2, t3, t4]) rfl ⟨_, _, _, by rw [HU.out.1, HU.out.2]; rfl, by rw [HU.out.1]; exact UpV.no _, HBF.out⟩
  | false =>
    cases L3 with
    | cons c L3 =>
      have HU : Hid _ := Wr.decU_none (Wr.dec_more HST.out rfl (by simp))
      have HE : Hid _ := five_set HT4.out (.int .i64 0) (.int .i64 0) (.slice none 0 0) (.slice none 0 0) (.slice none 0 0)
      have HBF : Hid (Below w.heap.size w (five w4 w.heap.size (.int .i64 0) (.int .i64 0) (.slice none 0 0) (.slice none 0 0) (.slice none 0 0))) := five_below HB4.out
      go_wp2_with fail
      clear t0 t1 t2 t3 t4 f0 f1 f2 f3 f4
      obtain ⟨k1, k2, _, _⟩ := HE.out
      change bodyPost _ _ _ _ _ (five _ _ _ _ _ _ _)
      clear HE
      generalize five w4 w.heap.size (.int .i64 0) (.int .i64 0) (.slice none 0 0) (.slice none 0 0) (.slice none 0 0) = w11 at *
      have t0 : w11.cell? ⟨w.heap.size, 0, none⟩ = some (.int .i64 0) := by rw [Lib.cell_of_heap k1]; rfl
      have t1 : w11.cell? ⟨w.heap.size, 1, none⟩ = some (.int .i64 0) := by rw [Lib.cell_of_heap k1]; rfl
      have t2 : w11.cell? ⟨w.heap.size, 2, none⟩ = some (.slice none 0 0) := by rw [Lib.cell_of_heap k1]; rfl
      have t3 : w11.cell? ⟨w.heap.size, 3, none⟩ = some (.slice none 0 0) := by rw [Lib.cell_of_heap k1]; rfl
      have t4 : w11.cell? ⟨w.heap.size, 4, none⟩ = some (.slice none 0 0) := by rw [Lib.cell_of_heap k1]; rfl
      exact bodyPost_ret (v := .tuple #[.agg #[(.int .i64 0), (.int .i64 0), (.slice none 0 0), (.slice none 0 0), (.slice none 0 0)], .int .i64 1]) (by simp [results, Try.results6, go_sem, t0, t1, t2, t3, t4]) rfl ⟨_, _, _, by rw [HU.out.1, HU.out.2]; rfl, by rw [HU.out.1]; exact UpV.no _, HBF.out⟩
    | nil =>
      have HD : Hid _ := Wr.dec_ok HST.out rfl rfl
      have c0 : w4.cell? ⟨U, 0, none⟩ = some (.int .i64 xa) := by rw [Lib.cell_of_heap HU4.out]; rfl
      have c1 : w4.cell? ⟨U, 1, none⟩ = some (.int .i64 xn) := by rw [Lib.cell_of_heap HU4.out]; rfl
      have c2 : w4.cell? ⟨U, 2, none⟩ = some (.slice ap ps.length cp) := by rw [Lib.cell_of_heap HU4.out]; rfl
      have c3 : w4.cell? ⟨U, 3, none⟩ = some (.slice as_ q.length cs) := by rw [Lib.cell_of_heap HU4.out]; rfl
      have c4 : w4.cell? ⟨U, 4, none⟩ = some (.slice at_ ts.length ct) := by rw [Lib.cell_of_heap HU4.out]; rfl
      have HFF : Hid (∀ f, f ∈ q.map (·.1) → FFit f) := by
        intro f hf
        obtain ⟨p, hp, rfl⟩ := List.mem_map.mp hf
        exact Nat.le_trans (HA4.out p hp).2 (by decide)
      have hcl : q.length = (q.map (·.1)).length := by rw [List.length_map]
      have HCK : Hid (Calls Try.prog 11 #[.agg #[.int .i64 xa, .int .i64 xn, .slice ap ps.length cp, .slice as_ q.length cs, .slice at_ ts.length ct]] w4 fun e w' => e = .returned (.int .i64 (Wr.check ⟨⟨xa, xn⟩, ps, q.map (·.1), ts⟩)) ∧ Below w4.heap.size w4 w') :=
        Check_any ⟨⟨xa, xn⟩, ps, q.map (fun p : Fv => p.1), ts⟩ _ (.slice as_ q.length cs) _ w4 (own_ids HP4.out) (own_fcs HS4.out HA4.out) (own_ids HQ4.out) HFF.out (by have := HL.out; dsimp only; rw [← hcl]; omega)
      clear hcl
      go_wp2_with fail
      refine Calls.mono HCK.out ?_
      rintro e w5 ⟨rfl, hb5⟩
      have HB5 : Hid (Below w.heap.size w w5) := HB4.out.trans (hb5.mono HB4.out.size)
      have HT5 : Hid (w5.heap[w.heap.size]? = some (.cells zeroUp 27)) := (hb5.block _ (Array.getElem?_eq_some_iff.1 HT4.out).1).trans HT4.out
      have HU5 : Hid (w5.heap[U]? = some (.cells #[.int .i64 xa, .int .i64 xn, .slice ap ps.length cp, .slice as_ q.length cs, .slice at_ ts.length ct] 27)) := (hb5.block _ (Array.getElem?_eq_some_iff.1 HU4.out).1).trans HU4.out
      have HP5 : Hid _ := ownsRow_below HP4.out hb5
      have HS5 : Hid _ := ownsRow_below HS4.out hb5
      have HQ5 : Hid _ := ownsRow_below HQ4.out hb5
      have HA5 : Hid (ArgsP w2.heap.size w5 q) := fun p hp => ⟨ownsRow_below (HA4.out p hp).1 hb5, (HA4.out p hp).2⟩
      clear HCK c0 c1 c2 c3 c4 t0 t1 t2 t3 t4 f0 f1 f2 f3 f4 r0 r1 HB4 HT4 HU4 HP4 HS4 HQ4 HA4 HR4 hb5
      have HB4 := HB5
      have HT4 := HT5
      have t0 : w5.cell? ⟨w.heap.size, 0, none⟩ = some (.int .i64 0) := by rw [Lib.cell_of_heap HT4.out]; rfl
      have f0 : w5.frozen? ⟨w.heap.size, 0, none⟩ = false := Lib.frozen_of_heap HT4.out 0
      have t1 : w5.cell? ⟨w.heap.size, 1, none⟩ = some (.int .i64 0) := by rw [Lib.cell_of_heap HT4.out]; rfl
      have f1 : w5.frozen? ⟨w.heap.size, 1, none⟩ = false := Lib.frozen_of_heap HT4.out 1
      have t2 : w5.cell? ⟨w.heap.size, 2, none⟩ = some (.slice none 0 0) := by rw [Lib.cell_of_heap HT4.out]; rfl
      have f2 : w5.frozen? ⟨w.heap.size, 2, none⟩ = false := Lib.frozen_of_heap HT4.out 2
      have t3 : w5.cell? ⟨w.heap.size, 3, none⟩ = some (.slice none 0 0) := by rw [Lib.cell_of_heap HT4.out]; rfl
      have f3 : w5.frozen? ⟨w.heap.size, 3, none⟩ = false := Lib.frozen_of_heap HT4.out 3
      have t4 : w5.cell? ⟨w.heap.size, 4, none⟩ = some (.slice none 0 0) := by rw [Lib.cell_of_heap HT4.out]; rfl
      have f4 : w5.frozen? ⟨w.heap.size, 4, none⟩ = false := Lib.frozen_of_heap HT4.out 4
      by_cases hc : Wr.check ⟨⟨xa, xn⟩, ps, q.map (·.1), ts⟩ = 0
      · have HU : Hid _ := Wr.decU_ok HD.out hc
        have c0 : w5.cell? ⟨U, 0, none⟩ = some (.int .i64 xa) := by rw [Lib.cell_of_heap HU5.out]; rfl
        have c1 : w5.cell? ⟨U, 1, none⟩ = some (.int .i64 xn) := by rw [Lib.cell_of_heap HU5.out]; rfl
        have c2 : w5.cell? ⟨U, 2, none⟩ = some (.slice ap ps.length cp) := by rw [Lib.cell_of_heap HU5.out]; rfl
        have c3 : w5.cell? ⟨U, 3, none⟩ = some (.slice as_ q.length cs) := by rw [Lib.cell_of_heap HU5.out]; rfl
        have c4 : w5.cell? ⟨U, 4, none⟩ = some (.slice at_ ts.length ct) := by rw [Lib.cell_of_heap HU5.out]; rfl
        rw [hc]
        clear hc
        have HE : Hid _ := five_set HT4.out (.int .i64 xa) (.int .i64 xn) (.slice ap ps.length cp) (.slice as_ q.length cs) (.slice at_ ts.length ct)
        have HBF : Hid (Below w.heap.size w (five w5 w.heap.size (.int .i64 xa) (.int .i64 xn) (.slice ap ps.length cp) (.slice as_ q.length cs) (.slice at_ ts.length ct))) := five_below HB4.out
        go_wp2_with fail
        clear t0 t1 t2 t3 t4 f0 f1 f2 f3 f4
        obtain ⟨k1, k2, _, _⟩ := HE.out
        have hP := own_ids (k2.own HP5.out (by decide) (by decide))
        have hS := own_fcs (k2.own HS5.out (by decide) (by decide)) (k2.args HA5.out)
        have hQ := own_ids (k2.own HQ5.out (by decide) (by decide))
        have hq : (q.map (·.1)).length = q.length := List.length_map ..
        clear c0 c1 c2 c3 c4 k2
        change bodyPost _ _ _ _ _ (five _ _ _ _ _ _ _)
        clear HE
        generalize five w5 w.heap.size (.int .i64 xa) (.int .i64 xn) (.slice ap ps.length cp) (.slice as_ q.length cs) (.slice at_ ts.length ct) = w11 at *
        have t0 : w11.cell? ⟨w.heap.size, 0, none⟩ = some (.int .i64 xa) := by rw [Lib.cell_of_heap k1]; rfl
        have t1 : w11.cell? ⟨w.heap.size, 1, none⟩ = some (.int .i64 xn) := by rw [Lib.cell_of_heap k1]; rfl
        have t2 : w11.cell? ⟨w.heap.size, 2, none⟩ = some (.slice ap ps.length cp) := by rw [Lib.cell_of_heap k1]; rfl
        have t3 : w11.cell? ⟨w.heap.size, 3, none⟩ = some (.slice as_ q.length cs) := by rw [Lib.cell_of_heap k1]; rfl
        have t4 : w11.cell? ⟨w.heap.size, 4, none⟩ = some (.slice at_ ts.length ct) := by rw [Lib.cell_of_heap k1]; rfl
        exact bodyPost_ret (v := .tuple #[.agg #[(.int .i64 xa), (.int .i64 xn), (.slice ap ps.length cp), (.slice as_ q.length cs), (.slice at_ ts.length ct)], .int .i64 0]) (by simp [results, Try.results6, go_sem, t0, t1, t2, t3, t4]) rfl ⟨_, _, _, by rw [HU.out.1, HU.out.2], by rw [HU.out.1]; exact ⟨hP, hS, hQ, HFF.out, by have := HL.out; dsimp only; rw [hq]; exact this⟩, HBF.out⟩
      · have HU : Hid _ := Wr.decU_bad HD.out hc
        have hne : (Wr.check ⟨⟨xa, xn⟩, ps, q.map (·.1), ts⟩ != 0) = true := by simpa using hc
        generalize Wr.check ⟨⟨xa, xn⟩, ps, q.map (·.1), ts⟩ = ck at *
        have HE : Hid _ := five_set HT4.out (.int .i64 0) (.int .i64 0) (.slice none 0 0) (.slice none 0 0) (.slice none 0 0)
        have HBF : Hid (Below w.heap.size w (five w5 w.heap.size (.int .i64 0) (.int .i64 0) (.slice none 0 0) (.slice none 0 0) (.slice none 0 0))) := five_below HB4.out
        go_wp2_with fail
        clear t0 t1 t2 t3 t4 f0 f1 f2 f3 f4
        obtain ⟨k1, k2, _, _⟩ := HE.out
        change bodyPost _ _ _ _ _ (five _ _ _ _ _ _ _)
        clear HE
        generalize five w5 w.heap.size (.int .i64 0) (.int .i64 0) (.slice none 0 0) (.slice none 0 0) (.slice none 0 0) = w11 at *
        have t0 : w11.cell? ⟨w.heap.size, 0, none⟩ = some (.int .i64 0) := by rw [Lib.cell_of_heap k1]; rfl
        have t1 : w11.cell? ⟨w.heap.size, 1, none⟩ = some (.int .i64 0) := by rw [Lib.cell_of_heap k1]; rfl
        have t2 : w11.cell? ⟨w.heap.size, 2, none⟩ = some (.slice none 0 0) := by rw [Lib.cell_of_heap k1]; rfl
        have t3 : w11.cell? ⟨w.heap.size, 3, none⟩ = some (.slice none 0 0) := by rw [Lib.cell_of_heap k1]; rfl
        have t4 : w11.cell? ⟨w.heap.size, 4, none⟩ = some (.slice none 0 0) := by rw [Lib.cell_of_heap k1]; rfl
        exact bodyPost_ret (v := .tuple #[.agg #[(.int .i64 0), (.int .i64 0), (.slice none 0 0), (.slice none 0 0), (.slice none 0 0)], .int .i64 ck]) (by simp [results, Try.results6, go_sem, t0, t1, t2, t3, t4]) rfl ⟨_, _, _, by rw [HU.out.1, HU.out.2]; rfl, by rw [HU.out.1]; exact UpV.no _, HBF.out⟩
end Go.Proofs.Ytjeaicahdnoonaa

