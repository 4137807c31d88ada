/- Own texts, one behind the other (part 3). -/
import Derived.Test.YtgpaleifhcdjnaaGreatDoorBundleB
import Derived.Test.YtgpaleifhcdjnaaGreatDoorRows
import Derived.Test.YtgpaleifhcdjnaaGreatDoorCards
import Derived.Test.YtgpaleifhcdjnaaGreatDoorTie
import Derived.Lib.AtoiBound
import Derived.Deep.AppendLies
import Derived.Deep.RegionLaw
import Derived.Deep.DeepCutAuto
import Derived.RegionDies
/- The parser's names, numbers and terms. -/
namespace Go.Proofs.YtgpaleifhcdjnaaGreatDoor
open Go.RowKit

/-- A token that is laid aside. -/
abbrev putTok (w : World) (x : Tk.Tok) : World := w.alloc (.cells #[.int .i64 x.kind, .int .i64 x.at_, .string ⟨x.text.toArray⟩] 53)
theorem below_put {w w1 : World} (hb : Below w.heap.size w w1) (x : Tk.Tok) : Below w.heap.size w (putTok w1 x) := hb.alloc hb.size _
/-- Behind a step, with a token laid aside. -/
theorem went_set {w w1 : World} {P : Nat} {L : List Tk.Tok} {en : Int} {r : List Tk.Tok} {v : Value} (hb : Below w.heap.size w w1) (h : At (w1.setCell ⟨P, 1, none⟩ v) P L en r) (o : Obj) :
    w.grownBy ((w1.setCell ⟨P, 1, none⟩ v).alloc o) (some P) ∧ At ((w1.setCell ⟨P, 1, none⟩ v).alloc o) P L en r :=
  ⟨grownBy_trans (grownBy_of_below hb _) (grownBy_trans (grownBy_set _ _) (grownBy_of_below ((Below.refl _ _).alloc (Nat.le_refl _) _) _)), h.below ((Below.refl _ _).alloc (Nat.le_refl _) _)⟩

set_option maxRecDepth 100000 in
set_option maxHeartbeats 400000 in
theorem name_no (P : Nat) (L : List Tk.Tok) (en : Int) (r : List Tk.Tok) (w : World) (hA : At w P L en r) (h : (((Pr.hd en r).kind == 1) && !Tr.isWord (Pr.hd en r).text) = false) :
    Calls Tryz.prog 125 #[.pointer (some ⟨P, 0, none⟩)] w fun e w' => e = gaveP (Pr.hd en r).at_ ∧ Below w.heap.size w w' := by
  have hG : Hid (∀ w1, Below w.heap.size w w1 → Calls Tryz.prog 150 #[.pointer (some ⟨P, 0, none⟩)] w1 fun e w' => e = gaveP (Pr.hd en r).at_ ∧ Below w.heap.size w w') :=
    (fun w1 hb => (giveUp_any P L en r w1 (hA.below hb)).mono (by rintro e w2 ⟨rfl, hb2⟩; exact ⟨rfl, hb.trans (hb2.mono hb.size)⟩))
  have hpk := peek_any P L en r w hA
  generalize Pr.hd en r = x at *
  cases hk : (x.kind == 1)
  · have hk' : (x.kind != 1) = true := by simp [bne, hk]
    go_enter Tryz.func125, Tryz.ntmps125
    go_wp2_with fail
    refine hpk.mono ?_
    rintro e w1 ⟨rfl, hb⟩
    have hlt := Nat.lt_of_lt_of_le hA.lt hb.size
    go_wp2_with fail
    refine Calls.mono (hG.out _ (below_put hb x)) ?_
    rintro e w2 ⟨rfl, hb2⟩
    exact ⟨rfl, rfl, hb2⟩
  · have hw : Tr.isWord x.text = true := by simpa [hk] using h
    have hk' : (x.kind != 1) = false := by simp [bne, hk]
    go_enter Tryz.func125, Tryz.ntmps125
    go_wp2_with fail
    refine hpk.mono ?_
    rintro e w1 ⟨rfl, hb⟩
    have hlt := Nat.lt_of_lt_of_le hA.lt hb.size
    go_wp2_with fail
    refine (isWord_any _ _).mono ?_
    rintro e w2 ⟨rfl, rfl⟩
    rw [hw]
    go_wp2_with fail
    refine Calls.mono (hG.out _ (below_put hb x)) ?_
    rintro e w2 ⟨rfl, hb2⟩
    exact ⟨rfl, rfl, hb2⟩

set_option maxRecDepth 100000 in
set_option maxHeartbeats 400000 in
theorem name_yes (P : Nat) (L : List Tk.Tok) (en : Int) (r : List Tk.Tok) (w : World) (hA : At w P L en r) (h : (((Pr.hd en r).kind == 1) && !Tr.isWord (Pr.hd en r).text) = true) :
    Calls Tryz.prog 125 #[.pointer (some ⟨P, 0, none⟩)] w fun e w' => e = .returned (.string ⟨(Pr.hd en r).text.toArray⟩) ∧ w.grownBy w' (some P) ∧ At w' P L en r.tail := by
  have hr : ¬ r = [] := by rintro rfl; exact absurd h (by simp [Pr.hd])
  have hpk := peek_any P L en r w hA
  generalize Pr.hd en r = x at *
  have hk : (x.kind == 1) = true := by revert h; cases (x.kind == 1) <;> simp
  have hw : Tr.isWord x.text = false := by simpa [hk] using h
  have hk' : (x.kind != 1) = false := by simp [bne, hk]
  go_enter Tryz.func125, Tryz.ntmps125
  go_wp2_with fail
  refine hpk.mono ?_
  rintro e w1 ⟨rfl, hb⟩
  have hlt := Nat.lt_of_lt_of_le hA.lt hb.size
  go_wp2_with fail
  refine (isWord_any _ _).mono ?_
  rintro e w2 ⟨rfl, rfl⟩
  rw [hw]
  obtain ⟨nx, hnx, q1, qf, hst⟩ := (hA.below hb).step
  have hst := hst hr
  clear h hA hpk
  have hne : ¬ w1.heap.size = P := by omega
  have hne' : ¬ P = w1.heap.size := by omega
  go_wp2
  go_ret
  exact ⟨rfl, went_set hb hst _⟩

set_option maxRecDepth 100000 in
set_option maxHeartbeats 400000 in
theorem num_no (P : Nat) (L : List Tk.Tok) (en : Int) (r : List Tk.Tok) (w : World) (hA : At w P L en r) (h : ((Pr.hd en r).kind == 3) = false) :
    Calls Tryz.prog 162 #[.pointer (some ⟨P, 0, none⟩)] w fun e w' => e = gaveP (Pr.hd en r).at_ ∧ Below w.heap.size w w' := by
  have hG : Hid (∀ w1, Below w.heap.size w w1 → Calls Tryz.prog 150 #[.pointer (some ⟨P, 0, none⟩)] w1 fun e w' => e = gaveP (Pr.hd en r).at_ ∧ Below w.heap.size w w') :=
    (fun w1 hb => (giveUp_any P L en r w1 (hA.below hb)).mono (by rintro e w2 ⟨rfl, hb2⟩; exact ⟨rfl, hb.trans (hb2.mono hb.size)⟩))
  have hpk := peek_any P L en r w hA
  generalize Pr.hd en r = x at *
  have hk' : (x.kind != 3) = true := by simp [bne, h]
  go_enter Tryz.func162, Tryz.ntmps162
  go_wp2_with fail
  refine hpk.mono ?_
  rintro e w1 ⟨rfl, hb⟩
  have hlt := Nat.lt_of_lt_of_le hA.lt hb.size
  go_wp2_with fail
  refine Calls.mono (hG.out _ (below_put hb x)) ?_
  rintro e w2 ⟨rfl, hb2⟩
  exact ⟨rfl, rfl, hb2⟩

theorem below_bytes (w : World) (t : ByteArray) : Below w.heap.size w (Lib.bytesWorld w 5 t) :=
  ⟨rfl, rfl, rfl, by rw [Lib.bytesWorld_size]; omega, fun k hk => Lib.bytesWorld_at_old w 5 t k hk⟩

set_option maxRecDepth 100000 in
set_option maxHeartbeats 400000 in
theorem num_yes (P : Nat) (L : List Tk.Tok) (en : Int) (r : List Tk.Tok) (w : World) (hA : At w P L en r) (h : ((Pr.hd en r).kind == 3) = true) :
    Calls Tryz.prog 162 #[.pointer (some ⟨P, 0, none⟩)] w fun e w' => e = .returned (.int .i64 (Pr.num (Pr.hd en r).text)) ∧ w.grownBy w' (some P) ∧ At w' P L en r.tail := by
  have hr : ¬ r = [] := by rintro rfl; exact absurd (show ((0 : Int) == 3) = true from h) (by decide)
  obtain ⟨hl, hn⟩ := hA.num h
  have hpk := peek_any P L en r w hA
  generalize Pr.hd en r = x at *
  have hk' : (x.kind != 3) = false := by simp [bne, h]
  go_enter Tryz.func162, Tryz.ntmps162
  go_wp2_with fail
  refine hpk.mono ?_
  rintro e w1 ⟨rfl, hb⟩
  have hlt := Nat.lt_of_lt_of_le hA.lt hb.size
  obtain ⟨nx, hnx, q1, qf, hst⟩ := (hA.below hb).step
  have hst := hst hr
  clear h hA hpk
  have hne : ¬ w1.heap.size = P := by omega
  have hne' : ¬ P = w1.heap.size := by omega
  go_wp2_with fail
  refine (Tryz.strconv_Atoi _ (Pr.num x.text) ?_ ?_ _).mono ?_
  · simpa [ByteArray.size] using hl
  · simpa using hn
  rintro e w2 ⟨rfl, t, rfl⟩
  go_wp2
  go_ret
  have hq := went_set hb hst (.cells #[.int .i64 x.kind, .int .i64 x.at_, .string ⟨x.text.toArray⟩] 53)
  exact ⟨rfl, ground hq.1 (below_bytes _ _), hq.2.below (below_bytes _ _)⟩

end Go.Proofs.YtgpaleifhcdjnaaGreatDoor

/- The parser's terms. -/
namespace Go.Proofs.YtgpaleifhcdjnaaGreatDoor
open Go.RowKit

theorem peekAt (P : Nat) (L : List Tk.Tok) (en : Int) (r : List Tk.Tok) (w : World) (hA : At w P L en r) : ∀ w1, Below w.heap.size w w1 →
    Calls Tryz.prog 124 #[.pointer (some ⟨P, 0, none⟩)] w1 fun e w' => e = .returned (.agg #[.int .i64 (Pr.hd en r).kind, .int .i64 (Pr.hd en r).at_, .string ⟨(Pr.hd en r).text.toArray⟩]) ∧ Below w1.heap.size w1 w' := fun w1 hb => peek_any P L en r w1 (hA.below hb)

abbrev termObj : Obj := .cells #[.string { data := #[] }, .int .i64 0] 59
theorem fresh2 {w w1 : World} (hb : Below (w.alloc termObj).heap.size (w.alloc termObj) w1) :
    w1.cell? ⟨w.heap.size, 0, none⟩ = some (.string { data := #[] }) ∧ w1.cell? ⟨w.heap.size, 1, none⟩ = some (.int .i64 0) ∧ w1.frozen? ⟨w.heap.size, 0, none⟩ = false ∧ w1.frozen? ⟨w.heap.size, 1, none⟩ = false ∧ Below w.heap.size w w1 ∧ w.heap.size < w1.heap.size := by
  obtain ⟨hc, hf⟩ := bcell hb
  have h : w.heap.size < (w.alloc termObj).heap.size := by simp
  refine ⟨?_, ?_, ?_, ?_, ((Below.refl _ _).alloc (Nat.le_refl _) _).trans (hb.mono (by simp)), Nat.lt_of_lt_of_le h hb.size⟩
  · rw [hc _ _ h]; simp [go_sem]
  · rw [hc _ _ h]; simp [go_sem]
  · rw [hf _ _ h]; simp [go_sem]
  · rw [hf _ _ h]; simp [go_sem]

/-- The parser went on, and nothing else that was there has changed. -/
abbrev Went (w w' : World) (P : Nat) (L : List Tk.Tok) (en : Int) (r : List Tk.Tok) : Prop := w.grownBy w' (some P) ∧ At w' P L en r
theorem Went.set {w w' : World} {P : Nat} {L : List Tk.Tok} {en : Int} {r : List Tk.Tok} (h : Went w w' P L en r) (hP : P < w.heap.size) {b : Nat} (hb : w.heap.size ≤ b) (o : Nat) (v : Value) : Went w (w'.setCell ⟨b, o, none⟩ v) P L en r :=
  ⟨grownBy_new h.1 hb o v, h.2.set (Nat.lt_of_lt_of_le hP hb) o v⟩
theorem Went.below {w w1 w' : World} {P : Nat} {L : List Tk.Tok} {en : Int} {r : List Tk.Tok} (h : Went w w1 P L en r) (hb : Below w1.heap.size w1 w') : Went w w' P L en r := ⟨ground h.1 hb, h.2.below hb⟩
theorem Went.alloc {w w' : World} {P : Nat} {L : List Tk.Tok} {en : Int} {r : List Tk.Tok} (h : Went w w' P L en r) (o : Obj) : Went w (w'.alloc o) P L en r := h.below ((Below.refl _ _).alloc (Nat.le_refl _) _)
theorem Went.behind {w w1 w' : World} {P : Nat} {L : List Tk.Tok} {en : Int} {r : List Tk.Tok} (hb : Below w.heap.size w w1) (h : Went w1 w' P L en r) : Went w w' P L en r := ⟨grownBy_trans (grownBy_of_below hb _) h.1, h.2⟩
theorem Went.trans {w w1 w' : World} {P : Nat} {L : List Tk.Tok} {en : Int} {r r1 : List Tk.Tok} (h1 : Went w w1 P L en r1) (h : Went w1 w' P L en r) : Went w w' P L en r := ⟨grownBy_trans h1.1 h.1, h.2⟩
theorem Went.step {w w1 : World} {P : Nat} {L : List Tk.Tok} {en : Int} {r : List Tk.Tok} {v : Value} (hb : Below w.heap.size w w1) (h : At (w1.setCell ⟨P, 1, none⟩ v) P L en r) : Went w (w1.setCell ⟨P, 1, none⟩ v) P L en r := ⟨grownBy_trans (grownBy_of_below hb _) (grownBy_set _ _), h⟩

/-- The block of a result, behind calls that went on. -/
theorem kept2 {w w1 w2 : World} {P : Nat} (hP : P < w.heap.size) (hg : w1.grownBy w2 (some P)) (hs : w.heap.size < w1.heap.size) {u v : Value} (c0 : w1.cell? ⟨w.heap.size, 0, none⟩ = some u) (c1 : w1.cell? ⟨w.heap.size, 1, none⟩ = some v)
    (f0 : w1.frozen? ⟨w.heap.size, 0, none⟩ = false) (f1 : w1.frozen? ⟨w.heap.size, 1, none⟩ = false) :
    w2.cell? ⟨w.heap.size, 0, none⟩ = some u ∧ w2.cell? ⟨w.heap.size, 1, none⟩ = some v ∧ w2.frozen? ⟨w.heap.size, 0, none⟩ = false ∧ w2.frozen? ⟨w.heap.size, 1, none⟩ = false ∧ w.heap.size < w2.heap.size := by
  have hne : ¬ w.heap.size = P := by omega
  exact ⟨grownBy_cell hg hne c0, grownBy_cell hg hne c1, (grownBy_frozen hg hne hs).trans f0, (grownBy_frozen hg hne hs).trans f1, Nat.lt_of_lt_of_le hs hg.size⟩
theorem kept2b {w w1 w2 : World} (hb : Below w1.heap.size w1 w2) (hs : w.heap.size < w1.heap.size) {u v : Value} (c0 : w1.cell? ⟨w.heap.size, 0, none⟩ = some u) (c1 : w1.cell? ⟨w.heap.size, 1, none⟩ = some v)
    (f0 : w1.frozen? ⟨w.heap.size, 0, none⟩ = false) (f1 : w1.frozen? ⟨w.heap.size, 1, none⟩ = false) :
    w2.cell? ⟨w.heap.size, 0, none⟩ = some u ∧ w2.cell? ⟨w.heap.size, 1, none⟩ = some v ∧ w2.frozen? ⟨w.heap.size, 0, none⟩ = false ∧ w2.frozen? ⟨w.heap.size, 1, none⟩ = false ∧ w.heap.size < w2.heap.size := by
  obtain ⟨hc, hf⟩ := bcell hb
  exact ⟨(hc _ _ hs).trans c0, (hc _ _ hs).trans c1, (hf _ _ hs).trans f0, (hf _ _ hs).trans f1, Nat.lt_of_lt_of_le hs hb.size⟩

set_option maxRecDepth 100000 in
set_option maxHeartbeats 400000 in
theorem term_var (P : Nat) (L : List Tk.Tok) (en : Int) (r : List Tk.Tok) (w : World) (hA : At w P L en r) (h : ((Pr.hd en r).kind == 2) = true) :
    Calls Tryz.prog 152 #[.pointer (some ⟨P, 0, none⟩)] w fun e w' => e = .returned (termVal ⟨(Pr.hd en r).text, 0⟩) ∧ w.grownBy w' (some P) ∧ At w' P L en r.tail := by
  have hr : ¬ r = [] := by rintro rfl; exact absurd (show ((0 : Int) == 2) = true from h) (by decide)
  have hpk : Hid _ := peekAt P L en r w hA
  generalize Pr.hd en r = x at *
  have hlt := hA.lt
  go_enter Tryz.func152, Tryz.ntmps152
  go_wp2_with fail
  refine Calls.mono (hpk.out _ ((Below.refl _ _).alloc (Nat.le_refl _) _)) ?_
  rintro e w1 ⟨rfl, hb0⟩
  obtain ⟨c0, c1, f0, f1, hb, hsz⟩ := fresh2 hb0
  obtain ⟨nx, hnx, q1, qf, hst⟩ := (hA.below hb).step
  have hst := hst hr
  clear hb0
  have hlt1 : P < w1.heap.size := by omega
  have hne : ¬ w.heap.size = P := by omega
  have hne' : ¬ P = w.heap.size := by omega
  have hne1 : ¬ w1.heap.size = P := by omega
  have hne1' : ¬ P = w1.heap.size := by omega
  have hne2 : ¬ w1.heap.size = w.heap.size := by omega
  have hne2' : ¬ w.heap.size = w1.heap.size := by omega
  go_wp2
  exact bodyPost_ret (v := termVal ⟨x.text, 0⟩) (by simp [results, Tryz.results152, go_sem, c0, c1, hsz]) rfl ⟨rfl, (((Went.step hb hst).set hlt (Nat.le_refl _) _ _).set hlt (Nat.le_refl _) _ _).alloc _⟩

theorem ground' {w w1 w' : World} {P : Nat} (hb : Below w.heap.size w w1) (h : Below w1.heap.size w1 w') : w.grownBy w' (some P) := grownBy_of_below (hb.trans (h.mono hb.size)) _

set_option maxRecDepth 100000 in
set_option maxHeartbeats 400000 in
theorem term_num (P : Nat) (L : List Tk.Tok) (en : Int) (r : List Tk.Tok) (w : World) (hA : At w P L en r) (h : ((Pr.hd en r).kind == 3) = true) :
    Calls Tryz.prog 152 #[.pointer (some ⟨P, 0, none⟩)] w fun e w' => e = .returned (termVal ⟨[], Pr.num (Pr.hd en r).text⟩) ∧ Went w w' P L en r.tail := by
  have hpk : Hid _ := peekAt P L en r w hA
  have hnm : Hid (∀ w1, Below w.heap.size w w1 → _) := fun w1 hb => num_yes P L en r w1 (hA.below hb) h
  generalize Pr.hd en r = x at *
  have h2 : (x.kind == 2) = false := by rw [eq_of_beq h]; rfl
  have hlt := hA.lt
  go_enter Tryz.func152, Tryz.ntmps152
  go_wp2_with fail
  refine Calls.mono (hpk.out _ ((Below.refl _ _).alloc (Nat.le_refl _) _)) ?_
  rintro e w1 ⟨rfl, hb0⟩
  obtain ⟨c0, c1, f0, f1, hb, hsz⟩ := fresh2 hb0
  clear hb0
  go_wp2_with fail
  refine Calls.mono (hnm.out _ (below_put hb x)) ?_
  rintro e w2 ⟨rfl, hg, hA2⟩
  obtain ⟨c0, c1, f0, f1, hsz⟩ := kept2b ((Below.refl _ _).alloc (Nat.le_refl _) _) hsz c0 c1 f0 f1
  obtain ⟨d0, d1, g0, g1, hsz2⟩ := kept2 hlt hg hsz c0 c1 f0 f1
  have hW := Went.behind (below_put hb x) ⟨hg, hA2⟩
  clear c0 c1 f0 f1 hg
  go_wp2
  exact bodyPost_ret (v := termVal ⟨[], Pr.num x.text⟩) (by simp [results, Tryz.results152, go_sem, d0, d1]) rfl ⟨rfl, (hW.set hlt (Nat.le_refl _) _ _).set hlt (Nat.le_refl _) _ _⟩

set_option maxRecDepth 100000 in
set_option maxHeartbeats 400000 in
theorem term_off (P : Nat) (L : List Tk.Tok) (en : Int) (r : List Tk.Tok) (w : World) (hA : At w P L en r) (h2 : ((Pr.hd en r).kind == 2) = false) (h3 : ((Pr.hd en r).kind == 3) = false) (ht : Pr.isText en r [45] = false) :
    Calls Tryz.prog 152 #[.pointer (some ⟨P, 0, none⟩)] w fun e w' => e = gaveP (Pr.hd en r).at_ ∧ w.grownBy w' (some P) := by
  have hpk : Hid _ := peekAt P L en r w hA
  have hmu : Hid (∀ w1, Below w.heap.size w w1 → _) := fun w1 hb => must_no [45] P L en r w1 (hA.below hb) ht
  generalize Pr.hd en r = x at *
  go_enter Tryz.func152, Tryz.ntmps152
  go_wp2_with fail
  refine Calls.mono (hpk.out _ ((Below.refl _ _).alloc (Nat.le_refl _) _)) ?_
  rintro e w1 ⟨rfl, hb0⟩
  obtain ⟨c0, c1, f0, f1, hb, hsz⟩ := fresh2 hb0
  clear hb0
  go_wp2_with fail
  refine Calls.mono (hmu.out _ (below_put hb x)) ?_
  rintro e w2 ⟨rfl, hb2⟩
  exact ⟨rfl, rfl, ground' (below_put hb x) hb2⟩

set_option maxRecDepth 100000 in
set_option maxHeartbeats 400000 in
theorem term_zero (P : Nat) (L : List Tk.Tok) (en : Int) (r : List Tk.Tok) (w : World) (hA : At w P L en r) (h2 : ((Pr.hd en r).kind == 2) = false) (h3 : ((Pr.hd en r).kind == 3) = false) (ht : Pr.isText en r [45] = true)
    (h0 : ((Pr.hd en r.tail).text == [48]) = true) :
    Calls Tryz.prog 152 #[.pointer (some ⟨P, 0, none⟩)] w fun e w' => e = gaveP (Pr.hd en r.tail).at_ ∧ w.grownBy w' (some P) := by
  have hpk : Hid _ := peekAt P L en r w hA
  have hmu : Hid (∀ w1, Below w.heap.size w w1 → _) := fun w1 hb => must_yes [45] P L en r w1 (hA.below hb) (by simp) ht
  have hpk2 : Hid (∀ w3, At w3 P L en r.tail → _) := fun w3 h => peek_any P L en r.tail w3 h
  have hgu : Hid (∀ w3, At w3 P L en r.tail → _) := fun w3 h => giveUp_any P L en r.tail w3 h
  generalize Pr.hd en r.tail = y at *
  generalize Pr.hd en r = x at *
  go_enter Tryz.func152, Tryz.ntmps152
  go_wp2_with fail
  refine Calls.mono (hpk.out _ ((Below.refl _ _).alloc (Nat.le_refl _) _)) ?_
  rintro e w1 ⟨rfl, hb0⟩
  obtain ⟨c0, c1, f0, f1, hb, hsz⟩ := fresh2 hb0
  clear hb0
  go_wp2_with fail
  refine Calls.mono (hmu.out _ (below_put hb x)) ?_
  rintro e w2 ⟨rfl, hg, hA2⟩
  have hW := Went.behind (below_put hb x) ⟨hg, hA2⟩
  go_wp2_with fail
  refine Calls.mono (hpk2.out _ hA2) ?_
  rintro e w3 ⟨rfl, hb3⟩
  go_wp2_with fail
  simp only [fld2]
  go_wp2_with fail
  refine Calls.mono (hgu.out _ (hA2.below hb3)) ?_
  rintro e w4 ⟨rfl, hb4⟩
  exact ⟨rfl, rfl, ground (ground hW.1 hb3) hb4⟩

set_option maxRecDepth 100000 in
set_option maxHeartbeats 400000 in
theorem term_nonum (P : Nat) (L : List Tk.Tok) (en : Int) (r : List Tk.Tok) (w : World) (hA : At w P L en r) (h2 : ((Pr.hd en r).kind == 2) = false) (h3 : ((Pr.hd en r).kind == 3) = false) (ht : Pr.isText en r [45] = true)
    (h0 : ((Pr.hd en r.tail).text == [48]) = false) (hk : ((Pr.hd en r.tail).kind == 3) = false) :
    Calls Tryz.prog 152 #[.pointer (some ⟨P, 0, none⟩)] w fun e w' => e = gaveP (Pr.hd en r.tail).at_ ∧ w.grownBy w' (some P) := by
  have hpk : Hid _ := peekAt P L en r w hA
  have hmu : Hid (∀ w1, Below w.heap.size w w1 → _) := fun w1 hb => must_yes [45] P L en r w1 (hA.below hb) (by simp) ht
  have hpk2 : Hid (∀ w3, At w3 P L en r.tail → _) := fun w3 h => peek_any P L en r.tail w3 h
  have hgu : Hid (∀ w3, At w3 P L en r.tail → _) := fun w3 h => num_no P L en r.tail w3 h hk
  generalize Pr.hd en r.tail = y at *
  generalize Pr.hd en r = x at *
  go_enter Tryz.func152, Tryz.ntmps152
  go_wp2_with fail
  refine Calls.mono (hpk.out _ ((Below.refl _ _).alloc (Nat.le_refl _) _)) ?_
  rintro e w1 ⟨rfl, hb0⟩
  obtain ⟨c0, c1, f0, f1, hb, hsz⟩ := fresh2 hb0
  clear hb0
  go_wp2_with fail
  refine Calls.mono (hmu.out _ (below_put hb x)) ?_
  rintro e w2 ⟨rfl, hg, hA2⟩
  have hW := Went.behind (below_put hb x) ⟨hg, hA2⟩
  go_wp2_with fail
  refine Calls.mono (hpk2.out _ hA2) ?_
  rintro e w3 ⟨rfl, hb3⟩
  go_wp2_with fail
  simp only [fld2]
  go_wp2_with fail
  refine Calls.mono (hgu.out _ (hA2.below hb3)) ?_
  rintro e w4 ⟨rfl, hb4⟩
  exact ⟨rfl, rfl, ground (ground hW.1 hb3) hb4⟩

set_option maxRecDepth 100000 in
set_option maxHeartbeats 400000 in
theorem term_neg (P : Nat) (L : List Tk.Tok) (en : Int) (r : List Tk.Tok) (w : World) (hA : At w P L en r) (h2 : ((Pr.hd en r).kind == 2) = false) (h3 : ((Pr.hd en r).kind == 3) = false) (ht : Pr.isText en r [45] = true)
    (h0 : ((Pr.hd en r.tail).text == [48]) = false) (hk : ((Pr.hd en r.tail).kind == 3) = true) :
    Calls Tryz.prog 152 #[.pointer (some ⟨P, 0, none⟩)] w fun e w' => e = .returned (termVal ⟨[], -Pr.num (Pr.hd en r.tail).text⟩) ∧ Went w w' P L en r.tail.tail := by
  have hpk : Hid _ := peekAt P L en r w hA
  have hmu : Hid (∀ w1, Below w.heap.size w w1 → _) := fun w1 hb => must_yes [45] P L en r w1 (hA.below hb) (by simp) ht
  have hpk2 : Hid (∀ w3, At w3 P L en r.tail → _) := fun w3 h => peek_any P L en r.tail w3 h
  have hgu : Hid (∀ w3, At w3 P L en r.tail → _) := fun w3 h => num_yes P L en r.tail w3 h hk
  have hnn : Hid (∀ w3, At w3 P L en r.tail → _) := fun w3 h => h.num hk
  generalize Pr.hd en r.tail = y at *
  generalize Pr.hd en r = x at *
  have hlt := hA.lt
  go_enter Tryz.func152, Tryz.ntmps152
  go_wp2_with fail
  refine Calls.mono (hpk.out _ ((Below.refl _ _).alloc (Nat.le_refl _) _)) ?_
  rintro e w1 ⟨rfl, hb0⟩
  obtain ⟨c0, c1, f0, f1, hb, hsz⟩ := fresh2 hb0
  clear hb0
  go_wp2_with fail
  refine Calls.mono (hmu.out _ (below_put hb x)) ?_
  rintro e w2 ⟨rfl, hg, hA2⟩
  obtain ⟨c0, c1, f0, f1, hsz⟩ := kept2b ((Below.refl _ _).alloc (Nat.le_refl _) _) hsz c0 c1 f0 f1
  obtain ⟨c0, c1, f0, f1, hsz⟩ := kept2 hlt hg hsz c0 c1 f0 f1
  have hW := Went.behind (below_put hb x) ⟨hg, hA2⟩
  go_wp2_with fail
  refine Calls.mono (hpk2.out _ hA2) ?_
  obtain ⟨hl, hn⟩ := hnn.out _ hA2
  have hbd := Lib.atoi_bound hn hl
  rintro e w3 ⟨rfl, hb3⟩
  obtain ⟨c0, c1, f0, f1, hsz⟩ := kept2b hb3 hsz c0 c1 f0 f1
  go_wp2_with fail
  simp only [fld2]
  go_wp2_with fail
  refine Calls.mono (hgu.out _ (hA2.below hb3)) ?_
  rintro e w4 ⟨rfl, hg4, hA4⟩
  obtain ⟨d0, d1, g0, g1, hsz4⟩ := kept2 hlt hg4 hsz c0 c1 f0 f1
  have hW4 := Went.trans (hW.below hb3) ⟨hg4, hA4⟩
  clear c0 c1 f0 f1 hg hg4
  obtain ⟨hn1, hn2⟩ := hbd
  go_wp2
  exact bodyPost_ret (v := termVal ⟨[], -Pr.num y.text⟩) (by simp [results, Tryz.results152, go_sem, d0, d1]) rfl ⟨rfl, (hW4.set hlt (Nat.le_refl _) _ _).set hlt (Nat.le_refl _) _ _⟩

end Go.Proofs.YtgpaleifhcdjnaaGreatDoor

/- Rows that the parser makes: of terms, of literals, of rules. -/
namespace Go.Proofs.YtgpaleifhcdjnaaGreatDoor
open Go.RowKit

/-- A row of parts, each of k cells, in a block of its own at B or behind. -/
def RowP (B : Nat) (w : World) (e : TypeId) (k : Nat) (v : Value) (cs : List (List Value)) : Prop :=
  ∃ ao cap, v = .slice ao cs.length cap ∧ (cs = [] ∨ ∃ b cur, ao = some ⟨b, 0, none⟩ ∧ B ≤ b ∧ w.heap[b]? = some (.cells cur e (0, 0)) ∧ ∀ i c, cs[i]? = some c → ∀ j u, c[j]? = some u → w.cell? ⟨b, i * k + j, none⟩ = some u)

theorem flat_length (k : Nat) : ∀ cs : List (List Value), (∀ c, c ∈ cs → c.length = k) → cs.flatten.length = cs.length * k := by
  intro cs
  induction cs with
  | nil => intro _; simp
  | cons c r ih =>
    intro h
    rw [List.flatten_cons, List.length_append, ih (fun c hc => h c (List.mem_cons_of_mem _ hc)), h c List.mem_cons_self, List.length_cons, Nat.add_mul]
    omega
theorem flat_get (k : Nat) : ∀ (cs : List (List Value)), (∀ c, c ∈ cs → c.length = k) → ∀ i c j u, cs[i]? = some c → c[j]? = some u → cs.flatten[i * k + j]? = some u := by
  intro cs
  induction cs with
  | nil => intro _ i c j u h; simp at h
  | cons a r ih =>
    intro h i c j u hi hj
    have ha := h a List.mem_cons_self
    have hjk : j < c.length := by
      rcases Nat.lt_or_ge j c.length with h | h
      · exact h
      · rw [List.getElem?_eq_none h] at hj; cases hj
    rw [List.flatten_cons]
    cases i with
    | zero =>
      have hac : a = c := by simpa using hi
      subst hac
      rw [Nat.zero_mul, Nat.zero_add, List.getElem?_append_left hjk]
      exact hj
    | succ i =>
      rw [List.getElem?_append_right (by rw [ha, Nat.add_mul]; omega), ha, show (i + 1) * k + j - k = i * k + j from by rw [Nat.add_mul]; omega]
      exact ih (fun c hc => h c (List.mem_cons_of_mem _ hc)) i c j u (by simpa using hi) hj

theorem rowP_own {w : World} {base : Nat} {e : TypeId} {k : Nat} {v : Value} {cs : List (List Value)} (hl : ∀ c, c ∈ cs → c.length = k) (h : w.ownsRow base e k v cs.length cs.flatten) : RowP base w e k v cs := by
  rcases h.2 with ⟨hv, h0⟩ | ⟨g, cap, cur, hv, hg, hbk, r⟩
  · exact ⟨none, 0, by rw [hv, h0], .inl (List.eq_nil_of_length_eq_zero h0)⟩
  · refine ⟨some ⟨g, 0, none⟩, cap, hv, .inr ⟨g, cur, rfl, hg, hbk, fun i c hi j u hj => ?_⟩⟩
    subst hv
    have := h.cells (g := g) rfl _ _ (flat_get k cs hl i c j u hi hj)
    have hadd : ∀ k, ((⟨g, 0, none⟩ : Addr).add k) = ⟨g, 0 + k, none⟩ := fun _ => by simp [Addr.add]; exact fun h => h.symm
    rw [hadd] at this
    simpa using this

/-- Blocks of such rows are as they were. -/
def Keeps (B : Nat) (w w' : World) (E : TypeId → Prop) : Prop := ∀ b cur e fz, E e → B ≤ b → w.heap[b]? = some (.cells cur e fz) → w'.heap[b]? = w.heap[b]?
theorem Keeps.mono {B : Nat} {w w' : World} {E E' : TypeId → Prop} (h : Keeps B w w' E) (hE : ∀ e, E' e → E e) : Keeps B w w' E' := fun b cur e fz he hb hh => h b cur e fz (hE e he) hb hh
theorem Keeps.trans {B : Nat} {w w1 w' : World} {E : TypeId → Prop} (h : Keeps B w w1 E) (h1 : Keeps B w1 w' E) : Keeps B w w' E := fun b cur e fz he hb hh => (h1 b cur e fz he hb ((h b cur e fz he hb hh).trans hh)).trans (h b cur e fz he hb hh)
theorem heap_lt {w : World} {b : Nat} {o : Obj} (h : w.heap[b]? = some o) : b < w.heap.size := by
  rcases Nat.lt_or_ge b w.heap.size with h1 | h1
  · exact h1
  · rw [Array.getElem?_eq_none h1] at h; cases h
theorem keeps_grown {B P : Nat} {w w' : World} (E : TypeId → Prop) (h : w.grownBy w' (some P)) (hP : P < B) : Keeps B w w' E := fun b cur e fz _ hb hh => h.block b (heap_lt hh) (by intro h; injection h; omega)
theorem keeps_below {B : Nat} {w w' : World} (E : TypeId → Prop) (h : Below w.heap.size w w') : Keeps B w w' E := fun b _ _ _ _ _ hh => h.block b (heap_lt hh)
theorem keeps_set {B b : Nat} {w : World} (E : TypeId → Prop) (h : b < B) (o : Nat) (v : Value) : Keeps B w (w.setCell ⟨b, o, none⟩ v) E := fun b' _ _ _ _ hb _ => Below.heap_setCell _ _ _ _ (show ¬ b' = b by omega)
theorem keeps_own {B base k n : Nat} {w w' : World} {E : TypeId → Prop} {e1 : TypeId} {v : Value} {xs : List Value} (h : w.grownBy w' v.ownBlock) (hown : w.ownsRow base e1 k v n xs) (hE : ¬ E e1) : Keeps B w w' E := by
  intro b cur e fz he hb hh
  refine h.block b (heap_lt hh) ?_
  intro hv
  rcases hown.2 with ⟨rfl, h0⟩ | ⟨g, cap, cur', rfl, hg, hbk, r⟩
  · cases hv
  · have hbg : b = g := by simpa [Value.ownBlock] using hv
    subst hbg
    rw [hbk] at hh
    injection hh with hh
    injection hh with h1 h2 h3
    exact hE (h2 ▸ he)

theorem RowP.keep {B : Nat} {w w' : World} {E : TypeId → Prop} {e : TypeId} {k : Nat} {v : Value} {cs : List (List Value)} (h : RowP B w e k v cs) (hk : Keeps B w w' E) (he : E e) : RowP B w' e k v cs := by
  obtain ⟨ao, cap, hv, h⟩ := h
  refine ⟨ao, cap, hv, ?_⟩
  rcases h with h | ⟨b, cur, rfl, hb, hh, hc⟩
  · exact .inl h
  · have hs := hk b cur e (0, 0) he hb hh
    exact .inr ⟨b, cur, rfl, hb, hs.trans hh, fun i c hi j u hj => (World.cell?_of_block (a := ⟨b, _, none⟩) hs).trans (hc i c hi j u hj)⟩
theorem RowP.mono {B B' : Nat} {w : World} {e : TypeId} {k : Nat} {v : Value} {cs : List (List Value)} (h : RowP B w e k v cs) (hB : B' ≤ B) : RowP B' w e k v cs := by
  obtain ⟨ao, cap, hv, h⟩ := h
  refine ⟨ao, cap, hv, ?_⟩
  rcases h with h | ⟨b, cur, rfl, hb, hh, hc⟩
  · exact .inl h
  · exact .inr ⟨b, cur, rfl, Nat.le_trans hB hb, hh, hc⟩

def termCells (t : Tr.Term) : List Value := [.string ⟨t.var.toArray⟩, .int .i64 t.n]
def TermsP (B : Nat) (w : World) (v : Value) (l : List Tr.Term) : Prop := RowP B w 59 2 v (l.map termCells)
def litCells (x : Tr.Lit × Value) : List Value := [.int .i64 x.1.kind, .int .i64 x.1.at_, .int .i64 x.1.op, .string ⟨x.1.name.toArray⟩, x.2]
def LitsP (B : Nat) (w : World) (v : Value) (l : List Tr.Lit) : Prop := ∃ q : List (Tr.Lit × Value), q.map (·.1) = l ∧ RowP B w 61 5 v (q.map litCells) ∧ ∀ p, p ∈ q → TermsP B w p.2 p.1.terms
def ruleCells (x : Tr.Rule × Value × Value) : List Value := [.int .i64 x.1.at_, .string ⟨x.1.name.toArray⟩, x.2.1, .int .i64 x.1.fold, x.2.2]
def RulesP (B : Nat) (w : World) (v : Value) (l : List Tr.Rule) : Prop := ∃ q : List (Tr.Rule × Value × Value), q.map (·.1) = l ∧ RowP B w 57 5 v (q.map ruleCells) ∧ ∀ p, p ∈ q → TermsP B w p.2.1 p.1.terms ∧ LitsP B w p.2.2 p.1.body

theorem TermsP.keep {B : Nat} {w w' : World} {v : Value} {l : List Tr.Term} (h : TermsP B w v l) (hk : Keeps B w w' (· = 59)) : TermsP B w' v l := RowP.keep h hk rfl
theorem TermsP.mono {B B' : Nat} {w : World} {v : Value} {l : List Tr.Term} (h : TermsP B w v l) (hB : B' ≤ B) : TermsP B' w v l := RowP.mono h hB
theorem LitsP.keep {B : Nat} {w w' : World} {v : Value} {l : List Tr.Lit} (h : LitsP B w v l) (hk : Keeps B w w' (fun e => e = 59 ∨ e = 61)) : LitsP B w' v l := by
  obtain ⟨q, h1, h2, h3⟩ := h
  exact ⟨q, h1, h2.keep hk (.inr rfl), fun p hp => (h3 p hp).keep (hk.mono fun e he => .inl he)⟩
theorem LitsP.mono {B B' : Nat} {w : World} {v : Value} {l : List Tr.Lit} (h : LitsP B w v l) (hB : B' ≤ B) : LitsP B' w v l := by
  obtain ⟨q, h1, h2, h3⟩ := h
  exact ⟨q, h1, h2.mono hB, fun p hp => (h3 p hp).mono hB⟩

theorem row_get {B : Nat} {w : World} {e : TypeId} {k : Nat} {v : Value} {α : Type} {cells : α → List Value} {l : List α} (h : RowP B w e k v (l.map cells)) :
    ∃ ao cap, v = .slice ao l.length cap ∧ (l = [] ∨ ∃ b, ao = some ⟨b, 0, none⟩ ∧ ∀ i x, l[i]? = some x → ∀ j u, (cells x)[j]? = some u → w.cell? ⟨b, i * k + j, none⟩ = some u) := by
  obtain ⟨ao, cap, hv, h⟩ := h
  rw [List.length_map] at hv
  refine ⟨ao, cap, hv, ?_⟩
  rcases h with h | ⟨b, cur, rfl, hb, hh, hc⟩
  · exact .inl (by simpa using h)
  · exact .inr ⟨b, rfl, fun i x hi j u hj => hc i (cells x) (by rw [List.getElem?_map, hi]; rfl) j u hj⟩

theorem TermsP.toV {B : Nat} {w : World} {v : Value} {l : List Tr.Term} (h : TermsP B w v l) : TermsV w v l := by
  obtain ⟨ao, cap, hv, h⟩ := row_get h
  refine ⟨ao, cap, hv, ?_⟩
  rcases h with h | ⟨b, rfl, hc⟩
  · exact .inl h
  · refine .inr ⟨b, 0, rfl, fun i hi => ?_⟩
    have hx : l[i]? = some (Tr.termD l i) := by simp [Tr.termD, hi]
    rw [Nat.zero_add]
    exact ⟨hc i _ hx 0 _ rfl, hc i _ hx 1 _ rfl⟩
theorem LitsP.toV {B : Nat} {w : World} {v : Value} {l : List Tr.Lit} (h : LitsP B w v l) : LitsV w v l := by
  obtain ⟨q, rfl, h2, h3⟩ := h
  obtain ⟨ao, cap, hv, h⟩ := row_get h2
  refine ⟨ao, cap, by rw [hv, List.length_map], ?_⟩
  rcases h with h | ⟨b, rfl, hc⟩
  · exact .inl (by simp [h])
  · refine .inr ⟨b, 0, rfl, fun i hi => ?_⟩
    rw [List.length_map] at hi
    have hq : q[i]? = some q[i] := List.getElem?_eq_getElem hi
    have hx : Tr.litD (q.map (·.1)) i = q[i].1 := by simp [Tr.litD, hi]
    rw [Nat.zero_add, hx]
    exact ⟨hc i _ hq 0 _ rfl, hc i _ hq 1 _ rfl, hc i _ hq 2 _ rfl, hc i _ hq 3 _ rfl, q[i].2, hc i _ hq 4 _ rfl, (h3 _ (List.getElem_mem hi)).toV⟩
theorem RulesP.toV {B : Nat} {w : World} {v : Value} {l : List Tr.Rule} (h : RulesP B w v l) : RulesV w v l := by
  obtain ⟨q, rfl, h2, h3⟩ := h
  obtain ⟨ao, cap, hv, h⟩ := row_get h2
  refine ⟨ao, cap, by rw [hv, List.length_map], ?_⟩
  rcases h with h | ⟨b, rfl, hc⟩
  · exact .inl (by simp [h])
  · refine .inr ⟨b, 0, rfl, fun i hi => ?_⟩
    rw [List.length_map] at hi
    have hq : q[i]? = some q[i] := List.getElem?_eq_getElem hi
    have hx : Tr.ruleD (q.map (·.1)) i = q[i].1 := by simp [Tr.ruleD, hi]
    rw [Nat.zero_add, hx]
    have h4 := h3 _ (List.getElem_mem hi)
    exact ⟨hc i _ hq 0 _ rfl, hc i _ hq 1 _ rfl, ⟨q[i].2.1, hc i _ hq 2 _ rfl, h4.1.toV⟩, hc i _ hq 3 _ rfl, q[i].2.2, hc i _ hq 4 _ rfl, h4.2.toV⟩

/-- A term, or where it is wrong. -/
theorem term_yes (P : Nat) (L : List Tk.Tok) (en : Int) (r : List Tk.Tok) (w : World) (hA : At w P L en r) (t : Tr.Term) (r' : List Tk.Tok) (h : Pr.term en r = .inr (t, r')) :
    Calls Tryz.prog 152 #[.pointer (some ⟨P, 0, none⟩)] w fun e w' => e = .returned (termVal t) ∧ Went w w' P L en r' := by
  unfold Pr.term at h
  cases h2 : ((Pr.hd en r).kind == 2)
  · cases h3 : ((Pr.hd en r).kind == 3)
    · rw [h2, h3] at h
      simp only [Bool.false_eq_true, if_false] at h
      unfold Pr.must at h
      cases ht : ((Pr.hd en r).text == [45])
      · rw [ht] at h; simp at h
      · rw [ht] at h
        simp only [if_true] at h
        unfold Pr.neg at h
        cases h0 : ((Pr.hd en r.tail).text == [48])
        · rw [h0] at h
          simp only [Bool.false_eq_true, if_false] at h
          unfold Pr.number at h
          cases hk : ((Pr.hd en r.tail).kind == 3)
          · rw [hk] at h; simp at h
          · rw [hk] at h
            simp only [if_true, Sum.inr.injEq, Prod.mk.injEq] at h
            obtain ⟨rfl, rfl⟩ := h
            exact term_neg P L en r w hA h2 h3 ht h0 hk
        · rw [h0] at h; simp at h
    · rw [h2, h3] at h
      simp only [Bool.false_eq_true, if_false, if_true, Sum.inr.injEq, Prod.mk.injEq] at h
      obtain ⟨rfl, rfl⟩ := h
      exact term_num P L en r w hA h3
  · rw [h2] at h
    simp only [if_true, Sum.inr.injEq, Prod.mk.injEq] at h
    obtain ⟨rfl, rfl⟩ := h
    exact term_var P L en r w hA h2
theorem term_no (P : Nat) (L : List Tk.Tok) (en : Int) (r : List Tk.Tok) (w : World) (hA : At w P L en r) (a : Int) (h : Pr.term en r = .inl a) :
    Calls Tryz.prog 152 #[.pointer (some ⟨P, 0, none⟩)] w fun e w' => e = gaveP a ∧ w.grownBy w' (some P) := by
  unfold Pr.term at h
  cases h2 : ((Pr.hd en r).kind == 2)
  · cases h3 : ((Pr.hd en r).kind == 3)
    · rw [h2, h3] at h
      simp only [Bool.false_eq_true, if_false] at h
      unfold Pr.must at h
      cases ht : ((Pr.hd en r).text == [45])
      · rw [ht] at h
        simp only [Bool.false_eq_true, if_false, Sum.inl.injEq] at h
        subst h
        exact term_off P L en r w hA h2 h3 ht
      · rw [ht] at h
        simp only [if_true] at h
        unfold Pr.neg at h
        cases h0 : ((Pr.hd en r.tail).text == [48])
        · rw [h0] at h
          simp only [Bool.false_eq_true, if_false] at h
          unfold Pr.number at h
          cases hk : ((Pr.hd en r.tail).kind == 3)
          · rw [hk] at h
            simp only [Bool.false_eq_true, if_false, Sum.inl.injEq] at h
            subst h
            exact term_nonum P L en r w hA h2 h3 ht h0 hk
          · rw [hk] at h; simp at h
        · rw [h0] at h
          simp only [if_true, Sum.inl.injEq] at h
          subst h
          exact term_zero P L en r w hA h2 h3 ht h0
    · rw [h2, h3] at h; simp at h
  · rw [h2] at h; simp at h

end Go.Proofs.YtgpaleifhcdjnaaGreatDoor

/- The parser's terms in brackets. -/
namespace Go.Proofs.YtgpaleifhcdjnaaGreatDoor
open Go.RowKit

theorem must_len {t : List UInt8} {en : Int} {r r' : List Tk.Tok} (ht : ¬ t = []) (h : Pr.must t en r = .inr r') : r'.length < r.length := by
  unfold Pr.must at h
  cases h1 : ((Pr.hd en r).text == t)
  · rw [h1] at h; simp at h
  · rw [h1] at h
    simp only [if_true, Sum.inr.injEq] at h
    have hr := hd_ne ht h1
    subst h
    cases r with
    | nil => exact absurd rfl hr
    | cons a r => simp
theorem kind_len {en : Int} {r : List Tk.Tok} {k : Int} (hk : ¬ k = 0) (h : ((Pr.hd en r).kind == k) = true) : r.tail.length < r.length := by
  cases r with
  | nil => exact absurd (eq_of_beq h).symm hk
  | cons a r => simp
theorem number_len {en : Int} {r : List Tk.Tok} {x : Int × List Tk.Tok} (h : Pr.number en r = .inr x) : x.2.length < r.length := by
  unfold Pr.number at h
  cases hk : ((Pr.hd en r).kind == 3)
  · rw [hk] at h; simp at h
  · rw [hk] at h
    simp only [if_true, Sum.inr.injEq] at h
    subst h
    exact kind_len (by decide) hk
theorem term_len {en : Int} {r : List Tk.Tok} {x : Tr.Term × List Tk.Tok} (h : Pr.term en r = .inr x) : x.2.length < r.length := by
  unfold Pr.term at h
  cases h2 : ((Pr.hd en r).kind == 2)
  · cases h3 : ((Pr.hd en r).kind == 3)
    · rw [h2, h3] at h
      simp only [Bool.false_eq_true, if_false] at h
      cases hm : Pr.must [45] en r with
      | inl a => rw [hm] at h; simp at h
      | inr r1 =>
        rw [hm] at h
        have hl := must_len (by simp) hm
        simp only at h
        unfold Pr.neg at h
        cases h0 : ((Pr.hd en r1).text == [48])
        · rw [h0] at h
          simp only [Bool.false_eq_true, if_false] at h
          cases hn : Pr.number en r1 with
          | inl a => rw [hn] at h; simp at h
          | inr y =>
            rw [hn] at h
            simp only [Sum.inr.injEq] at h
            have := number_len hn
            subst h
            exact Nat.lt_trans this hl
        · rw [h0] at h; simp at h
    · rw [h2, h3] at h
      simp only [Bool.false_eq_true, if_false, if_true, Sum.inr.injEq] at h
      subst h
      exact kind_len (by decide) h3
  · rw [h2] at h
    simp only [if_true, Sum.inr.injEq] at h
    subst h
    exact kind_len (by decide) h2
theorem fold_len (may : Bool) (en : Int) (r : List Tk.Tok) : (Pr.foldMay may en r).2.length ≤ r.length := by
  unfold Pr.foldMay Pr.foldAt
  split
  · split <;> simp
  · simp
theorem text_len {t : List UInt8} {en : Int} {r : List Tk.Tok} (ht : ¬ t = []) (h : Pr.isText en r t = true) : r.tail.length < r.length := by
  have := hd_ne ht h
  cases r with
  | nil => exact absurd rfl this
  | cons a r => simp

/-- What terms leaves. -/
def TermsEnd (may : Bool) (P : Nat) (L : List Tk.Tok) (en : Int) (r : List Tk.Tok) (w : World) (e : Ending) (w' : World) : Prop := match Pr.terms may en r with
  | .inl a => e = gaveP a ∧ w.grownBy w' (some P)
  | .inr x => ∃ v, e = .returned (.tuple #[v, .int .i64 x.1.2]) ∧ TermsP w.heap.size w' v x.1.1 ∧ Went w w' P L en x.2

/-- fold, where it may be asked for. -/
theorem fold_any (P : Nat) (L : List Tk.Tok) (en : Int) (r : List Tk.Tok) (w : World) (hA : At w P L en r) :
    Calls Tryz.prog 151 #[.pointer (some ⟨P, 0, none⟩)] w fun e w' => e = .returned (.int .i64 (Pr.foldMay true en r).1) ∧ Went w w' P L en (Pr.foldMay true en r).2 := by
  by_cases h : Tr.foldOf (Pr.hd en r).text = 0
  · have e1 : Pr.foldMay true en r = (0, r) := by simp [Pr.foldMay, Pr.foldAt, h]
    rw [e1]
    refine (fold_no P L en r w hA h).mono ?_
    rintro e w' ⟨rfl, hb⟩
    exact ⟨rfl, grownBy_of_below hb _, hA.below hb⟩
  · have e1 : Pr.foldMay true en r = (Tr.foldOf (Pr.hd en r).text, r.tail) := by simp [Pr.foldMay, Pr.foldAt, h]
    rw [e1]
    exact fold_yes P L en r w hA h

theorem A_info71 : (Tryz.prog.info? 59).map (fun i => (i.zero, i.size, i.bytes)) = some (some (.agg #[.string ⟨#[]⟩, .int .i64 0]), 2, 24) := by kernel_rfl

/-- A term more. -/
theorem more_step (may : Bool) (en : Int) (f : Nat) (acc : List Tr.Term) (r : List Tk.Tok) (t : Tr.Term) (r2 : List Tk.Tok) (h : Pr.term en (Pr.foldMay may en r).2 = .inr (t, r2)) :
    Pr.more may en (f + 1) acc r = if ((Pr.foldMay may en r).1 == 0) && Pr.isText en r2 [44] then Pr.more may en f (acc ++ [t]) r2.tail else .inr ((acc ++ [t], (Pr.foldMay may en r).1), r2) := by
  rw [Pr.more, h]

end Go.Proofs.YtgpaleifhcdjnaaGreatDoor

/- The parser's terms in brackets: the loop. -/
namespace Go.Proofs.YtgpaleifhcdjnaaGreatDoor
open Go.RowKit

/-- 1, if it is true. -/
def bitOf (v : Value) : Nat := match v with | .bool true => 1 | _ => 0

theorem ownsRow_grown {w w' : World} {P base : Nat} {e : TypeId} {size : Nat} {v : Value} {n : Nat} {xs : List Value} (h : w.ownsRow base e size v n xs) (hg : w.grownBy w' (some P)) (hP : P < base) : w'.ownsRow base e size v n xs := by
  obtain ⟨h1, h2⟩ := h
  refine ⟨h1, ?_⟩
  rcases h2 with h2 | ⟨g, cap, cur, hv, hb, hbk, r⟩
  · exact .inl h2
  · exact .inr ⟨g, cap, cur, hv, hb, (hg.block g (heap_lt hbk) (by intro h; injection h; omega)).trans hbk, r⟩
theorem Went.own {w w3 w4 : World} {P base k n : Nat} {L : List Tk.Tok} {en : Int} {r : List Tk.Tok} {e : TypeId} {v : Value} {xs : List Value} (h : Went w w3 P L en r) (hg : w3.grownBy w4 v.ownBlock) (hown : w3.ownsRow base e k v n xs) (hb : w.heap.size ≤ base) (hP : P < w.heap.size) : Went w w4 P L en r := by
  have hne : ∀ i, i < w.heap.size → some i ≠ v.ownBlock := fun i hi he => by have := (hown.lt i he.symm).1; omega
  have hs := h.1.size
  refine ⟨⟨hg.os.trans h.1.os, hg.tape.trans h.1.tape, hg.output.trans h.1.output, Nat.le_trans hs hg.size, fun i hi hiP => (hg.block i (by omega) (hne i hi)).trans (h.1.block i hi hiP)⟩, h.2.keep fun i hi => hg.block i (by omega) (hne i (by omega))⟩

set_option maxRecDepth 100000 in
set_option maxHeartbeats 400000 in
theorem terms_off (may : Bool) (P : Nat) (L : List Tk.Tok) (en : Int) (r : List Tk.Tok) (w : World) (hA : At w P L en r) (h : Pr.isText en r [40] = false) :
    Calls Tryz.prog 126 #[.pointer (some ⟨P, 0, none⟩), .bool may] w (TermsEnd may P L en r w) := by
  have hE : TermsEnd may P L en r w = fun e w' => e = gaveP (Pr.hd en r).at_ ∧ w.grownBy w' (some P) := by
    funext e w'
    unfold Pr.isText at h
    simp [TermsEnd, Pr.terms, Pr.must, h]
  rw [hE]
  have hmu : Hid _ := must_no [40] P L en r w hA h
  generalize Pr.hd en r = x at *
  go_enter Tryz.func126, Tryz.ntmps126
  go_wp2_with fail
  refine Calls.mono hmu.out ?_
  rintro e w1 ⟨rfl, hb⟩
  exact ⟨rfl, rfl, grownBy_of_below hb _⟩

set_option maxRecDepth 100000 in
set_option maxHeartbeats 400000 in
theorem terms_none (may : Bool) (P : Nat) (L : List Tk.Tok) (en : Int) (r : List Tk.Tok) (w : World) (hA : At w P L en r) (h : Pr.isText en r [40] = true) (h1 : Pr.isText en r.tail [41] = true) :
    Calls Tryz.prog 126 #[.pointer (some ⟨P, 0, none⟩), .bool may] w (TermsEnd may P L en r w) := by
  have hE : TermsEnd may P L en r w = fun e w' => ∃ v, e = .returned (.tuple #[v, .int .i64 0]) ∧ TermsP w.heap.size w' v [] ∧ Went w w' P L en r.tail.tail := by
    funext e w'
    have h' := h
    unfold Pr.isText at h'
    simp [TermsEnd, Pr.terms, Pr.must, Pr.inside, h', h1]
  rw [hE]
  have hmu : Hid _ := must_yes [40] P L en r w hA (by simp) h
  go_enter Tryz.func126, Tryz.ntmps126
  go_wp2_with fail
  refine Calls.mono hmu.out ?_
  rintro e w1 ⟨rfl, hW⟩
  go_wp2_with fail
  refine (take_yes [41] P L en r.tail w1 hW.2 (by simp) h1).mono ?_
  rintro e w2 ⟨rfl, hW2⟩
  go_wp2
  exact bodyPost_ret (v := .tuple #[.slice none 0 0, .int .i64 0]) (by simp [results, Tryz.results126]) rfl ⟨_, rfl, ⟨none, 0, rfl, .inl rfl⟩, Went.trans hW hW2⟩

set_option maxRecDepth 100000 in
set_option maxHeartbeats 1000000 in
theorem terms_some (may : Bool) (P : Nat) (L : List Tk.Tok) (en : Int) (r : List Tk.Tok) (w : World) (hA : At w P L en r) (h : Pr.isText en r [40] = true) (h1 : Pr.isText en r.tail [41] = false) :
    Calls Tryz.prog 126 #[.pointer (some ⟨P, 0, none⟩), .bool may] w (TermsEnd may P L en r w) := by
  obtain ⟨i0, hi, hz0, hz1, hz2⟩ := info_parts A_info71
  have HE : Hid (∀ e w', (match Pr.more may en (r.tail.length + 1) [] r.tail with
      | .inl a => e = gaveP a ∧ w.grownBy w' (some P)
      | .inr x => match Pr.must [41] en x.2 with
        | .inl a => e = gaveP a ∧ w.grownBy w' (some P)
        | .inr r3 => ∃ v, e = .returned (.tuple #[v, .int .i64 x.1.2]) ∧ TermsP w.heap.size w' v x.1.1 ∧ Went w w' P L en r3) → TermsEnd may P L en r w e w') := by
    intro e w' hh
    have h' := h
    unfold Pr.isText at h'
    simp only [TermsEnd, Pr.terms, Pr.must, Pr.inside, h', h1, if_true, Bool.false_eq_true, if_false]
    revert hh
    cases Pr.more may en (r.tail.length + 1) [] r.tail with
    | inl a => exact id
    | inr x =>
      simp only [Pr.must]
      cases ((Pr.hd en x.2).text == [41]) <;> exact id
  have hmu : Hid _ := must_yes [40] P L en r w hA (by simp) h
  have hlt := hA.lt
  generalize hX : Pr.more may en (r.tail.length + 1) [] r.tail = X at HE
  generalize TermsEnd may P L en r w = Q at *
  clear hA
  go_enter Tryz.func126, Tryz.ntmps126
  go_wp2_with fail
  refine Calls.mono hmu.out ?_
  rintro e w1 ⟨rfl, hW1⟩
  go_wp2_with fail
  refine (take_no [41] P L en r.tail w1 hW1.2 h1).mono ?_
  rintro e w2 ⟨rfl, hb2⟩
  have hW2 : Went w w2 P L en r.tail := Went.below hW1 hb2
  clear hW1 hb2 hmu h h1
  generalize r.tail = r0 at *
  go_wp2_with fail
  go_loopw [6, 7, 8] (fun a b c wr => ∃ (acc : List Tr.Term) (r1 : List Tk.Tok) (fo : Int), wr.ownsRow w.heap.size 59 2 a acc.length (acc.map termCells).flatten ∧ Went w wr P L en r1 ∧ b = .int .i64 fo ∧ acc.length + r1.length ≤ L.length ∧
      ((c = .bool true ∧ fo = 0 ∧ ∃ f, r1.length < f ∧ Pr.more may en f acc r1 = X) ∨ (c = .bool false ∧ X = .inr ((acc, fo), r1))))
    (fun _ _ c wr => bitOf c + (L.length - nxOf wr P))
  case atStart =>
    obtain ⟨m1, m2, m3⟩ := hW2.2.meas
    exact ⟨[], r0, 0, World.ownsRow_nil _ _ _ _, hW2, rfl, by simpa using m2, .inl ⟨rfl, rfl, _, Nat.lt_succ_self _, hX⟩⟩
  case round =>
    obtain ⟨acc, r1, fo, hown, hW, rfl, hlen, hc⟩ := hrel
    obtain ⟨ao, cap, rfl⟩ := own_slice hown
    obtain ⟨m1, m2, m3⟩ := hW.2.meas
    rcases hc with ⟨rfl, rfl, f, hf, hX1⟩ | ⟨rfl, hX1⟩
    · obtain ⟨f, rfl⟩ : ∃ f', f = f' + 1 := ⟨f - 1, by omega⟩
      cases may
      · have hWF := hW
        have hownF := hown
        cases hT : Pr.term en r1 with
        | inl a =>
          have hXa : X = .inl a := by rw [← hX1, Pr.more, show Pr.foldMay false en r1 = (0, r1) from rfl, hT]
          go_wp2_with fail
          refine (term_no P L en r1 _ hWF.2 a hT).mono ?_
          rintro e w3 ⟨rfl, hg3⟩
          exact ⟨rfl, HE.out _ _ (by rw [hXa]; exact ⟨rfl, grownBy_trans hWF.1 hg3⟩)⟩
        | inr x =>
          obtain ⟨t, r2⟩ := x
          have hl2 : r2.length < r1.length := Nat.lt_of_lt_of_le (term_len hT) (Nat.le_refl _)
          have hXs : X = if ((0 : Int) == 0) && Pr.isText en r2 [44] then Pr.more false en f (acc ++ [t]) r2.tail else .inr ((acc ++ [t], (0 : Int)), r2) := by rw [← hX1, Pr.more, show Pr.foldMay false en r1 = (0, r1) from rfl, hT]
          go_wp2_with fail
          refine (term_yes P L en r1 _ hWF.2 t r2 hT).mono ?_
          rintro e w3 ⟨rfl, hW3⟩
          have hW3' : Went w w3 P L en r2 := Went.trans hWF hW3
          have hown3 := ownsRow_grown hownF hW3.1 hlt
          have hsz3 : w.heap.size ≤ w3.heap.size := hW3'.1.size
          clear hW3 hX1 hT
          go_wp2_with (at_builtin; refine wpList_append_own _ rfl (.tmp 23) (.tmp 26) 54 rfl w.heap.size 59 i0 _ 2 24 Tryz.underlying54 hi hz0 hz1 hz2 rfl (by decide) _ _ _ rfl (ownsRow_below hown3 ((Below.refl _ _).alloc (Nat.le_refl _) _)) ⟨w3.heap.size, 0, none⟩ 1 1 (termCells t) rfl rfl ?c1 ?c2 ?c3 ?c4 ?c5 ?_)
          case c1 =>
            intro j u hj
            match j, hj with
            | 0, hj => simp [termCells] at hj; subst hj; simp [Addr.add, go_sem]
            | 1, hj => simp [termCells] at hj; subst hj; simp [Addr.add, go_sem]
          case c2 => intro u hu; simp [termCells] at hu; rcases hu with rfl | rfl <;> rfl
          case c3 => unfold maxLen; omega
          case c4 => omega
          case c5 => simp; omega
          intro v' w4 hown4 hgrow _
          have hW4 : Went w w4 P L en r2 := Went.own (Went.alloc hW3' _) hgrow (ownsRow_below hown3 ((Below.refl _ _).alloc (Nat.le_refl _) _)) (Nat.le_refl _) hlt
          have hown4' : w4.ownsRow w.heap.size 59 2 v' (acc ++ [t]).length ((acc ++ [t]).map termCells).flatten := by
            simpa using hown4
          obtain ⟨ao', cap', rfl⟩ := own_slice hown4
          clear hown4 hgrow hown3 hW3' hi hz0 hz1 hz2
          cases hq : Pr.isText en r2 [44]
          · go_wp2_with fail
            refine (take_no [44] P L en r2 _ hW4.2 hq).mono ?_
            rintro e w5 ⟨rfl, hb5⟩
            have hW5 := Went.below hW4 hb5
            go_wp2
            go_roundw
            case rel => exact ⟨acc ++ [t], r2, 0, ownsRow_below hown4' hb5, hW5, rfl, by rw [List.length_append]; simp; omega, .inr ⟨rfl, by rw [hXs, hq]; rfl⟩⟩
            case measure => rw [hW5.2.meas.1, hW.2.meas.1]; simp [bitOf]; omega
          · have hl3 := text_len (by simp) hq
            go_wp2_with fail
            refine (take_yes [44] P L en r2 _ hW4.2 (by simp) hq).mono ?_
            rintro e w5 ⟨rfl, hW5⟩
            have hown5 := ownsRow_grown hown4' hW5.1 hlt
            have hW5 := Went.trans hW4 hW5
            go_wp2
            go_roundw
            case rel => exact ⟨acc ++ [t], r2.tail, 0, hown5, hW5, rfl, by rw [List.length_append]; simp; omega, .inl ⟨rfl, rfl, f, by omega, by rw [hXs, hq]; rfl⟩⟩
            case measure => rw [hW5.2.meas.1, hW.2.meas.1]; simp [bitOf]; omega
      · have hfl := fold_len true en r1
        generalize hfm : Pr.foldMay true en r1 = fm at hfl
        have hfa : Hid (∀ w', At w' P L en r1 → _) := fun w' h' => fold_any P L en r1 w' h'
        rw [hfm] at hfa
        go_wp2_with fail
        refine Calls.mono (hfa.out _ hW.2) ?_
        rintro e wf ⟨rfl, hWf⟩
        have hWF : Went w wf P L en fm.2 := Went.trans hW hWf
        have hownF := ownsRow_grown hown hWf.1 hlt
        cases hT : Pr.term en fm.2 with
        | inl a =>
          have hXa : X = .inl a := by rw [← hX1, Pr.more, hfm, hT]
          go_wp2_with fail
          refine (term_no P L en fm.2 _ hWF.2 a hT).mono ?_
          rintro e w3 ⟨rfl, hg3⟩
          exact ⟨rfl, HE.out _ _ (by rw [hXa]; exact ⟨rfl, grownBy_trans hWF.1 hg3⟩)⟩
        | inr x =>
          obtain ⟨t, r2⟩ := x
          have hl2 : r2.length < r1.length := Nat.lt_of_lt_of_le (term_len hT) (hfl)
          have hXs : X = if (fm.1 == 0) && Pr.isText en r2 [44] then Pr.more true en f (acc ++ [t]) r2.tail else .inr ((acc ++ [t], fm.1), r2) := by rw [← hX1, Pr.more, hfm, hT]
          go_wp2_with fail
          refine (term_yes P L en fm.2 _ hWF.2 t r2 hT).mono ?_
          rintro e w3 ⟨rfl, hW3⟩
          have hW3' : Went w w3 P L en r2 := Went.trans hWF hW3
          have hown3 := ownsRow_grown hownF hW3.1 hlt
          have hsz3 : w.heap.size ≤ w3.heap.size := hW3'.1.size
          clear hW3 hX1 hT
          go_wp2_with (at_builtin; refine wpList_append_own _ rfl (.tmp 23) (.tmp 26) 54 rfl w.heap.size 59 i0 _ 2 24 Tryz.underlying54 hi hz0 hz1 hz2 rfl (by decide) _ _ _ rfl (ownsRow_below hown3 ((Below.refl _ _).alloc (Nat.le_refl _) _)) ⟨w3.heap.size, 0, none⟩ 1 1 (termCells t) rfl rfl ?c1 ?c2 ?c3 ?c4 ?c5 ?_)
          case c1 =>
            intro j u hj
            match j, hj with
            | 0, hj => simp [termCells] at hj; subst hj; simp [Addr.add, go_sem]
            | 1, hj => simp [termCells] at hj; subst hj; simp [Addr.add, go_sem]
          case c2 => intro u hu; simp [termCells] at hu; rcases hu with rfl | rfl <;> rfl
          case c3 => unfold maxLen; omega
          case c4 => omega
          case c5 => simp; omega
          intro v' w4 hown4 hgrow _
          have hW4 : Went w w4 P L en r2 := Went.own (Went.alloc hW3' _) hgrow (ownsRow_below hown3 ((Below.refl _ _).alloc (Nat.le_refl _) _)) (Nat.le_refl _) hlt
          have hown4' : w4.ownsRow w.heap.size 59 2 v' (acc ++ [t]).length ((acc ++ [t]).map termCells).flatten := by
            simpa using hown4
          obtain ⟨ao', cap', rfl⟩ := own_slice hown4
          clear hown4 hgrow hown3 hW3' hi hz0 hz1 hz2
          cases hf : (fm.1 == 0)
          · go_wp2
            go_roundw
            case rel => exact ⟨acc ++ [t], r2, fm.1, hown4', hW4, rfl, by rw [List.length_append]; simp; omega, .inr ⟨rfl, by rw [hXs, hf]; rfl⟩⟩
            case measure => rw [hW4.2.meas.1, hW.2.meas.1]; simp [bitOf]; omega
          · have hf0 : fm.1 = 0 := eq_of_beq hf
            cases hq : Pr.isText en r2 [44]
            · go_wp2_with fail
              refine (take_no [44] P L en r2 _ hW4.2 hq).mono ?_
              rintro e w5 ⟨rfl, hb5⟩
              have hW5 := Went.below hW4 hb5
              go_wp2
              go_roundw
              case rel => exact ⟨acc ++ [t], r2, fm.1, ownsRow_below hown4' hb5, hW5, by rw [hf0], by rw [List.length_append]; simp; omega, .inr ⟨rfl, by rw [hXs, hf, hq]; rfl⟩⟩
              case measure => rw [hW5.2.meas.1, hW.2.meas.1]; simp [bitOf]; omega
            · have hl3 := text_len (by simp) hq
              go_wp2_with fail
              refine (take_yes [44] P L en r2 _ hW4.2 (by simp) hq).mono ?_
              rintro e w5 ⟨rfl, hW5⟩
              have hown5 := ownsRow_grown hown4' hW5.1 hlt
              have hW5 := Went.trans hW4 hW5
              go_wp2
              go_roundw
              case rel => exact ⟨acc ++ [t], r2.tail, fm.1, hown5, hW5, by rw [hf0], by rw [List.length_append]; simp; omega, .inl ⟨rfl, hf0, f, by omega, by rw [hXs, hf, hq]; rfl⟩⟩
              case measure => rw [hW5.2.meas.1, hW.2.meas.1]; simp [bitOf]; omega
    · cases hq : Pr.isText en r1 [41]
      · have hm : Pr.must [41] en r1 = .inl (Pr.hd en r1).at_ := by unfold Pr.must; unfold Pr.isText at hq; rw [hq]; rfl
        go_wp2_with fail
        refine (must_no [41] P L en r1 _ hW.2 hq).mono ?_
        rintro e w5 ⟨rfl, hb5⟩
        exact ⟨rfl, HE.out _ _ (by rw [hX1]; simp only [hm]; exact ⟨trivial, ground hW.1 hb5⟩)⟩
      · have hm : Pr.must [41] en r1 = .inr r1.tail := by unfold Pr.must; unfold Pr.isText at hq; rw [hq]; rfl
        go_wp2_with fail
        refine (must_yes [41] P L en r1 _ hW.2 (by simp) hq).mono ?_
        rintro e w5 ⟨rfl, hW5⟩
        have hown5 := ownsRow_grown hown hW5.1 hlt
        go_wp2
        refine HE.out _ _ ?_
        rw [hX1]
        simp only [hm]
        exact ⟨_, rfl, rowP_own (by intro c hc; simp at hc; obtain ⟨t, _, rfl⟩ := hc; rfl) (by rw [List.length_map]; exact hown5), Went.trans hW hW5⟩

theorem terms_any (may : Bool) (P : Nat) (L : List Tk.Tok) (en : Int) (r : List Tk.Tok) (w : World) (hA : At w P L en r) :
    Calls Tryz.prog 126 #[.pointer (some ⟨P, 0, none⟩), .bool may] w (TermsEnd may P L en r w) := by
  cases h : Pr.isText en r [40]
  · exact terms_off may P L en r w hA h
  · cases h1 : Pr.isText en r.tail [41]
    · exact terms_some may P L en r w hA h h1
    · exact terms_none may P L en r w hA h h1

end Go.Proofs.YtgpaleifhcdjnaaGreatDoor

/- The parser's literals that are reckoned. -/
namespace Go.Proofs.YtgpaleifhcdjnaaGreatDoor
open Go.RowKit

abbrev litZero : Obj := .cells #[.int .i64 0, .int .i64 0, .int .i64 0, .string ⟨#[]⟩, .slice none 0 0] 61
/-- A literal under way: block N: the result's; N + 1: the literal's. -/
structure RInv (w wr : World) (P : Nat) (L : List Tk.Tok) (en : Int) (r : List Tk.Tok) (k at_ op : Int) (v : Value) (acc : List Tr.Term) : Prop where
  went : Went w wr P L en r
  res : wr.heap[w.heap.size]? = some litZero
  lit : wr.heap[w.heap.size + 1]? = some (.cells #[.int .i64 k, .int .i64 at_, .int .i64 op, .string ⟨#[]⟩, v] 61)
  own : wr.ownsRow (w.heap.size + 2) 59 2 v acc.length (acc.map termCells).flatten
  lt : P < w.heap.size

theorem RInv.sz {w wr : World} {P : Nat} {L : List Tk.Tok} {en : Int} {r : List Tk.Tok} {k at_ op : Int} {v : Value} {acc : List Tr.Term} (h : RInv w wr P L en r k at_ op v acc) : w.heap.size + 2 ≤ wr.heap.size := heap_lt h.lit
theorem RInv.start {w : World} {P : Nat} {L : List Tk.Tok} {en : Int} {r : List Tk.Tok} (hA : At w P L en r) (at_ : Int) :
    RInv w ((w.alloc litZero).alloc (.cells #[.int .i64 3, .int .i64 at_, .int .i64 0, .string ⟨#[]⟩, .slice none 0 0] 61)) P L en r 3 at_ 0 (.slice none 0 0) [] where
  went := Went.alloc (Went.alloc ⟨grownBy_of_below (Below.refl _ _) _, hA⟩ _) _
  res := (heap_alloc_old _ _ (by simp)).trans (heap_alloc_new w _)
  lit := by have := heap_alloc_new (w.alloc litZero) (.cells #[.int .i64 3, .int .i64 at_, .int .i64 0, .string ⟨#[]⟩, .slice none 0 0] 61); simpa using this
  own := World.ownsRow_nil _ _ _ _
  lt := hA.lt
theorem RInv.on {w wr w' : World} {P : Nat} {L : List Tk.Tok} {en : Int} {r r' : List Tk.Tok} {k at_ op : Int} {v : Value} {acc : List Tr.Term} (h : RInv w wr P L en r k at_ op v acc) (hW : Went wr w' P L en r') : RInv w w' P L en r' k at_ op v acc where
  went := Went.trans h.went hW
  res := (hW.1.block _ (heap_lt h.res) (by have := h.lt; intro e; injection e; omega)).trans h.res
  lit := (hW.1.block _ (heap_lt h.lit) (by have := h.lt; intro e; injection e; omega)).trans h.lit
  own := ownsRow_grown h.own hW.1 (by have := h.lt; omega)
  lt := h.lt
theorem RInv.below {w wr w' : World} {P : Nat} {L : List Tk.Tok} {en : Int} {r : List Tk.Tok} {k at_ op : Int} {v : Value} {acc : List Tr.Term} (h : RInv w wr P L en r k at_ op v acc) (hb : Below wr.heap.size wr w') : RInv w w' P L en r k at_ op v acc :=
  h.on ⟨grownBy_of_below hb _, h.went.2.below hb⟩
theorem RInv.on2 {w wr wr' w' : World} {P : Nat} {L : List Tk.Tok} {en : Int} {r r' : List Tk.Tok} {k at_ op : Int} {v : Value} {acc : List Tr.Term} (h : RInv w wr P L en r k at_ op v acc) (hW : Went wr' w' P L en r') (hb : Below wr.heap.size wr wr') : RInv w w' P L en r' k at_ op v acc :=
  (h.below hb).on hW
/-- The cells. -/
theorem RInv.cells {w wr : World} {P : Nat} {L : List Tk.Tok} {en : Int} {r : List Tk.Tok} {k at_ op : Int} {v : Value} {acc : List Tr.Term} (h : RInv w wr P L en r k at_ op v acc) :
    wr.cell? ⟨w.heap.size + 1, 0, none⟩ = some (.int .i64 k) ∧ wr.cell? ⟨w.heap.size + 1, 1, none⟩ = some (.int .i64 at_) ∧ wr.cell? ⟨w.heap.size + 1, 2, none⟩ = some (.int .i64 op) ∧ wr.cell? ⟨w.heap.size + 1, 3, none⟩ = some (.string ⟨#[]⟩) ∧
      wr.cell? ⟨w.heap.size + 1, 4, none⟩ = some v ∧ (∀ o, wr.frozen? ⟨w.heap.size + 1, o, none⟩ = false) ∧ (∀ o, wr.frozen? ⟨w.heap.size, o, none⟩ = false) :=
  ⟨by rw [Lib.cell_of_heap h.lit]; rfl, by rw [Lib.cell_of_heap h.lit]; rfl, by rw [Lib.cell_of_heap h.lit]; rfl, by rw [Lib.cell_of_heap h.lit]; rfl, by rw [Lib.cell_of_heap h.lit]; rfl, fun o => by simp [World.frozen?, h.lit], fun o => by simp [World.frozen?, h.res]⟩

theorem RInv.app {w wr w3 : World} {P : Nat} {L : List Tk.Tok} {en : Int} {r : List Tk.Tok} {k at_ op : Int} {v : Value} {acc : List Tr.Term} (h : RInv w wr P L en r k at_ op v acc) (hg : wr.grownBy w3 v.ownBlock) :
    w3.heap[w.heap.size]? = some litZero ∧ w3.heap[w.heap.size + 1]? = some (.cells #[.int .i64 k, .int .i64 at_, .int .i64 op, .string ⟨#[]⟩, v] 61) ∧ w3.cell? ⟨w.heap.size + 1, 4, none⟩ = some v ∧ w3.frozen? ⟨w.heap.size + 1, 4, none⟩ = false := by
  have hs := h.sz
  have hne : ∀ i, i < w.heap.size + 2 → some i ≠ v.ownBlock := fun i hi he => by have := (h.own.lt i he.symm).1; omega
  have e1 := (hg.block _ (heap_lt h.res) (hne _ (by omega))).trans h.res
  have e2 := (hg.block _ (heap_lt h.lit) (hne _ (by omega))).trans h.lit
  exact ⟨e1, e2, by rw [Lib.cell_of_heap e2]; rfl, by simp [World.frozen?, e2]⟩
theorem RInv.put {w wr w3 : World} {P : Nat} {L : List Tk.Tok} {en : Int} {r : List Tk.Tok} {k at_ op : Int} {v v' : Value} {acc : List Tr.Term} {t : Tr.Term} (h : RInv w wr P L en r k at_ op v acc) (hg : wr.grownBy w3 v.ownBlock)
    (hown : w3.ownsRow (w.heap.size + 2) 59 2 v' (acc.length + 1) ((acc.map termCells).flatten ++ termCells t)) : RInv w (w3.setCell ⟨w.heap.size + 1, 4, none⟩ v') P L en r k at_ op v' (acc ++ [t]) where
  went := (Went.own h.went hg h.own (by omega) h.lt).set h.lt (by omega) _ _
  res := (Below.heap_setCell _ _ _ _ (show ¬ w.heap.size = w.heap.size + 1 by omega)).trans (h.app hg).1
  lit := by
    have := (h.app hg).2.1
    simp [World.setCell, Array.getElem?_modify, this]
  own := ownsRow_setCell_below (by simpa using hown) (by simp) _
  lt := h.lt

theorem news_term (w : World) (t : Tr.Term) : ∀ j u, (termCells t)[j]? = some u → (w.alloc (.cells #[.string ⟨t.var.toArray⟩, .int .i64 t.n] 59)).cell? ((⟨w.heap.size, 0, none⟩ : Addr).add j) = some u := World.news_of_block (heap_alloc_new w _)
theorem one_term (t : Tr.Term) : ∀ u ∈ termCells t, u.oneCell' = true := by intro u hu; simp [termCells] at hu; rcases hu with rfl | rfl <;> rfl

theorem RInv.setOp {w wr : World} {P : Nat} {L : List Tk.Tok} {en : Int} {r : List Tk.Tok} {k at_ op : Int} {v : Value} {acc : List Tr.Term} (h : RInv w wr P L en r k at_ op v acc) (o : Int) : RInv w (wr.setCell ⟨w.heap.size + 1, 2, none⟩ (.int .i64 o)) P L en r k at_ o v acc where
  went := h.went.set h.lt (by omega) _ _
  res := (Below.heap_setCell _ _ _ _ (show ¬ w.heap.size = w.heap.size + 1 by omega)).trans h.res
  lit := by
    have := h.lit
    simp [World.setCell, Array.getElem?_modify, this]
  own := ownsRow_setCell_below h.own (by simp) _
  lt := h.lt
theorem RInv.setKind {w wr : World} {P : Nat} {L : List Tk.Tok} {en : Int} {r : List Tk.Tok} {k at_ op : Int} {v : Value} {acc : List Tr.Term} (h : RInv w wr P L en r k at_ op v acc) (o : Int) : RInv w (wr.setCell ⟨w.heap.size + 1, 0, none⟩ (.int .i64 o)) P L en r o at_ op v acc where
  went := h.went.set h.lt (by omega) _ _
  res := (Below.heap_setCell _ _ _ _ (show ¬ w.heap.size = w.heap.size + 1 by omega)).trans h.res
  lit := by
    have := h.lit
    simp [World.setCell, Array.getElem?_modify, this]
  own := ownsRow_setCell_below h.own (by simp) _
  lt := h.lt
theorem RInv.rcells {w wr : World} {P : Nat} {L : List Tk.Tok} {en : Int} {r : List Tk.Tok} {k at_ op : Int} {v : Value} {acc : List Tr.Term} (h : RInv w wr P L en r k at_ op v acc) :
    wr.cell? ⟨w.heap.size, 0, none⟩ = some (.int .i64 0) ∧ wr.cell? ⟨w.heap.size, 1, none⟩ = some (.int .i64 0) ∧ wr.cell? ⟨w.heap.size, 2, none⟩ = some (.int .i64 0) ∧ wr.cell? ⟨w.heap.size, 3, none⟩ = some (.string ⟨#[]⟩) ∧
      wr.cell? ⟨w.heap.size, 4, none⟩ = some (.slice none 0 0) :=
  ⟨by rw [Lib.cell_of_heap h.res]; rfl, by rw [Lib.cell_of_heap h.res]; rfl, by rw [Lib.cell_of_heap h.res]; rfl, by rw [Lib.cell_of_heap h.res]; rfl, by rw [Lib.cell_of_heap h.res]; rfl⟩
theorem gone {w wr wr' w' : World} {P : Nat} (h : w.grownBy wr (some P)) (hg : wr'.grownBy w' (some P)) (hb : Below wr.heap.size wr wr') : w.grownBy w' (some P) := grownBy_trans (ground h hb) hg
/-- What literal and reckoning leave. -/
def LitEnd (P : Nat) (L : List Tk.Tok) (en : Int) (w : World) (x : Int ⊕ (Tr.Lit × List Tk.Tok)) (e : Ending) (w' : World) : Prop := match x with
  | .inl a => e = gaveP a ∧ w.grownBy w' (some P)
  | .inr x => ∃ v, e = .returned (litVal x.1 v) ∧ TermsP w.heap.size w' v x.1.terms ∧ Went w w' P L en x.2
/-- The literal, copied to the result. -/
theorem RInv.out {w wr : World} {P : Nat} {L : List Tk.Tok} {en : Int} {r : List Tk.Tok} {k at_ op : Int} {v : Value} {acc : List Tr.Term} (h : RInv w wr P L en r k at_ op v acc) (a b c d e : Value) :
    TermsP w.heap.size (((((wr.setCell ⟨w.heap.size, 0, none⟩ a).setCell ⟨w.heap.size, 1, none⟩ b).setCell ⟨w.heap.size, 2, none⟩ c).setCell ⟨w.heap.size, 3, none⟩ d).setCell ⟨w.heap.size, 4, none⟩ e) v acc ∧
      Went w (((((wr.setCell ⟨w.heap.size, 0, none⟩ a).setCell ⟨w.heap.size, 1, none⟩ b).setCell ⟨w.heap.size, 2, none⟩ c).setCell ⟨w.heap.size, 3, none⟩ d).setCell ⟨w.heap.size, 4, none⟩ e) P L en r := by
  have h0 : TermsP (w.heap.size + 2) wr v acc := rowP_own (by intro c hc; simp at hc; obtain ⟨t, _, rfl⟩ := hc; rfl) (by rw [List.length_map]; exact h.own)
  refine ⟨?_, ((((h.went.set h.lt (Nat.le_refl _) _ _).set h.lt (Nat.le_refl _) _ _).set h.lt (Nat.le_refl _) _ _).set h.lt (Nat.le_refl _) _ _).set h.lt (Nat.le_refl _) _ _⟩
  exact (((((h0.keep (keeps_set _ (by omega) _ _)).keep (keeps_set _ (by omega) _ _)).keep (keeps_set _ (by omega) _ _)).keep (keeps_set _ (by omega) _ _)).keep (keeps_set _ (by omega) _ _)).mono (by omega)

set_option maxRecDepth 100000 in
set_option maxHeartbeats 4000000 in
theorem reckon_any (at_ : Int) (P : Nat) (L : List Tk.Tok) (en : Int) (r : List Tk.Tok) (w : World) (hA : At w P L en r) :
    Calls Tryz.prog 153 #[.pointer (some ⟨P, 0, none⟩), .int .i64 at_] w (LitEnd P L en w (Pr.reckon at_ en r)) := by
  obtain ⟨i0, hi, hz0, hz1, hz2⟩ := info_parts A_info71
  have hI := RInv.start hA at_
  have HQ : Hid (∀ X, Pr.reckon at_ en r = X → ∀ e w', LitEnd P L en w X e w' → LitEnd P L en w (Pr.reckon at_ en r) e w') := by rintro X rfl e w' h; exact h
  generalize LitEnd P L en w (Pr.reckon at_ en r) = Q at HQ ⊢
  cases h1 : Pr.term en r with
  | inl a =>
    have hX' : Pr.reckon at_ en r = .inl a := by rw [Pr.reckon, h1]
    have hX : Hid _ := hX'
    clear hX'
    have HN : Hid (∀ w1, At w1 P L en r → _) := fun w1 h => term_no P L en r w1 h a h1
    go_enter Tryz.func153, Tryz.ntmps153
    go_upto_region 2 with fail
    generalize (w.alloc litZero).alloc (.cells #[.int .i64 3, .int .i64 at_, .int .i64 0, .string ⟨#[]⟩, .slice none 0 0] 61) = w0 at *
    obtain ⟨c0, c1, c2, c3, c4, f1, f0⟩ := hI.cells
    go_region_dies
    all_goals (refine Calls.mono (HN.out _ (At.keep hI.went.2 (fun _ _ => rfl))) ?_)
    all_goals rintro e y2 ⟨rfl, hg2⟩
    all_goals exact ⟨rfl, HQ.out _ hX.out _ _ ⟨rfl, gone hI.went.1 hg2 ⟨rfl, rfl, rfl, Nat.le_refl _, fun _ _ => rfl⟩⟩⟩
  | inr x1 =>
    obtain ⟨t1, r1⟩ := x1
    have HT1 : Hid (∀ w1, At w1 P L en r → _) := fun w1 h => term_yes P L en r w1 h t1 r1 h1
    by_cases hop : Pr.opOf (Pr.hd en r1).text = 0
    · have hX' : Pr.reckon at_ en r = .inl (Pr.hd en r1).at_ := by
        have : Pr.op en r1 = .inl (Pr.hd en r1).at_ := by simp [Pr.op, hop]
        simp only [Pr.reckon, h1, this]
      have hX : Hid _ := hX'
      clear hX'
      have HN : Hid (∀ w1, At w1 P L en r1 → _) := fun w1 h => op_no P L en r1 w1 h hop
      generalize Pr.hd en r1 = x at *
      go_enter Tryz.func153, Tryz.ntmps153
      go_upto_region 2 with fail
      generalize (w.alloc litZero).alloc (.cells #[.int .i64 3, .int .i64 at_, .int .i64 0, .string ⟨#[]⟩, .slice none 0 0] 61) = w0 at *
      obtain ⟨c0, c1, c2, c3, c4, f1, f0⟩ := hI.cells
      go_cut [] (fun wx => ∃ v, RInv w wx P L en r1 3 at_ 0 v [t1])
      case first =>
        go_region_law (first
          | (go_simp; go_at_call 152; refine Calls.mono (HT1.out _ (At.keep hI.went.2 (fun _ _ => rfl))) ?_; rintro e y2 ⟨rfl, hW2⟩; have hI2 := RInv.on2 hI hW2 ⟨rfl, rfl, rfl, Nat.le_refl _, fun _ _ => rfl⟩; obtain ⟨d0, d1, d2, d3, d4, g1, g0⟩ := hI2.cells; have hsz := hI2.sz; have hsz1 : w.heap.size + 1 < y2.heap.size := hsz; dsimp only)
          | (refine step_append_lies _ rfl (.tmp 9) (.tmp 12) 54 rfl (w.heap.size + 2) 59 i0 _ 2 24 Tryz.underlying54 hi hz0 hz1 hz2 rfl (by decide) (.slice none 0 0) 0 _ ?hs (RInv.below hI2 ((Below.refl _ _).alloc (Nat.le_refl _) _)).own ⟨y2.heap.size, 0, none⟩ 1 1 (termCells t1) ?hx rfl ?hn ?ho ?hm ?h6 ?hb ?hB _ rfl ?_
             case hs => simp [Act.eval]
             case hx => simp [Act.eval]
             case hn => exact news_term _ _
             case ho => exact one_term _
             case hm => decide
             case h6 => decide
             case hb => decide
             case hB => (simp; omega)
             intro g cap y3 hown hgrow hat hlt
             have hI3 := RInv.put (t := t1) (RInv.below hI2 ((Below.refl _ _).alloc (Nat.le_refl _) _)) hgrow hown
             obtain ⟨_, _, e4, ef⟩ := RInv.app (RInv.below hI2 ((Below.refl _ _).alloc (Nat.le_refl _) _)) hgrow))
        all_goals (go_wp2_with fail; go_meet)
        all_goals exact ⟨_, hI3⟩
      case rest =>
        obtain ⟨va, hIa⟩ := hcut
        obtain ⟨aoa, capa, rfl⟩ := own_slice hIa.own
        go_wp2_with fail
        refine Calls.mono (HN.out _ hIa.went.2) ?_
        rintro e y2 ⟨rfl, hb2⟩
        exact ⟨rfl, HQ.out _ hX.out _ _ ⟨rfl, ground hIa.went.1 hb2⟩⟩
    · have hO : Pr.op en r1 = .inr (Pr.opOf (Pr.hd en r1).text, r1.tail) := by simp [Pr.op, hop]
      have HO : Hid (∀ w1, At w1 P L en r1 → _) := fun w1 h => op_yes P L en r1 w1 h hop
      generalize Pr.opOf (Pr.hd en r1).text = o at hO HO
      clear hop
      have hX0' : Pr.reckon at_ en r = match Pr.term en r1.tail with
          | .inl p => .inl p
          | .inr b => if Tr.between o 5 7 then Pr.calcLit at_ o t1 b.1 en b.2 else .inr (⟨3, at_, o, [], [t1, b.1]⟩, b.2) := by
        simp only [Pr.reckon, h1, hO]
        cases Pr.term en r1.tail <;> rfl
      have hX0 : Hid _ := hX0'
      clear hX0'
      go_enter Tryz.func153, Tryz.ntmps153
      go_upto_region 2 with fail
      generalize (w.alloc litZero).alloc (.cells #[.int .i64 3, .int .i64 at_, .int .i64 0, .string ⟨#[]⟩, .slice none 0 0] 61) = w0 at *
      obtain ⟨c0, c1, c2, c3, c4, f1, f0⟩ := hI.cells
      go_cut [] (fun wx => ∃ v, RInv w wx P L en r1 3 at_ 0 v [t1])
      case first =>
        go_region_law (first
          | (go_simp; go_at_call 152; refine Calls.mono (HT1.out _ (At.keep hI.went.2 (fun _ _ => rfl))) ?_; rintro e y2 ⟨rfl, hW2⟩; have hI2 := RInv.on2 hI hW2 ⟨rfl, rfl, rfl, Nat.le_refl _, fun _ _ => rfl⟩; obtain ⟨d0, d1, d2, d3, d4, g1, g0⟩ := hI2.cells; have hsz := hI2.sz; have hsz1 : w.heap.size + 1 < y2.heap.size := hsz; dsimp only)
          | (refine step_append_lies _ rfl (.tmp 9) (.tmp 12) 54 rfl (w.heap.size + 2) 59 i0 _ 2 24 Tryz.underlying54 hi hz0 hz1 hz2 rfl (by decide) (.slice none 0 0) 0 _ ?hs (RInv.below hI2 ((Below.refl _ _).alloc (Nat.le_refl _) _)).own ⟨y2.heap.size, 0, none⟩ 1 1 (termCells t1) ?hx rfl ?hn ?ho ?hm ?h6 ?hb ?hB _ rfl ?_
             case hs => simp [Act.eval]
             case hx => simp [Act.eval]
             case hn => exact news_term _ _
             case ho => exact one_term _
             case hm => decide
             case h6 => decide
             case hb => decide
             case hB => (simp; omega)
             intro g cap y3 hown hgrow hat hlt
             have hI3 := RInv.put (t := t1) (RInv.below hI2 ((Below.refl _ _).alloc (Nat.le_refl _) _)) hgrow hown
             obtain ⟨_, _, e4, ef⟩ := RInv.app (RInv.below hI2 ((Below.refl _ _).alloc (Nat.le_refl _) _)) hgrow))
        all_goals (go_wp2_with fail; go_meet)
        all_goals exact ⟨_, hI3⟩
      case rest =>
        obtain ⟨va, hIa⟩ := hcut
        obtain ⟨aoa, capa, rfl⟩ := own_slice hIa.own
        obtain ⟨c0, c1, c2, c3, c4, f1, f0⟩ := hIa.cells
        clear hI
        go_wp2_with fail
        refine Calls.mono (HO.out _ hIa.went.2) ?_
        rintro e w2 ⟨rfl, hW2⟩
        have hIb := (hIa.on hW2)
        obtain ⟨c0, c1, c2, c3, c4, f1, f0⟩ := hIb.cells
        have hIc := hIb.setOp o
        go_upto_region 4 with fail
        generalize w2.setCell ⟨w.heap.size + 1, 2, none⟩ (.int .i64 o) = w3 at *
        clear c0 c1 c2 c3 c4 f1 f0 hIa hIb
        obtain ⟨c0, c1, c2, c3, c4, f1, f0⟩ := hIc.cells
        generalize r1.tail = r2 at *
        cases h2 : Pr.term en r2 with
        | inl a =>
          have hX' : Pr.reckon at_ en r = .inl a := by rw [hX0.out, h2]
          have hX : Hid _ := hX'
          clear hX'
          have HN : Hid (∀ w1, At w1 P L en r2 → _) := fun w1 h => term_no P L en r2 w1 h a h2
          go_region_dies
          all_goals (refine Calls.mono (HN.out _ (At.keep hIc.went.2 (fun _ _ => rfl))) ?_)
          all_goals rintro e y2 ⟨rfl, hg2⟩
          all_goals exact ⟨rfl, HQ.out _ hX.out _ _ ⟨rfl, gone hIc.went.1 hg2 ⟨rfl, rfl, rfl, Nat.le_refl _, fun _ _ => rfl⟩⟩⟩
        | inr x2 =>
          obtain ⟨t2, r3⟩ := x2
          have hX1' : Pr.reckon at_ en r = if Tr.between o 5 7 then Pr.calcLit at_ o t1 t2 en r3 else .inr (⟨3, at_, o, [], [t1, t2]⟩, r3) := by rw [hX0.out, h2]
          have hX1 : Hid _ := hX1'
          clear hX1'
          have HT2 : Hid (∀ w1, At w1 P L en r2 → _) := fun w1 h => term_yes P L en r2 w1 h t2 r3 h2
          go_cut [] (fun wx => ∃ v, RInv w wx P L en r3 3 at_ o v [t1, t2])
          case first =>
            go_region_law (first
              | (go_simp; go_at_call 152; refine Calls.mono (HT2.out _ (At.keep hIc.went.2 (fun _ _ => rfl))) ?_; rintro e y2 ⟨rfl, hW2⟩; have hI2 := RInv.on2 hIc hW2 ⟨rfl, rfl, rfl, Nat.le_refl _, fun _ _ => rfl⟩; obtain ⟨d0, d1, d2, d3, d4, g1, g0⟩ := hI2.cells; have hsz := hI2.sz; have hsz1 : w.heap.size + 1 < y2.heap.size := hsz; dsimp only)
              | (refine step_append_lies _ rfl (.tmp 19) (.tmp 22) 54 rfl (w.heap.size + 2) 59 i0 _ 2 24 Tryz.underlying54 hi hz0 hz1 hz2 rfl (by decide) (.slice aoa 1 capa) 1 _ ?hs (RInv.below hI2 ((Below.refl _ _).alloc (Nat.le_refl _) _)).own ⟨y2.heap.size, 0, none⟩ 1 1 (termCells t2) ?hx rfl ?hn ?ho ?hm ?h6 ?hb ?hB _ rfl ?_
                 case hs => simp [Act.eval]
                 case hx => simp [Act.eval]
                 case hn => exact news_term _ _
                 case ho => exact one_term _
                 case hm => decide
                 case h6 => decide
                 case hb => decide
                 case hB => (simp; omega)
                 intro g cap y3 hown hgrow hat hlt
                 have hI3 := RInv.put (t := t2) (RInv.below hI2 ((Below.refl _ _).alloc (Nat.le_refl _) _)) hgrow hown
                 obtain ⟨_, _, e4, ef⟩ := RInv.app (RInv.below hI2 ((Below.refl _ _).alloc (Nat.le_refl _) _)) hgrow))
            all_goals (go_wp2_with fail; go_meet)
            all_goals exact ⟨_, hI3⟩
          case rest =>
            obtain ⟨vd, hId⟩ := hcut
            obtain ⟨aod, capd, rfl⟩ := own_slice hId.own
            clear c0 c1 c2 c3 c4 f1 f0 hIc
            obtain ⟨c0, c1, c2, c3, c4, f1, f0⟩ := hId.cells
            clear HT1 HO HT2 hX0
            go_wp2_with fail
            refine (isCalc_any o _).mono ?_
            rintro e w5 ⟨rfl, rfl⟩
            cases hb : Tr.between o 5 7
            · have hX : Pr.reckon at_ en r = .inr (⟨3, at_, o, [], [t1, t2]⟩, r3) := by rw [hX1.out, hb]; rfl
              have HF : Hid (∀ e w', _ → Q e w') := fun e w' h => HQ.out _ hX e w' h
              clear hX hX1 HQ
              obtain ⟨x0, x1, x2, x3, x4⟩ := hId.rcells
              go_wp2
              exact bodyPost_ret (v := litVal ⟨3, at_, o, [], [t1, t2]⟩ (.slice aod 2 capd)) (by simp [results, Tryz.results153, go_sem, x0, x1, x2, x3, x4]) rfl (HF.out _ _ ⟨_, rfl, hId.out _ _ _ _ _⟩)
            · have hIe := hId.setKind 4
              go_wp2_with fail
              cases hm : Pr.isText en r3 [61]
              · have hX' : Pr.reckon at_ en r = .inl (Pr.hd en r3).at_ := by
                  have : Pr.must [61] en r3 = .inl (Pr.hd en r3).at_ := by unfold Pr.must; unfold Pr.isText at hm; rw [hm]; rfl
                  rw [hX1.out, hb]
                  simp only [if_true, Pr.calcLit, this]
                have HF : Hid (∀ e w', _ → Q e w') := fun e w' h => HQ.out _ hX' e w' h
                clear hX' hX1 HQ
                refine (must_no [61] P L en r3 _ hIe.went.2 hm).mono ?_
                rintro e y2 ⟨rfl, hb2⟩
                exact ⟨rfl, HF.out _ _ ⟨rfl, ground hIe.went.1 hb2⟩⟩
              · have hX2' : Pr.reckon at_ en r = match Pr.term en r3.tail with
                    | .inl p => .inl p
                    | .inr z => .inr (⟨4, at_, o, [], [t1, t2, z.1]⟩, z.2) := by
                  have : Pr.must [61] en r3 = .inr r3.tail := by unfold Pr.must; unfold Pr.isText at hm; rw [hm]; rfl
                  rw [hX1.out, hb]
                  simp only [if_true, Pr.calcLit, this]
                  cases Pr.term en r3.tail <;> rfl
                have hX2 : Hid _ := hX2'
                clear hX2'
                refine (must_yes [61] P L en r3 _ hIe.went.2 (by simp) hm).mono ?_
                rintro e w6 ⟨rfl, hW6⟩
                have hIf := hIe.on hW6
                clear c0 c1 c2 c3 c4 f1 f0 hId hIe hW6 hX1
                generalize r3.tail = r4 at *
                obtain ⟨c0, c1, c2, c3, c4, f1, f0⟩ := hIf.cells
                go_upto_region 8 with fail
                cases h3 : Pr.term en r4 with
                | inl a =>
                  have hX' : Pr.reckon at_ en r = .inl a := by rw [hX2.out, h3]
                  have hX : Hid _ := hX'
                  clear hX'
                  have HN : Hid (∀ w1, At w1 P L en r4 → _) := fun w1 h => term_no P L en r4 w1 h a h3
                  go_region_dies
                  all_goals (refine Calls.mono (HN.out _ (At.keep hIf.went.2 (fun _ _ => rfl))) ?_)
                  all_goals rintro e y2 ⟨rfl, hg2⟩
                  all_goals exact ⟨rfl, HQ.out _ hX.out _ _ ⟨rfl, gone hIf.went.1 hg2 ⟨rfl, rfl, rfl, Nat.le_refl _, fun _ _ => rfl⟩⟩⟩
                | inr x3 =>
                  obtain ⟨t3, r5⟩ := x3
                  have hX' : Pr.reckon at_ en r = .inr (⟨4, at_, o, [], [t1, t2, t3]⟩, r5) := by rw [hX2.out, h3]
                  have HF : Hid (∀ e w', _ → Q e w') := fun e w' h => HQ.out _ hX' e w' h
                  clear hX' hX2 HQ
                  have HT3 : Hid (∀ w1, At w1 P L en r4 → _) := fun w1 h => term_yes P L en r4 w1 h t3 r5 h3
                  go_cut [] (fun wx => ∃ v, RInv w wx P L en r5 4 at_ o v [t1, t2, t3])
                  case first =>
                    go_region_law (first
                      | (go_simp; go_at_call 152; refine Calls.mono (HT3.out _ (At.keep hIf.went.2 (fun _ _ => rfl))) ?_; rintro e y2 ⟨rfl, hW2⟩; have hI2 := RInv.on2 hIf hW2 ⟨rfl, rfl, rfl, Nat.le_refl _, fun _ _ => rfl⟩; obtain ⟨d0, d1, d2, d3, d4, g1, g0⟩ := hI2.cells; have hsz := hI2.sz; have hsz1 : w.heap.size + 1 < y2.heap.size := hsz; dsimp only)
                      | (refine step_append_lies _ rfl (.tmp 32) (.tmp 35) 54 rfl (w.heap.size + 2) 59 i0 _ 2 24 Tryz.underlying54 hi hz0 hz1 hz2 rfl (by decide) (.slice aod 2 capd) 2 _ ?hs (RInv.below hI2 ((Below.refl _ _).alloc (Nat.le_refl _) _)).own ⟨y2.heap.size, 0, none⟩ 1 1 (termCells t3) ?hx rfl ?hn ?ho ?hm ?h6 ?hb ?hB _ rfl ?_
                         case hs => simp [Act.eval]
                         case hx => simp [Act.eval]
                         case hn => exact news_term _ _
                         case ho => exact one_term _
                         case hm => decide
                         case h6 => decide
                         case hb => decide
                         case hB => (simp; omega)
                         intro g cap y3 hown hgrow hat hlt
                         have hI3 := RInv.put (t := t3) (RInv.below hI2 ((Below.refl _ _).alloc (Nat.le_refl _) _)) hgrow hown
                         obtain ⟨_, _, e4, ef⟩ := RInv.app (RInv.below hI2 ((Below.refl _ _).alloc (Nat.le_refl _) _)) hgrow))
                    all_goals (go_wp2_with fail; go_meet)
                    all_goals exact ⟨_, hI3⟩
                  case rest =>
                    obtain ⟨vg, hIg⟩ := hcut
                    obtain ⟨aog, capg, rfl⟩ := own_slice hIg.own
                    clear c0 c1 c2 c3 c4 f1 f0 hIf
                    obtain ⟨c0, c1, c2, c3, c4, f1, f0⟩ := hIg.cells
                    obtain ⟨x0, x1, x2, x3, x4⟩ := hIg.rcells
                    go_wp2
                    exact bodyPost_ret (v := litVal ⟨4, at_, o, [], [t1, t2, t3]⟩ (.slice aog 3 capg)) (by simp [results, Tryz.results153, go_sem, x0, x1, x2, x3, x4]) rfl (HF.out _ _ ⟨_, rfl, hIg.out _ _ _ _ _⟩)

end Go.Proofs.YtgpaleifhcdjnaaGreatDoor

/- The parser's literals. -/
namespace Go.Proofs.YtgpaleifhcdjnaaGreatDoor
open Go.RowKit

/-- A literal with a name under way: its block is B. -/
structure LInv (w wr : World) (B P : Nat) (L : List Tk.Tok) (en : Int) (r : List Tk.Tok) (k at_ : Int) (nm : List UInt8) : Prop where
  went : Went w wr P L en r
  res : wr.heap[w.heap.size]? = some litZero
  lit : wr.heap[B]? = some (.cells #[.int .i64 k, .int .i64 at_, .int .i64 0, .string ⟨nm.toArray⟩, .slice none 0 0] 61)
  lt : P < w.heap.size
  ltB : w.heap.size < B
theorem LInv.start {w w1 : World} {P : Nat} {L : List Tk.Tok} {en : Int} {r : List Tk.Tok} (hA : At w P L en r) (hb : Below (w.alloc litZero).heap.size (w.alloc litZero) w1) (at_ : Int) :
    LInv w (w1.alloc (.cells #[.int .i64 0, .int .i64 at_, .int .i64 0, .string ⟨#[]⟩, .slice none 0 0] 61)) w1.heap.size P L en r 0 at_ [] where
  went := (Went.behind ((Below.refl _ _).alloc (Nat.le_refl _) _) ⟨grownBy_of_below hb _, (hA.below ((Below.refl _ _).alloc (Nat.le_refl _) _)).below hb⟩).alloc _
  res := by
    have h1 : w1.heap[w.heap.size]? = some litZero := (hb.block _ (by simp)).trans (heap_alloc_new w _)
    exact (((Below.refl _ _).alloc (Nat.le_refl _) _).block _ (heap_lt h1)).trans h1
  lit := heap_alloc_new w1 _
  lt := hA.lt
  ltB := by have := hb.size; simp at this; omega
theorem LInv.on {w wr w' : World} {B P : Nat} {L : List Tk.Tok} {en : Int} {r r' : List Tk.Tok} {k at_ : Int} {nm : List UInt8} (h : LInv w wr B P L en r k at_ nm) (hW : Went wr w' P L en r') : LInv w w' B P L en r' k at_ nm where
  went := Went.trans h.went hW
  res := (hW.1.block _ (heap_lt h.res) (by have := h.lt; intro e; injection e; omega)).trans h.res
  lit := (hW.1.block _ (heap_lt h.lit) (by have := h.lt; have := h.ltB; intro e; injection e; omega)).trans h.lit
  lt := h.lt
  ltB := h.ltB
theorem LInv.below {w wr w' : World} {B P : Nat} {L : List Tk.Tok} {en : Int} {r : List Tk.Tok} {k at_ : Int} {nm : List UInt8} (h : LInv w wr B P L en r k at_ nm) (hb : Below wr.heap.size wr w') : LInv w w' B P L en r k at_ nm :=
  h.on ⟨grownBy_of_below hb _, h.went.2.below hb⟩
theorem LInv.cells {w wr : World} {B P : Nat} {L : List Tk.Tok} {en : Int} {r : List Tk.Tok} {k at_ : Int} {nm : List UInt8} (h : LInv w wr B P L en r k at_ nm) :
    wr.cell? ⟨B, 0, none⟩ = some (.int .i64 k) ∧ wr.cell? ⟨B, 1, none⟩ = some (.int .i64 at_) ∧ wr.cell? ⟨B, 2, none⟩ = some (.int .i64 0) ∧ wr.cell? ⟨B, 3, none⟩ = some (.string ⟨nm.toArray⟩) ∧
      wr.cell? ⟨B, 4, none⟩ = some (.slice none 0 0) ∧ (∀ o, wr.frozen? ⟨B, o, none⟩ = false) ∧ (∀ o, wr.frozen? ⟨w.heap.size, o, none⟩ = false) :=
  ⟨by rw [Lib.cell_of_heap h.lit]; rfl, by rw [Lib.cell_of_heap h.lit]; rfl, by rw [Lib.cell_of_heap h.lit]; rfl, by rw [Lib.cell_of_heap h.lit]; rfl, by rw [Lib.cell_of_heap h.lit]; rfl, fun o => by simp [World.frozen?, h.lit], fun o => by simp [World.frozen?, h.res]⟩
theorem LInv.rcells {w wr : World} {B P : Nat} {L : List Tk.Tok} {en : Int} {r : List Tk.Tok} {k at_ : Int} {nm : List UInt8} (h : LInv w wr B P L en r k at_ nm) :
    wr.cell? ⟨w.heap.size, 0, none⟩ = some (.int .i64 0) ∧ wr.cell? ⟨w.heap.size, 1, none⟩ = some (.int .i64 0) ∧ wr.cell? ⟨w.heap.size, 2, none⟩ = some (.int .i64 0) ∧ wr.cell? ⟨w.heap.size, 3, none⟩ = some (.string ⟨#[]⟩) ∧
      wr.cell? ⟨w.heap.size, 4, none⟩ = some (.slice none 0 0) :=
  ⟨by rw [Lib.cell_of_heap h.res]; rfl, by rw [Lib.cell_of_heap h.res]; rfl, by rw [Lib.cell_of_heap h.res]; rfl, by rw [Lib.cell_of_heap h.res]; rfl, by rw [Lib.cell_of_heap h.res]; rfl⟩
theorem LInv.setKind {w wr : World} {B P : Nat} {L : List Tk.Tok} {en : Int} {r : List Tk.Tok} {k at_ : Int} {nm : List UInt8} (h : LInv w wr B P L en r k at_ nm) (o : Int) : LInv w (wr.setCell ⟨B, 0, none⟩ (.int .i64 o)) B P L en r o at_ nm where
  went := h.went.set h.lt (Nat.le_of_lt h.ltB) _ _
  res := (Below.heap_setCell _ _ _ _ (show ¬ w.heap.size = B by have := h.ltB; omega)).trans h.res
  lit := by
    have := h.lit
    simp [World.setCell, Array.getElem?_modify, this]
  lt := h.lt
  ltB := h.ltB
theorem LInv.setName {w wr : World} {B P : Nat} {L : List Tk.Tok} {en : Int} {r : List Tk.Tok} {k at_ : Int} {nm : List UInt8} (h : LInv w wr B P L en r k at_ nm) (s : List UInt8) : LInv w (wr.setCell ⟨B, 3, none⟩ (.string ⟨s.toArray⟩)) B P L en r k at_ s where
  went := h.went.set h.lt (Nat.le_of_lt h.ltB) _ _
  res := (Below.heap_setCell _ _ _ _ (show ¬ w.heap.size = B by have := h.ltB; omega)).trans h.res
  lit := by
    have := h.lit
    simp [World.setCell, Array.getElem?_modify, this]
  lt := h.lt
  ltB := h.ltB
theorem Went.put5 {w wr : World} {P : Nat} {L : List Tk.Tok} {en : Int} {r : List Tk.Tok} (h : Went w wr P L en r) (hlt : P < w.heap.size) (a b c d e : Value) :
    Went w (((((wr.setCell ⟨w.heap.size, 0, none⟩ a).setCell ⟨w.heap.size, 1, none⟩ b).setCell ⟨w.heap.size, 2, none⟩ c).setCell ⟨w.heap.size, 3, none⟩ d).setCell ⟨w.heap.size, 4, none⟩ e) P L en r :=
  ((((h.set hlt (Nat.le_refl _) _ _).set hlt (Nat.le_refl _) _ _).set hlt (Nat.le_refl _) _ _).set hlt (Nat.le_refl _) _ _).set hlt (Nat.le_refl _) _ _
theorem keeps5 {w wr : World} {B' : Nat} (hB : w.heap.size < B') (E : TypeId → Prop) (a b c d e : Value) :
    Keeps B' wr (((((wr.setCell ⟨w.heap.size, 0, none⟩ a).setCell ⟨w.heap.size, 1, none⟩ b).setCell ⟨w.heap.size, 2, none⟩ c).setCell ⟨w.heap.size, 3, none⟩ d).setCell ⟨w.heap.size, 4, none⟩ e) E :=
  ((((keeps_set E hB _ _).trans (keeps_set E hB _ _)).trans (keeps_set E hB _ _)).trans (keeps_set E hB _ _)).trans (keeps_set E hB _ _)

set_option maxRecDepth 100000 in
set_option maxHeartbeats 4000000 in
theorem lit_reck (P : Nat) (L : List Tk.Tok) (en : Int) (r : List Tk.Tok) (w : World) (hA : At w P L en r) (h1 : Pr.isText en r [110, 111, 116] = false) (h2 : ((Pr.hd en r).kind == 1) = false) :
    Calls Tryz.prog 129 #[.pointer (some ⟨P, 0, none⟩)] w (LitEnd P L en w (Pr.lit en r)) := by
  have hX : Pr.lit en r = Pr.reckon (Pr.hd en r).at_ en r := by simp [Pr.lit, h1, h2]
  rw [hX]
  have hpk : Hid _ := peekAt P L en r w hA
  have HR : Hid (∀ at_ w1, At w1 P L en r → Calls Tryz.prog 153 #[.pointer (some ⟨P, 0, none⟩), .int .i64 at_] w1 (LitEnd P L en w1 (Pr.reckon at_ en r))) := fun at_ w1 h => reckon_any at_ P L en r w1 h
  generalize Pr.hd en r = x at *
  generalize hY : Pr.reckon x.at_ en r = Y
  go_enter Tryz.func129, Tryz.ntmps129
  go_wp2_with fail
  refine Calls.mono (hpk.out _ ((Below.refl _ _).alloc (Nat.le_refl _) _)) ?_
  rintro e w1 ⟨rfl, hb0⟩
  have hI := LInv.start hA hb0 x.at_
  go_wp2_with fail
  simp only [fld1]
  go_wp2_with fail
  refine (take_no [110, 111, 116] P L en r _ hI.went.2 h1).mono ?_
  rintro e w2 ⟨rfl, hb2⟩
  have hI2 := hI.below hb2
  have hlt2 := hI2.ltB
  obtain ⟨c0, c1, c2, c3, c4, f1, f0⟩ := hI2.cells
  go_wp2_with fail
  have hbw : Below w.heap.size w w2 := ((((Below.refl _ _).alloc (Nat.le_refl _) _).trans (hb0.mono (by simp))).alloc (by have := hb0.size; simp at this; omega) _).trans (hb2.mono (by have := hb0.size; simp at this; simp; omega))
  refine Calls.mono (hpk.out _ hbw) ?_
  rintro e w3 ⟨rfl, hb3⟩
  have hI3 := hI2.below hb3
  obtain ⟨c0, c1, c2, c3, c4, f1, f0⟩ := hI3.cells
  clear hpk hI hI2
  go_wp2_with fail
  simp only [fld0]
  go_wp2_with fail
  refine Calls.mono (HR.out _ _ hI3.went.2) ?_
  rw [hY]
  have hlt := hI3.lt
  cases Y with
  | inl a =>
    rintro e w4 ⟨rfl, hg4⟩
    exact ⟨rfl, rfl, grownBy_trans hI3.went.1 hg4⟩
  | inr y =>
    rintro e w4 ⟨v, rfl, hT, hW4⟩
    have hI4 := hI3.on hW4
    have hsz : w.heap.size < w3.heap.size := heap_lt hI3.res
    obtain ⟨x0, x1, x2, x3, x4⟩ := hI4.rcells
    obtain ⟨c0, c1, c2, c3, c4, f1, f0⟩ := hI4.cells
    obtain ⟨ao, cap, hv, hT'⟩ := hT
    have hT := (show TermsP w3.heap.size w4 v y.1.terms from ⟨ao, cap, hv, hT'⟩)
    subst hv
    go_wp2
    exact bodyPost_ret (v := litVal y.1 _) (by simp [results, Tryz.results129, go_sem, x0, x1, x2, x3, x4]) rfl ⟨_, rfl, (hT.keep (keeps5 hsz _ _ _ _ _ _)).mono (Nat.le_of_lt hsz), hI4.went.put5 hlt _ _ _ _ _⟩

end Go.Proofs.YtgpaleifhcdjnaaGreatDoor

/- The parser's literals with a name. -/
namespace Go.Proofs.YtgpaleifhcdjnaaGreatDoor
open Go.RowKit

set_option maxRecDepth 100000 in
set_option maxHeartbeats 4000000 in
theorem lit_not (P : Nat) (L : List Tk.Tok) (en : Int) (r : List Tk.Tok) (w : World) (hA : At w P L en r) (h1 : Pr.isText en r [110, 111, 116] = true) :
    Calls Tryz.prog 129 #[.pointer (some ⟨P, 0, none⟩)] w (LitEnd P L en w (Pr.lit en r)) := by
  have hX : Pr.lit en r = Pr.atom 2 (Pr.hd en r).at_ en r.tail := by simp [Pr.lit, h1]
  have HQ : Hid (∀ X, Pr.atom 2 (Pr.hd en r).at_ en r.tail = X → ∀ e w', LitEnd P L en w X e w' → LitEnd P L en w (Pr.lit en r) e w') := by rintro X rfl e w' h; rw [hX]; exact h
  generalize LitEnd P L en w (Pr.lit en r) = Q at HQ ⊢
  clear hX
  have hpk : Hid _ := peekAt P L en r w hA
  have HM : Hid (∀ w1, At w1 P L en r → _) := fun w1 h => take_yes [110, 111, 116] P L en r w1 h (by simp) h1
  generalize Pr.hd en r = x at *
  generalize r.tail = r0 at *
  go_enter Tryz.func129, Tryz.ntmps129
  go_wp2_with fail
  refine Calls.mono (hpk.out _ ((Below.refl _ _).alloc (Nat.le_refl _) _)) ?_
  rintro e w1 ⟨rfl, hb0⟩
  have hI := LInv.start hA hb0 x.at_
  go_wp2_with fail
  simp only [fld1]
  go_wp2_with fail
  refine Calls.mono (HM.out _ hI.went.2) ?_
  rintro e w2 ⟨rfl, hW2⟩
  have hI2 := hI.on hW2
  obtain ⟨c0, c1, c2, c3, c4, f1, f0⟩ := hI2.cells
  have hI3 := hI2.setKind 2
  clear hI hpk HM hb0 hA h1
  cases hn : (((Pr.hd en r0).kind == 1) && !Tr.isWord (Pr.hd en r0).text)
  · have hN : Pr.name en r0 = .inl (Pr.hd en r0).at_ := by unfold Pr.name; rw [hn]; rfl
    have HF : Hid (∀ e w', LitEnd P L en w (.inl (Pr.hd en r0).at_) e w' → Q e w') := fun e w' h => HQ.out _ (by simp only [Pr.atom, hN]) e w' h
    go_wp2_with fail
    refine (name_no P L en r0 _ hI3.went.2 hn).mono ?_
    rintro e w5 ⟨rfl, hb5⟩
    exact ⟨rfl, HF.out _ _ ⟨rfl, ground hI3.went.1 hb5⟩⟩
  · have hN : Pr.name en r0 = .inr ((Pr.hd en r0).text, r0.tail) := by unfold Pr.name; rw [hn]; rfl
    have HN : Hid (∀ w1, At w1 P L en r0 → _) := fun w1 h => name_yes P L en r0 w1 h hn
    have HA : Hid (∀ X, (match Pr.terms false en r0.tail with
        | .inl a => Sum.inl a
        | .inr y => .inr ((⟨2, x.at_, 0, (Pr.hd en r0).text, y.1.1⟩ : Tr.Lit), y.2)) = X → ∀ e w', LitEnd P L en w X e w' → Q e w') := by
      intro X hX e w' h
      refine HQ.out X ?_ e w' h
      rw [← hX]
      simp only [Pr.atom, hN]
      cases Pr.terms false en r0.tail <;> rfl
    have HT : Hid (∀ w1, At w1 P L en r0.tail → _) := fun w1 h => terms_any false P L en r0.tail w1 h
    unfold TermsEnd at HT
    generalize (Pr.hd en r0).text = nm at *
    clear hN hn HQ
    go_wp2_with fail
    refine Calls.mono (HN.out _ hI3.went.2) ?_
    rintro e w5 ⟨rfl, hW5⟩
    have hI5 := hI3.on hW5
    have hI6 := hI5.setName nm
    obtain ⟨c0, c1, c2, c3, c4, f1, f0⟩ := hI5.cells
    go_wp2_with fail
    refine Calls.mono (HT.out _ hI6.went.2) ?_
    have hlt := hI6.lt
    have hltB := hI6.ltB
    have hltB' : w1.heap.size < (w5.setCell ⟨w1.heap.size, 3, none⟩ (.string ⟨nm.toArray⟩)).heap.size := heap_lt hI6.lit
    generalize w5.setCell ⟨w1.heap.size, 3, none⟩ (.string ⟨nm.toArray⟩) = w6 at *
    clear c0 c1 c2 c3 c4 f1 f0 hI5 hW5 HN HT
    cases hY : Pr.terms false en r0.tail with
    | inl a =>
      have HF : Hid (∀ e w', LitEnd P L en w (.inl a) e w' → Q e w') := fun e w' h => HA.out _ (by rw [hY]) e w' h
      rintro e w7 ⟨rfl, hg7⟩
      exact ⟨rfl, HF.out _ _ ⟨rfl, grownBy_trans hI6.went.1 hg7⟩⟩
    | inr y =>
      have HF : Hid (∀ e w', LitEnd P L en w (.inr (⟨2, x.at_, 0, nm, y.1.1⟩, y.2)) e w' → Q e w') := fun e w' h => HA.out _ (by rw [hY]) e w' h
      clear HA
      rintro e w7 ⟨v, rfl, hT, hW7⟩
      have hI7 := hI6.on hW7
      obtain ⟨x0, x1, x2, x3, x4⟩ := hI7.rcells
      obtain ⟨c0, c1, c2, c3, c4, f1, f0⟩ := hI7.cells
      obtain ⟨ao, cap, hv, hT'⟩ := hT
      have hT := (show TermsP w6.heap.size w7 v y.1.1 from ⟨ao, cap, hv, hT'⟩)
      subst hv
      go_wp2
      exact bodyPost_ret (v := litVal ⟨2, x.at_, 0, nm, y.1.1⟩ _) (by simp [results, Tryz.results129, go_sem, x0, x1, x2, x3, x4]) rfl (HF.out _ _ ⟨_, rfl, (((hT.keep (keeps_set _ hltB' _ _)).keep (keeps5 (Nat.lt_trans hltB hltB') _ _ _ _ _ _)).mono (Nat.le_of_lt (Nat.lt_trans hltB hltB'))), (hI7.went.set hlt (Nat.le_of_lt hltB) _ _).put5 hlt _ _ _ _ _⟩)

set_option maxRecDepth 100000 in
set_option maxHeartbeats 4000000 in
theorem lit_yes (P : Nat) (L : List Tk.Tok) (en : Int) (r : List Tk.Tok) (w : World) (hA : At w P L en r) (h1 : Pr.isText en r [110, 111, 116] = false) (h2 : ((Pr.hd en r).kind == 1) = true) :
    Calls Tryz.prog 129 #[.pointer (some ⟨P, 0, none⟩)] w (LitEnd P L en w (Pr.lit en r)) := by
  have hX : Pr.lit en r = Pr.atom 1 (Pr.hd en r).at_ en r := by simp [Pr.lit, h1, h2]
  have HQ : Hid (∀ X, Pr.atom 1 (Pr.hd en r).at_ en r = X → ∀ e w', LitEnd P L en w X e w' → LitEnd P L en w (Pr.lit en r) e w') := by rintro X rfl e w' h; rw [hX]; exact h
  generalize LitEnd P L en w (Pr.lit en r) = Q at HQ ⊢
  clear hX
  have hpk : Hid _ := peekAt P L en r w hA
  have HM : Hid (∀ w1, At w1 P L en r → _) := fun w1 h => take_no [110, 111, 116] P L en r w1 h h1
  generalize hx : Pr.hd en r = x at HQ hpk h2
  have HX : Hid (Pr.hd en r = x) := hx
  clear hx
  go_enter Tryz.func129, Tryz.ntmps129
  go_wp2_with fail
  refine Calls.mono (hpk.out _ ((Below.refl _ _).alloc (Nat.le_refl _) _)) ?_
  rintro e w1 ⟨rfl, hb0⟩
  have hI := LInv.start hA hb0 x.at_
  go_wp2_with fail
  simp only [fld1]
  go_wp2_with fail
  refine Calls.mono (HM.out _ hI.went.2) ?_
  rintro e w2 ⟨rfl, hb2⟩
  have hI2 := hI.below hb2
  go_wp2_with fail
  have hbw : Below w.heap.size w w2 := ((((Below.refl _ _).alloc (Nat.le_refl _) _).trans (hb0.mono (by simp))).alloc (by have := hb0.size; simp at this; omega) _).trans (hb2.mono (by have := hb0.size; simp at this; simp; omega))
  refine Calls.mono (hpk.out _ hbw) ?_
  rintro e w3 ⟨rfl, hb3⟩
  have hI3 := hI2.below hb3
  obtain ⟨c0, c1, c2, c3, c4, f1, f0⟩ := hI3.cells
  have hI4 := hI3.setKind 1
  clear hI hI2 hpk HM hb0 hA h1 hb2 hbw
  go_wp2_with fail
  simp only [fld0]
  cases hn : (((Pr.hd en r).kind == 1) && !Tr.isWord (Pr.hd en r).text)
  · have hN : Pr.name en r = .inl (Pr.hd en r).at_ := by unfold Pr.name; rw [hn]; rfl
    have HF : Hid (∀ e w', LitEnd P L en w (.inl (Pr.hd en r).at_) e w' → Q e w') := fun e w' h => HQ.out _ (by simp only [Pr.atom, hN]) e w' h
    go_wp2_with fail
    refine (name_no P L en r _ hI4.went.2 hn).mono ?_
    rintro e w5 ⟨rfl, hb5⟩
    exact ⟨rfl, HF.out _ _ ⟨rfl, ground hI4.went.1 hb5⟩⟩
  · have hN : Pr.name en r = .inr ((Pr.hd en r).text, r.tail) := by unfold Pr.name; rw [hn]; rfl
    have HN : Hid (∀ w1, At w1 P L en r → _) := fun w1 h => name_yes P L en r w1 h hn
    have HA : Hid (∀ X, (match Pr.terms false en r.tail with
        | .inl a => Sum.inl a
        | .inr y => .inr ((⟨1, x.at_, 0, (Pr.hd en r).text, y.1.1⟩ : Tr.Lit), y.2)) = X → ∀ e w', LitEnd P L en w X e w' → Q e w') := by
      intro X hX e w' h
      refine HQ.out X ?_ e w' h
      rw [← hX]
      simp only [Pr.atom, hN]
      cases Pr.terms false en r.tail <;> rfl
    have HT : Hid (∀ w1, At w1 P L en r.tail → _) := fun w1 h => terms_any false P L en r.tail w1 h
    unfold TermsEnd at HT
    generalize (Pr.hd en r).text = nm at *
    clear hN hn HQ
    go_wp2_with fail
    refine Calls.mono (HN.out _ hI4.went.2) ?_
    rintro e w5 ⟨rfl, hW5⟩
    have hI5 := hI4.on hW5
    have hI6 := hI5.setName nm
    obtain ⟨c0, c1, c2, c3, c4, f1, f0⟩ := hI5.cells
    go_wp2_with fail
    refine Calls.mono (HT.out _ hI6.went.2) ?_
    have hlt := hI6.lt
    have hltB := hI6.ltB
    have hltB' : w1.heap.size < (w5.setCell ⟨w1.heap.size, 3, none⟩ (.string ⟨nm.toArray⟩)).heap.size := heap_lt hI6.lit
    generalize w5.setCell ⟨w1.heap.size, 3, none⟩ (.string ⟨nm.toArray⟩) = w6 at *
    clear c0 c1 c2 c3 c4 f1 f0 hI5 hW5 HN HT
    cases hY : Pr.terms false en r.tail with
    | inl a =>
      have HF : Hid (∀ e w', LitEnd P L en w (.inl a) e w' → Q e w') := fun e w' h => HA.out _ (by rw [hY]) e w' h
      rintro e w7 ⟨rfl, hg7⟩
      exact ⟨rfl, HF.out _ _ ⟨rfl, grownBy_trans hI6.went.1 hg7⟩⟩
    | inr y =>
      have HF : Hid (∀ e w', LitEnd P L en w (.inr (⟨1, x.at_, 0, nm, y.1.1⟩, y.2)) e w' → Q e w') := fun e w' h => HA.out _ (by rw [hY]) e w' h
      clear HA
      rintro e w7 ⟨v, rfl, hT, hW7⟩
      have hI7 := hI6.on hW7
      obtain ⟨x0, x1, x2, x3, x4⟩ := hI7.rcells
      obtain ⟨c0, c1, c2, c3, c4, f1, f0⟩ := hI7.cells
      obtain ⟨ao, cap, hv, hT'⟩ := hT
      have hT := (show TermsP w6.heap.size w7 v y.1.1 from ⟨ao, cap, hv, hT'⟩)
      subst hv
      go_wp2
      exact bodyPost_ret (v := litVal ⟨1, x.at_, 0, nm, y.1.1⟩ _) (by simp [results, Tryz.results129, go_sem, x0, x1, x2, x3, x4]) rfl (HF.out _ _ ⟨_, rfl, (((hT.keep (keeps_set _ hltB' _ _)).keep (keeps5 (Nat.lt_trans hltB hltB') _ _ _ _ _ _)).mono (Nat.le_of_lt (Nat.lt_trans hltB hltB'))), (hI7.went.set hlt (Nat.le_of_lt hltB) _ _).put5 hlt _ _ _ _ _⟩)

theorem lit_any (P : Nat) (L : List Tk.Tok) (en : Int) (r : List Tk.Tok) (w : World) (hA : At w P L en r) :
    Calls Tryz.prog 129 #[.pointer (some ⟨P, 0, none⟩)] w (LitEnd P L en w (Pr.lit en r)) := by
  cases h1 : Pr.isText en r [110, 111, 116]
  · cases h2 : ((Pr.hd en r).kind == 1)
    · exact lit_reck P L en r w hA h1 h2
    · exact lit_yes P L en r w hA h1 h2
  · exact lit_not P L en r w hA h1

end Go.Proofs.YtgpaleifhcdjnaaGreatDoor

/- What is parsed is shorter behind. -/
namespace Go.Proofs.YtgpaleifhcdjnaaGreatDoor
open Go.RowKit

theorem name_len {en : Int} {r : List Tk.Tok} {x : List UInt8 × List Tk.Tok} (h : Pr.name en r = .inr x) : x.2.length < r.length := by
  unfold Pr.name at h
  cases hk : (((Pr.hd en r).kind == 1) && !Tr.isWord (Pr.hd en r).text)
  · rw [hk] at h; simp at h
  · rw [hk] at h
    simp only [if_true, Sum.inr.injEq] at h
    subst h
    exact kind_len (en := en) (k := 1) (by decide) (by revert hk; cases ((Pr.hd en r).kind == 1) <;> simp)
theorem op_len {en : Int} {r : List Tk.Tok} {x : Int × List Tk.Tok} (h : Pr.op en r = .inr x) : x.2.length < r.length := by
  unfold Pr.op at h
  cases r with
  | nil => simp [Pr.hd, Pr.opOf] at h
  | cons a r =>
    split at h
    · simp only [Sum.inr.injEq] at h; subst h; simp
    · simp at h
theorem more_len (may : Bool) (en : Int) : ∀ (f : Nat) (acc : List Tr.Term) (r : List Tk.Tok) (x : (List Tr.Term × Int) × List Tk.Tok), Pr.more may en f acc r = .inr x → x.2.length < r.length := by
  intro f
  induction f with
  | zero => intro acc r x h; simp [Pr.more] at h
  | succ f ih =>
    intro acc r x h
    cases hT : Pr.term en (Pr.foldMay may en r).2 with
    | inl a => simp [Pr.more, hT] at h
    | inr y =>
      have hl := Nat.lt_of_lt_of_le (term_len hT) (fold_len may en r)
      rw [more_step may en f acc r y.1 y.2 (by rw [hT])] at h
      split at h
      · have := ih _ _ _ h
        have h2 : y.2.tail.length ≤ y.2.length := by simp
        omega
      · simp only [Sum.inr.injEq] at h
        subst h
        exact hl
theorem terms_len {may : Bool} {en : Int} {r : List Tk.Tok} {x : (List Tr.Term × Int) × List Tk.Tok} (h : Pr.terms may en r = .inr x) : x.2.length < r.length := by
  unfold Pr.terms at h
  cases hm : Pr.must [40] en r with
  | inl a => rw [hm] at h; simp at h
  | inr r1 =>
    rw [hm] at h
    have h1 := must_len (by simp) hm
    simp only at h
    unfold Pr.inside at h
    split at h
    · simp only [Sum.inr.injEq] at h
      subst h
      have : r1.tail.length ≤ r1.length := by simp
      exact Nat.lt_of_le_of_lt this h1
    · cases hM : Pr.more may en (r1.length + 1) [] r1 with
      | inl a => rw [hM] at h; simp at h
      | inr y =>
        rw [hM] at h
        have h2 := more_len _ _ _ _ _ _ hM
        simp only at h
        cases hm2 : Pr.must [41] en y.2 with
        | inl a => rw [hm2] at h; simp at h
        | inr r3 =>
          rw [hm2] at h
          have h3 := must_len (by simp) hm2
          simp only [Sum.inr.injEq] at h
          subst h
          show r3.length < r.length
          omega
theorem atom_len {k at_ en : Int} {r : List Tk.Tok} {x : Tr.Lit × List Tk.Tok} (h : Pr.atom k at_ en r = .inr x) : x.2.length < r.length := by
  unfold Pr.atom at h
  cases hn : Pr.name en r with
  | inl a => rw [hn] at h; simp at h
  | inr y =>
    rw [hn] at h
    have h1 := name_len hn
    simp only at h
    cases ht : Pr.terms false en y.2 with
    | inl a => rw [ht] at h; simp at h
    | inr z =>
      rw [ht] at h
      have h2 := terms_len ht
      simp only [Sum.inr.injEq] at h
      subst h
      show z.2.length < r.length
      omega
theorem reckon_len {at_ en : Int} {r : List Tk.Tok} {x : Tr.Lit × List Tk.Tok} (h : Pr.reckon at_ en r = .inr x) : x.2.length < r.length := by
  unfold Pr.reckon at h
  cases h1 : Pr.term en r with
  | inl a => rw [h1] at h; simp at h
  | inr a =>
    rw [h1] at h
    have l1 := term_len h1
    simp only at h
    cases h2 : Pr.op en a.2 with
    | inl a => rw [h2] at h; simp at h
    | inr o =>
      rw [h2] at h
      have l2 := op_len h2
      simp only at h
      cases h3 : Pr.term en o.2 with
      | inl a => rw [h3] at h; simp at h
      | inr b =>
        rw [h3] at h
        have l3 := term_len h3
        simp only at h
        split at h
        · unfold Pr.calcLit at h
          cases h4 : Pr.must [61] en b.2 with
          | inl a => rw [h4] at h; simp at h
          | inr r4 =>
            rw [h4] at h
            have l4 := must_len (by simp) h4
            simp only at h
            cases h5 : Pr.term en r4 with
            | inl a => rw [h5] at h; simp at h
            | inr z =>
              rw [h5] at h
              have l5 := term_len h5
              simp only [Sum.inr.injEq] at h
              subst h
              show z.2.length < r.length
              omega
        · simp only [Sum.inr.injEq] at h
          subst h
          show b.2.length < r.length
          omega
theorem lit_len {en : Int} {r : List Tk.Tok} {x : Tr.Lit × List Tk.Tok} (h : Pr.lit en r = .inr x) : x.2.length < r.length := by
  unfold Pr.lit at h
  split at h
  · have := atom_len h
    have h2 : r.tail.length ≤ r.length := by simp
    omega
  · split at h
    · exact atom_len h
    · exact reckon_len h

/-- Behind a literal of a body. -/
def Pr.after (en : Int) (f : Nat) (acc : List Tr.Lit) (r : List Tk.Tok) : Int ⊕ (List Tr.Lit × List Tk.Tok) := if Pr.isText en r [44] then Pr.lits en f acc r.tail else .inr (acc, r)
theorem lits_yes {en : Int} {f : Nat} {acc : List Tr.Lit} {r : List Tk.Tok} {x : Tr.Lit × List Tk.Tok} (h : Pr.lit en r = .inr x) : Pr.lits en (f + 1) acc r = Pr.after en f (acc ++ [x.1]) x.2 := by
  rw [Pr.lits, h]; rfl
theorem lits_no {en : Int} {f : Nat} {acc : List Tr.Lit} {r : List Tk.Tok} {a : Int} (h : Pr.lit en r = .inl a) : Pr.lits en (f + 1) acc r = .inl a := by
  rw [Pr.lits, h]

/-- A rule under way: its block is B. -/
abbrev ruleZero : Obj := .cells #[.int .i64 0, .string ⟨#[]⟩, .slice none 0 0, .int .i64 0, .slice none 0 0] 57
structure UInv (w wr : World) (B P : Nat) (L : List Tk.Tok) (en : Int) (r : List Tk.Tok) (at_ : Int) (nm : List UInt8) (tv : Value) (ts : List Tr.Term) (fo : Int) (bv : Value) (q : List (Tr.Lit × Value)) : Prop where
  went : Went w wr P L en r
  res : wr.heap[w.heap.size]? = some ruleZero
  rul : wr.heap[B]? = some (.cells #[.int .i64 at_, .string ⟨nm.toArray⟩, tv, .int .i64 fo, bv] 57)
  trm : TermsP (B + 1) wr tv ts
  own : wr.ownsRow (B + 1) 61 5 bv q.length (q.map litCells).flatten
  lts : ∀ p, p ∈ q → TermsP (B + 1) wr p.2 p.1.terms
  lt : P < w.heap.size
  ltB : w.heap.size < B

section
variable {w wr w' : World} {B P : Nat} {L : List Tk.Tok} {en : Int} {r r' : List Tk.Tok} {at_ : Int} {nm : List UInt8} {tv : Value} {ts : List Tr.Term} {fo : Int} {bv : Value} {q : List (Tr.Lit × Value)}
theorem UInv.start {w1 : World} (hA : At w P L en r) (hb : Below (w.alloc ruleZero).heap.size (w.alloc ruleZero) w1) (at_ : Int) :
    UInv w (w1.alloc (.cells #[.int .i64 at_, .string ⟨#[]⟩, .slice none 0 0, .int .i64 0, .slice none 0 0] 57)) w1.heap.size P L en r at_ [] (.slice none 0 0) [] 0 (.slice none 0 0) [] where
  went := (Went.behind ((Below.refl _ _).alloc (Nat.le_refl _) _) ⟨grownBy_of_below hb _, (hA.below ((Below.refl _ _).alloc (Nat.le_refl _) _)).below hb⟩).alloc _
  res := by
    have h1 : w1.heap[w.heap.size]? = some ruleZero := (hb.block _ (by simp)).trans (heap_alloc_new w _)
    exact (((Below.refl _ _).alloc (Nat.le_refl _) _).block _ (heap_lt h1)).trans h1
  rul := heap_alloc_new w1 _
  trm := ⟨none, 0, rfl, .inl rfl⟩
  own := World.ownsRow_nil _ _ _ _
  lts := fun p hp => absurd hp (by simp)
  lt := hA.lt
  ltB := by have := hb.size; simp at this; omega
theorem UInv.on (h : UInv w wr B P L en r at_ nm tv ts fo bv q) (hW : Went wr w' P L en r') : UInv w w' B P L en r' at_ nm tv ts fo bv q := by
  have h1 := h.lt
  have h2 := h.ltB
  exact { went := Went.trans h.went hW
          res := (hW.1.block _ (heap_lt h.res) (by intro e; injection e; omega)).trans h.res
          rul := (hW.1.block _ (heap_lt h.rul) (by intro e; injection e; omega)).trans h.rul
          trm := h.trm.keep (keeps_grown _ hW.1 (by omega))
          own := ownsRow_grown h.own hW.1 (by omega)
          lts := fun p hp => (h.lts p hp).keep (keeps_grown _ hW.1 (by omega))
          lt := h1
          ltB := h2 }
theorem UInv.below (h : UInv w wr B P L en r at_ nm tv ts fo bv q) (hb : Below wr.heap.size wr w') : UInv w w' B P L en r at_ nm tv ts fo bv q := h.on ⟨grownBy_of_below hb _, h.went.2.below hb⟩
theorem UInv.on2 {wr' : World} (h : UInv w wr B P L en r at_ nm tv ts fo bv q) (hW : Went wr' w' P L en r') (hb : Below wr.heap.size wr wr') : UInv w w' B P L en r' at_ nm tv ts fo bv q := (h.below hb).on hW
theorem UInv.sz (h : UInv w wr B P L en r at_ nm tv ts fo bv q) : B < wr.heap.size := heap_lt h.rul
theorem UInv.cells (h : UInv w wr B P L en r at_ nm tv ts fo bv q) :
    wr.cell? ⟨B, 0, none⟩ = some (.int .i64 at_) ∧ wr.cell? ⟨B, 1, none⟩ = some (.string ⟨nm.toArray⟩) ∧ wr.cell? ⟨B, 2, none⟩ = some tv ∧ wr.cell? ⟨B, 3, none⟩ = some (.int .i64 fo) ∧
      wr.cell? ⟨B, 4, none⟩ = some bv ∧ (∀ o, wr.frozen? ⟨B, o, none⟩ = false) ∧ (∀ o, wr.frozen? ⟨w.heap.size, o, none⟩ = false) :=
  ⟨by rw [Lib.cell_of_heap h.rul]; rfl, by rw [Lib.cell_of_heap h.rul]; rfl, by rw [Lib.cell_of_heap h.rul]; rfl, by rw [Lib.cell_of_heap h.rul]; rfl, by rw [Lib.cell_of_heap h.rul]; rfl, fun o => by simp [World.frozen?, h.rul], fun o => by simp [World.frozen?, h.res]⟩
theorem UInv.rcells (h : UInv w wr B P L en r at_ nm tv ts fo bv q) :
    wr.cell? ⟨w.heap.size, 0, none⟩ = some (.int .i64 0) ∧ wr.cell? ⟨w.heap.size, 1, none⟩ = some (.string ⟨#[]⟩) ∧ wr.cell? ⟨w.heap.size, 2, none⟩ = some (.slice none 0 0) ∧ wr.cell? ⟨w.heap.size, 3, none⟩ = some (.int .i64 0) ∧
      wr.cell? ⟨w.heap.size, 4, none⟩ = some (.slice none 0 0) :=
  ⟨by rw [Lib.cell_of_heap h.res]; rfl, by rw [Lib.cell_of_heap h.res]; rfl, by rw [Lib.cell_of_heap h.res]; rfl, by rw [Lib.cell_of_heap h.res]; rfl, by rw [Lib.cell_of_heap h.res]; rfl⟩
theorem UInv.setName (h : UInv w wr B P L en r at_ nm tv ts fo bv q) (s : List UInt8) : UInv w (wr.setCell ⟨B, 1, none⟩ (.string ⟨s.toArray⟩)) B P L en r at_ s tv ts fo bv q where
  went := h.went.set h.lt (Nat.le_of_lt h.ltB) _ _
  res := (Below.heap_setCell _ _ _ _ (show ¬ w.heap.size = B by have := h.ltB; omega)).trans h.res
  rul := by
    have := h.rul
    simp [World.setCell, Array.getElem?_modify, this]
  trm := h.trm.keep (keeps_set _ (by omega) _ _)
  own := ownsRow_setCell_below h.own (by simp) _
  lts := fun p hp => (h.lts p hp).keep (keeps_set _ (by omega) _ _)
  lt := h.lt
  ltB := h.ltB
theorem UInv.setTerms (h : UInv w wr B P L en r at_ nm tv ts fo bv q) {v : Value} {l : List Tr.Term} (hT : TermsP (B + 1) wr v l) (f : Int) : UInv w ((wr.setCell ⟨B, 2, none⟩ v).setCell ⟨B, 3, none⟩ (.int .i64 f)) B P L en r at_ nm v l f bv q where
  went := (h.went.set h.lt (Nat.le_of_lt h.ltB) _ _).set h.lt (Nat.le_of_lt h.ltB) _ _
  res := (Below.heap_setCell _ _ _ _ (show ¬ w.heap.size = B by have := h.ltB; omega)).trans ((Below.heap_setCell _ _ _ _ (show ¬ w.heap.size = B by have := h.ltB; omega)).trans h.res)
  rul := by
    have := h.rul
    simp [World.setCell, Array.getElem?_modify, this]
  trm := (hT.keep (keeps_set _ (by omega) _ _)).keep (keeps_set _ (by omega) _ _)
  own := ownsRow_setCell_below (ownsRow_setCell_below h.own (by simp) _) (by simp) _
  lts := fun p hp => ((h.lts p hp).keep (keeps_set _ (by omega) _ _)).keep (keeps_set _ (by omega) _ _)
  lt := h.lt
  ltB := h.ltB
theorem UInv.app {w3 : World} (h : UInv w wr B P L en r at_ nm tv ts fo bv q) (hg : wr.grownBy w3 bv.ownBlock) :
    w3.heap[w.heap.size]? = some ruleZero ∧ w3.heap[B]? = some (.cells #[.int .i64 at_, .string ⟨nm.toArray⟩, tv, .int .i64 fo, bv] 57) ∧ w3.cell? ⟨B, 4, none⟩ = some bv ∧ w3.frozen? ⟨B, 4, none⟩ = false := by
  have hB := h.ltB
  have hne : ∀ i, i < B + 1 → some i ≠ bv.ownBlock := fun i hi he => by have := (h.own.lt i he.symm).1; omega
  have e1 := (hg.block _ (heap_lt h.res) (hne _ (by omega))).trans h.res
  have e2 := (hg.block _ (heap_lt h.rul) (hne _ (by omega))).trans h.rul
  exact ⟨e1, e2, by rw [Lib.cell_of_heap e2]; rfl, by simp [World.frozen?, e2]⟩
theorem UInv.put {w3 : World} {bv' : Value} {p : Tr.Lit × Value} (h : UInv w wr B P L en r at_ nm tv ts fo bv q) (hg : wr.grownBy w3 bv.ownBlock) (hT : TermsP (B + 1) wr p.2 p.1.terms)
    (hown : w3.ownsRow (B + 1) 61 5 bv' (q.length + 1) ((q.map litCells).flatten ++ litCells p)) : UInv w (w3.setCell ⟨B, 4, none⟩ bv') B P L en r at_ nm tv ts fo bv' (q ++ [p]) := by
  have hB := h.ltB
  have hk : Keeps (B + 1) wr w3 (· = 59) := keeps_own hg h.own (by decide)
  exact { went := (Went.own h.went hg h.own (by omega) h.lt).set h.lt (by omega) _ _
          res := (Below.heap_setCell _ _ _ _ (show ¬ w.heap.size = B by omega)).trans (h.app hg).1
          rul := by
            have := (h.app hg).2.1
            simp [World.setCell, Array.getElem?_modify, this]
          trm := (h.trm.keep hk).keep (keeps_set _ (by omega) _ _)
          own := ownsRow_setCell_below (by simpa using hown) (by simp) _
          lts := by
            intro p' hp'
            rw [List.mem_append, List.mem_singleton] at hp'
            rcases hp' with hp' | rfl
            · exact ((h.lts p' hp').keep hk).keep (keeps_set _ (by omega) _ _)
            · exact (hT.keep hk).keep (keeps_set _ (by omega) _ _)
          lt := h.lt
          ltB := hB }
end

end Go.Proofs.YtgpaleifhcdjnaaGreatDoor

