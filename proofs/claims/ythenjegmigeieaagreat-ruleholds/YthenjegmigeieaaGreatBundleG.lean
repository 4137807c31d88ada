/- Own texts, one behind the other (part 7). -/
import Derived.Test.YthenjegmigeieaaGreatBundleF
import Derived.Test.YthenjegmigeieaaGreatRows
/- Package strata: spread. -/
namespace Go.Proofs.YthenjegmigeieaaGreat
open Go.RowKit Go.Shelf

attribute [local go_sem] Oper.semAt_some

def boolRow (l : List Bool) : Array Value := (l.map Value.bool).toArray
theorem boolRow_cell {w : World} {b : Nat} {l : List Bool} (h : w.heap[b]? = some (.cells (boolRow l) 4)) {i : Nat} (hi : i < l.length) : w.cell? ⟨b, i, none⟩ = some (.bool (l.getD i false)) := by
  rw [Lib.cell_of_heap h]
  unfold boolRow
  simp [hi]
theorem boolRow_set {w : World} {b : Nat} {l : List Bool} (h : w.heap[b]? = some (.cells (boolRow l) 4)) (i : Nat) (v : Bool) : (w.setCell ⟨b, i, none⟩ (.bool v)).heap[b]? = some (.cells (boolRow (l.set i v)) 4) := by
  rw [Lib.heap_setCell_same h]
  unfold boolRow
  simp [List.map_set]
namespace St
def backOf (l : List Sc.Rule) : List Fx.Edge := l.flatMap ruleN
theorem backOf_snoc (l : List Sc.Rule) (r : Sc.Rule) : backOf (l ++ [r]) = backOf l ++ ruleN r := by unfold backOf; rw [List.flatMap_append]; simp
theorem nround_app (E E' : List Fx.Edge) (s : List Bool) : nround (E ++ E') s = nround E' (nround E s) := by unfold nround; rw [List.foldl_append]
theorem nround_snoc (E : List Fx.Edge) (e : Fx.Edge) (s : List Bool) : nround (E ++ [e]) s = nstep (nround E s) e := by unfold nround; rw [List.foldl_append]; rfl
/-- A rule whose head is not needed spreads nothing. -/
theorem nround_none {r : Sc.Rule} {s : List Bool} (h : s.getD r.pred.toNat false = false) : nround (ruleN r) s = s := by
  unfold ruleN
  induction r.body.filter hang with
  | nil => rfl
  | cons x l ih =>
    rw [List.map_cons]
    show nround _ (nstep s _) = s
    have h1 : nstep s (x.pred.toNat, r.pred.toNat, 0) = s := by unfold nstep; rw [if_neg (by rw [h]; simp)]
    rw [h1]
    exact ih
theorem nstep_keeps {s : List Bool} {e : Fx.Edge} {i : Nat} (h : s.getD i false = true) : (nstep s e).getD i false = true := by
  unfold nstep
  split
  · rw [List.getD_eq_getElem?_getD, List.getElem?_set]
    split
    · rename_i he
      subst he
      split
      · rfl
      · rename_i hl
        rw [List.getD_eq_getElem?_getD, List.getElem?_eq_none (by omega)] at h
        exact h
    · rw [← List.getD_eq_getElem?_getD]; exact h
  · exact h
theorem nround_keeps : ∀ (E : List Fx.Edge) {s : List Bool} {i : Nat}, s.getD i false = true → (nround E s).getD i false = true
  | [], _, _, h => h
  | e :: E, s, i, h => by show (nround E (nstep s e)).getD i false = true; exact nround_keeps E (nstep_keeps h)
/-- Whether anything was new, step by step; the head is needed. -/
theorem spread_snoc (E : List Fx.Edge) (b h : Nat) (s : List Bool) (hb : b < s.length) (hh : (nround E s).getD h false = true) :
    decide (nround (E ++ [(b, h, 0)]) s ≠ s) = (decide (nround E s ≠ s) || !(nround E s).getD b false) := by
  rw [nround_snoc]
  have h1 : nstep (nround E s) (b, h, 0) = (nround E s).set b true := by unfold nstep; exact if_pos hh
  rw [h1]
  cases hc : (nround E s).getD b false
  · have hne : (nround E s).set b true ≠ s := fun he => by
      have h2 : ((nround E s).set b true).getD b false = true := by rw [List.getD_eq_getElem?_getD, List.getElem?_set]; simp [nround_length, hb]
      rw [he] at h2
      rw [nround_keeps E h2] at hc
      cases hc
    rw [decide_eq_true hne]
    simp
  · rw [set_same_true hc]
    simp
end St

/-- Where spread stands: the row of needs, the two boxes; all else is as it was. -/
structure PSt (w : World) (LB n cap : Nat) (W : World) (cur : List Bool) (fl : Bool) : Prop where
  gr : w.grownBy W (some LB)
  row : W.heap[LB]? = some (.cells (boolRow cur) 4)
  box : W.heap[w.heap.size]? = some (.cells #[.slice (some ⟨LB, 0, none⟩) n cap] 57)
  flag : W.heap[w.heap.size + 1]? = some (.cells #[.bool fl] 4)
def edgeN {n : Nat} (h : Nat) (p : HP n) : Fx.Edge := (p.1.1.toNat, h, 0)
/-- Between two rounds of the loop over what a rule hangs on. -/
structure PIn (w wr W2 : World) (LB n cap : Nat) (rb : Obj) (ds : List Deferred) (l : List Bool) (E : List Fx.Edge) (h : Nat) {np : Nat} (pre : List (HP np)) (W : World) : Prop where
  st : PSt w LB n cap W (St.nround (E ++ pre.map (edgeN h)) l) (decide (St.nround (E ++ pre.map (edgeN h)) l ≠ l))
  qb : W.heap[wr.heap.size]? = some rb
  mks : MarksL (w.heap.size + 2) W ds
  sz : W2.heap.size ≤ W.heap.size
theorem PIn_start {w wr W2 : World} {LB n cap : Nat} {rb : Obj} {ds : List Deferred} {l : List Bool} {E : List Fx.Edge} {h np : Nat} (hS : PSt w LB n cap wr (St.nround E l) (decide (St.nround E l ≠ l))) (hM : MarksL (w.heap.size + 2) wr ds) (hW : RMem wr W2 rb) : PIn w wr W2 LB n cap rb ds l E h ([] : List (HP np)) W2 := by
  have h1 := Nat.lt_of_lt_of_le (Array.getElem?_eq_some_iff.mp hS.flag).1 (Nat.le_refl _)
  refine ⟨?_, hW.qb, hM.keep fun D _ _ hD => (hW.bel.block D (Array.getElem?_eq_some_iff.mp hD).1).trans hD, Nat.le_refl _⟩
  rw [List.map_nil, List.append_nil]
  refine ⟨⟨hW.bel.os.trans hS.gr.os, hW.bel.tape.trans hS.gr.tape, hW.bel.output.trans hS.gr.output, Nat.le_trans hS.gr.size hW.bel.size, fun j hj hn => (hW.bel.block j (Nat.lt_of_lt_of_le hj hS.gr.size)).trans (hS.gr.block j hj hn)⟩, (hW.bel.block _ (Array.getElem?_eq_some_iff.mp hS.row).1).trans hS.row, (hW.bel.block _ (Array.getElem?_eq_some_iff.mp hS.box).1).trans hS.box, (hW.bel.block _ h1).trans hS.flag⟩
theorem PIn_own {w wr W2 : World} {LB n cap : Nat} {rb : Obj} {ds : List Deferred} {l : List Bool} {np : Nat} {c0 : List Bool} {f0 : Bool} (hS : PSt w LB n cap wr c0 f0) (hM : MarksL (w.heap.size + 2) wr ds) (hW : RMem wr W2 rb) (E : List Fx.Edge) (h : Nat) :
    OwnFrom W2.heap.size (fun (pre : List (HP np)) W => PIn w wr W2 LB n cap rb ds l E h pre W) := by
  intro pre A B row hI hg hr
  have hsz := hW.sz
  have hgs := hS.gr.size
  have hfl := (Array.getElem?_eq_some_iff.mp hS.flag).1
  have hrw := (Array.getElem?_eq_some_iff.mp hS.row).1
  have keep : ∀ j, j < W2.heap.size → B.heap[j]? = A.heap[j]? := fun j hj => hg.block j (Nat.lt_of_lt_of_le hj hI.sz) (fun e => by have := (hr j e.symm).1; omega)
  refine ⟨⟨⟨hg.os.trans hI.st.gr.os, hg.tape.trans hI.st.gr.tape, hg.output.trans hI.st.gr.output, Nat.le_trans hI.st.gr.size hg.size, fun j hj hn => (keep j (by omega)).trans (hI.st.gr.block j hj hn)⟩, (keep _ (by omega)).trans hI.st.row, (keep _ (by omega)).trans hI.st.box, (keep _ (by omega)).trans hI.st.flag⟩, (keep _ (by omega)).trans hI.qb, hI.mks.keep fun D _ hm hD => ?_, Nat.le_trans hI.sz hg.size⟩
  have := (Array.getElem?_eq_some_iff.mp (hM.mem D hm)).1
  exact (keep D (by omega)).trans hD

theorem round_preN {np : Nat} (E : List Fx.Edge) (h : Nat) (pre : List (HP np)) (x : HP np) : E ++ (pre ++ [x]).map (edgeN h) = (E ++ pre.map (edgeN h)) ++ [edgeN h x] := by rw [List.map_append, List.append_assoc]; rfl
section
variable {w wr W2 W : World} {LB n cap : Nat} {rb : Obj} {ds : List Deferred} {l : List Bool} {E : List Fx.Edge} {h np : Nat} {pre : List (HP np)}
theorem PIn_no (hI : PIn w wr W2 LB n cap rb ds l E h pre W) (x : HP np) (hh : (St.nround (E ++ pre.map (edgeN h)) l).getD h false = true) (hx : x.1.1.toNat < l.length) (hno : (St.nround (E ++ pre.map (edgeN h)) l).getD x.1.1.toNat false = true) : PIn w wr W2 LB n cap rb ds l E h (pre ++ [x]) W := by
  refine ⟨?_, hI.qb, hI.mks, hI.sz⟩
  have h2 : decide (St.nround ((E ++ pre.map (edgeN h)) ++ [edgeN h x]) l ≠ l) = decide (St.nround (E ++ pre.map (edgeN h)) l ≠ l) := by
    have := St.spread_snoc (E ++ pre.map (edgeN h)) x.1.1.toNat h l hx hh
    rw [hno, Bool.not_true, Bool.or_false] at this
    exact this
  have h1 : St.nstep (St.nround (E ++ pre.map (edgeN h)) l) (edgeN h x) = St.nround (E ++ pre.map (edgeN h)) l := by
    show St.nstep _ (x.1.1.toNat, h, 0) = _
    unfold St.nstep
    rw [if_pos hh, St.set_same_true hno]
  rw [round_preN, h2, St.nround_snoc, h1]
  exact hI.st
theorem PIn_yes (hI : PIn w wr W2 LB n cap rb ds l E h pre W) (x : HP np) (hh : (St.nround (E ++ pre.map (edgeN h)) l).getD h false = true) (hx : x.1.1.toNat < l.length) (hLw : LB < w.heap.size) (hwr : w.heap.size + 2 ≤ wr.heap.size) (hyes : (St.nround (E ++ pre.map (edgeN h)) l).getD x.1.1.toNat false = false) :
    PIn w wr W2 LB n cap rb ds l E h (pre ++ [x]) ((W.setCell ⟨LB, x.1.1.toNat, none⟩ (.bool true)).setCell ⟨w.heap.size + 1, 0, none⟩ (.bool true)) := by
  have other : ∀ j, ¬ j = LB → ¬ j = w.heap.size + 1 → ((W.setCell ⟨LB, x.1.1.toNat, none⟩ (.bool true)).setCell ⟨w.heap.size + 1, 0, none⟩ (.bool true)).heap[j]? = W.heap[j]? := fun j h1 h2 => by rw [heap_set_other h2, heap_set_other h1]
  have h2 : decide (St.nround ((E ++ pre.map (edgeN h)) ++ [edgeN h x]) l ≠ l) = true := by
    have := St.spread_snoc (E ++ pre.map (edgeN h)) x.1.1.toNat h l hx hh
    rw [hyes, Bool.not_false, Bool.or_true] at this
    exact this
  have h1 : St.nstep (St.nround (E ++ pre.map (edgeN h)) l) (edgeN h x) = (St.nround (E ++ pre.map (edgeN h)) l).set x.1.1.toNat true := by
    show St.nstep _ (x.1.1.toNat, h, 0) = _
    unfold St.nstep
    rw [if_pos hh]
  refine ⟨?_, (other _ (by omega) (by omega)).trans hI.qb, hI.mks.keep fun D hD hm hd => (other D (by omega) (by omega)).trans hd, ?_⟩
  · rw [round_preN, h2, St.nround_snoc, h1]
    refine ⟨⟨hI.st.gr.os, hI.st.gr.tape, hI.st.gr.output, ?_, fun j hj hn => ?_⟩, ?_, (other _ (by omega) (by omega)).trans hI.st.box, ?_⟩
    · have := hI.st.gr.size; simpa using this
    · have hjl : ¬ j = LB := fun e => hn (by rw [e])
      exact (other j hjl (by omega)).trans (hI.st.gr.block j hj hn)
    · rw [heap_set_other (by omega)]
      exact boolRow_set hI.st.row _ _
    · have hf : (W.setCell ⟨LB, x.1.1.toNat, none⟩ (.bool true)).heap[w.heap.size + 1]? = some (.cells #[.bool _] 4) := (heap_set_other (by omega)).trans hI.st.flag
      rw [Lib.heap_setCell_same hf]
      rfl
  · have := hI.sz; simpa using this
end

theorem raise_one (wr : World) (rb : Obj) : Below wr.heap.size wr (wr.alloc rb) := (Below.refl wr.heap.size wr).alloc (Nat.le_refl _) rb
theorem PSt.on {w : World} {LB n cap : Nat} {W W' : World} {cur : List Bool} {fl : Bool} (h : PSt w LB n cap W cur fl) (hb : Below W.heap.size W W') : PSt w LB n cap W' cur fl :=
  ⟨⟨hb.os.trans h.gr.os, hb.tape.trans h.gr.tape, hb.output.trans h.gr.output, Nat.le_trans h.gr.size hb.size, fun j hj hn => (hb.block j (Nat.lt_of_lt_of_le hj h.gr.size)).trans (h.gr.block j hj hn)⟩,
    (hb.block _ (Array.getElem?_eq_some_iff.mp h.row).1).trans h.row, (hb.block _ (Array.getElem?_eq_some_iff.mp h.box).1).trans h.box, (hb.block _ (Array.getElem?_eq_some_iff.mp h.flag).1).trans h.flag⟩
theorem pairs_back {n : Nat} {r : Sc.Rule} : ∀ {l : List Sc.Lit}, St.Bound n l → (St.pairs n r l).map (edgeN r.pred.toNat) = (l.filter St.hang).map fun x => ((x.pred.toNat, r.pred.toNat, 0) : Fx.Edge)
  | [], _ => rfl
  | x :: l, h => by
    have ih := pairs_back (r := r) (l := l) (fun y hy => h y (List.mem_cons_of_mem _ hy))
    unfold St.pairs at ih ⊢
    by_cases hx : St.hang x = true
    · have hb := h x List.mem_cons_self hx
      rw [List.filterMap_cons, St.pair1_some hx hb.1 hb.2, List.filter_cons, if_pos hx, List.map_cons, List.map_cons, ih]
      rfl
    · rw [List.filterMap_cons, St.pair1_none hx, List.filter_cons, if_neg hx, ih]

set_option maxRecDepth 100000 in
set_option maxHeartbeats 4000000 in
theorem spread_any (wp w : World) (rules : List Sc.Rule) (vr : Value) (l : List Bool) (LB cap : Nat) (hV : PRulesV wp vr rules) (hB : Below wp.heap.size wp w) (hLB : wp.heap.size ≤ LB) (hrow : w.heap[LB]? = some (.cells (boolRow l) 4))
    (hR : ∀ r, r ∈ rules → St.RuleIn l.length r) (hn : rules.length ≤ 12) :
    Calls Tryz.prog 119 #[.slice (some ⟨LB, 0, none⟩) l.length cap, vr] w fun e w' => e = .returned (.bool (decide (St.nround (St.backOf rules) l ≠ l))) ∧ w'.heap[LB]? = some (.cells (boolRow (St.nround (St.backOf rules) l)) 4) ∧ w.grownBy w' (some LB) := by
  obtain ⟨ar, cr, rfl, hA⟩ := hV
  have HA : Hid (PRulesAt wp ar rules) := hA
  have hLw : LB < w.heap.size := (Array.getElem?_eq_some_iff.mp hrow).1
  refine (callsIn_wide (n := 3)).1 ?_
  refine callsIn_of_wp_marks Tryz.func119 rfl trivial ?_ rfl
  simp only [Tryz.ntmps119, List.size_toArray, List.length_cons, List.length_nil, Nat.reduceAdd, Nat.reduceSub, Array.replicate_succ, Array.replicate_zero, List.push_toArray, List.append_toArray, List.nil_append, List.cons_append]
  have hSt : PSt w LB l.length cap ((w.alloc (.cells #[.slice (some ⟨LB, 0, none⟩) l.length cap] 57)).alloc (.cells #[.bool false] 4)) l false := by
    have b1 := (Below.refl w.heap.size w).alloc (Nat.le_refl _) (.cells #[.slice (some ⟨LB, 0, none⟩) l.length cap] 57)
    have p1 := heap_alloc_new w (.cells #[.slice (some ⟨LB, 0, none⟩) l.length cap] 57)
    have s1 : (w.alloc (.cells #[.slice (some ⟨LB, 0, none⟩) l.length cap] 57)).heap.size = w.heap.size + 1 := by simp
    generalize w.alloc (.cells #[.slice (some ⟨LB, 0, none⟩) l.length cap] 57) = x1 at *
    have b2 := (Below.refl x1.heap.size x1).alloc (Nat.le_refl _) (.cells #[.bool false] 4)
    have p2 := heap_alloc_new x1 (.cells #[.bool false] 4)
    have b12 := b1.trans (b2.mono b1.size)
    refine ⟨⟨b12.os, b12.tape, b12.output, b12.size, fun j hj _ => b12.block j hj⟩, (b12.block _ hLw).trans hrow, (b2.block _ (by omega)).trans p1, ?_⟩
    rw [s1] at p2
    exact p2
  have HST : Hid _ := hSt
  have HRR : Hid _ := hR
  have HROW : Hid _ := hrow
  clear hSt hR hrow hA
  gi_wp2
  refine wpIn_loop (fun a wr => ∃ (k : Nat) (ds : List Deferred) (x7 x8 x12 x13 x14 x15 x16 x17 x18 x19 x20 x21 x22 x23 x24 x25 x26 x27 x28 x29 x30 x31 x32 x33 : Value), k ≤ rules.length ∧ a = { tmps := #[.slice (some ⟨LB, 0, none⟩) l.length cap, .slice ar rules.length cr, .pointer (some ⟨w.heap.size, 0, none⟩), undef, .bool false, .pointer (some ⟨w.heap.size + 1, 0, none⟩), undef, x7, x8, .slice ar rules.length cr, .int .i64 rules.length, .int .i64 k, x12, x13, x14, x15, x16, x17, x18, x19, x20, x21, x22, x23, x24, x25, x26, x27, x28, x29, x30, x31, x32, x33, undef], defers := ds } ∧ PSt w LB l.length cap wr (St.nround (St.backOf (rules.take k)) l) (decide (St.nround (St.backOf (rules.take k)) l ≠ l)) ∧ MarksL (w.heap.size + 2) wr ds) (fun a _ => rules.length - (intOf (a.tmps.getD 11 undef)).toNat) ?h0 ?round
  case h0 => exact ⟨0, [], _, _, _, _, _, _, _, _, _, _, _, _, _, _, _, _, _, _, _, _, _, _, _, _, Nat.zero_le _, rfl, by simpa [St.backOf, St.nround] using HST.out, trivial⟩
  case round =>
    clear HST
    rintro a wr ⟨k, ds, x7, x8, x12, x13, x14, x15, x16, x17, x18, x19, x20, x21, x22, x23, x24, x25, x26, x27, x28, x29, x30, x31, x32, x33, hk, rfl, hS, hM⟩
    have hBw : Below wp.heap.size wp wr := ⟨hS.gr.os.trans hB.os, hS.gr.tape.trans hB.tape, hS.gr.output.trans hB.output, Nat.le_trans hB.size hS.gr.size, fun j hj => (hS.gr.block j (Nat.lt_of_lt_of_le hj hB.size) (fun e => by injection e with e; omega)).trans (hB.block j hj)⟩
    have HS : Hid _ := hS
    have HM : Hid _ := hM
    have HBW : Hid _ := hBw
    clear hS hM
    by_cases hlt : k < rules.length
    · obtain ⟨b, off, rfl, p0, ⟨vt, p1, hT⟩, p2, ⟨vb, p3, hLL⟩, p4⟩ := prules_at HA.out k hlt
      obtain ⟨at_, ct, rfl, _⟩ := hT
      obtain ⟨ab, cb, rfl, hLL⟩ := hLL
      have HLL : Hid _ := hLL
      have HRI : Hid (St.RuleIn l.length (Sc.ruleD rules k)) := HRR.out _ (by unfold Sc.ruleD; rw [List.getD_eq_getElem?_getD, List.getElem?_eq_getElem hlt]; exact List.getElem_mem hlt)
      have HTK : Hid (rules.take (k + 1) = rules.take k ++ [Sc.ruleD rules k]) := by
        show _ = _
        rw [List.take_add_one]
        congr 1
        unfold Sc.ruleD
        rw [List.getD_eq_getElem?_getD, List.getElem?_eq_getElem hlt]
        rfl
      have q0 := cell_below hBw p0
      have q1 := cell_below hBw p1
      have q2 := cell_below hBw p2
      have q3 := cell_below hBw p3
      have q4 := cell_below hBw p4
      clear p0 p1 p2 p3 p4 hLL hBw
      generalize Sc.ruleD rules k = r at *
      obtain ⟨pd, ts, fo, bd, vs⟩ := r
      obtain ⟨pr, rfl⟩ : ∃ pr : Nat, pd = pr := ⟨pd.toNat, by have := HRI.out.h0; dsimp only at this; omega⟩
      dsimp only at *
      have hpn : pr < l.length := by have := HRI.out.h1; dsimp only at this; omega
      have hcl : (St.nround (St.backOf (rules.take k)) l).length = l.length := St.nround_length _ _
      have b1 := (Below.refl wr.heap.size wr).alloc (Nat.le_refl _) (.cells #[.int .i64 pr, .slice at_ ts.length ct, .int .i64 fo, .slice ab bd.length cb, .int .i64 vs] 40)
      have c0 : (wr.alloc (.cells #[.int .i64 pr, .slice at_ ts.length ct, .int .i64 fo, .slice ab bd.length cb, .int .i64 vs] 40)).cell? ⟨w.heap.size, 0, none⟩ = some (.slice (some ⟨LB, 0, none⟩) l.length cap) := by rw [Lib.cell_of_heap ((b1.block _ (Array.getElem?_eq_some_iff.mp HS.out.box).1).trans HS.out.box)]; rfl
      have c3 : (wr.alloc (.cells #[.int .i64 pr, .slice at_ ts.length ct, .int .i64 fo, .slice ab bd.length cb, .int .i64 vs] 40)).cell? ⟨LB, pr, none⟩ = some (.bool ((St.nround (St.backOf (rules.take k)) l).getD pr false)) := boolRow_cell ((b1.block _ (Array.getElem?_eq_some_iff.mp HS.out.row).1).trans HS.out.row) (by omega)
      clear b1 hcl
      cases hnd : (St.nround (St.backOf (rules.take k)) l).getD pr false
      · rw [hnd] at c3
        have HE : Hid (St.nround (St.backOf (rules.take (k + 1))) l = St.nround (St.backOf (rules.take k)) l) := by
          show _ = _
          rw [HTK.out, St.backOf_snoc, St.nround_app]
          exact St.nround_none hnd
        have HA1 := raise_one wr (.cells #[.int .i64 pr, .slice at_ ts.length ct, .int .i64 fo, .slice ab bd.length cb, .int .i64 vs] 40)
        have HA1 : Hid _ := HA1
        clear hnd
        gi_wp2
        refine ⟨⟨k + 1, _, _, _, _, _, _, _, _, _, _, _, _, _, _, _, _, _, _, _, _, _, _, _, _, _, hlt, rfl, ?_, HM.out.keep fun D _ _ hD => (HA1.out.block D (Array.getElem?_eq_some_iff.mp hD).1).trans hD⟩, ?_⟩
        · rw [HE.out]
          exact HS.out.on HA1.out
        · simp [intOf]
          omega
      rw [hnd] at c3
      have HND : Hid _ := hnd
      clear hnd
      gi_wp2
      refine ⟨trivial, ?_⟩
      refine (hangs_in Fence.wide _ trivial rfl (⟨pr, ts, fo, bd, vs⟩ : Sc.Rule) _ _ _ _ _).mono ?_
      rintro e w' ⟨rfl, rfl⟩
      gi_wp2
      clear q0 q1 q2 q3 q4 c0 c3
      obtain ⟨W2, hW2⟩ : ∃ W2, W2 = ((wr.alloc (.cells #[.int .i64 pr, .slice at_ ts.length ct, .int .i64 fo, .slice ab bd.length cb, .int .i64 vs] 40)).alloc (.cells #[.int .i64 pr, .slice at_ ts.length ct, .int .i64 fo, .slice ab bd.length cb, .int .i64 vs] 40)) := ⟨_, rfl⟩
      have HW := raise_mem wr W2 (.cells #[.int .i64 pr, .slice at_ ts.length ct, .int .i64 fo, .slice ab bd.length cb, .int .i64 vs] 40) hW2
      rw [← hW2]
      clear hW2
      have HW : Hid _ := HW
      refine wpIn_rangeFunc_ownG (n := 3) rfl (by omega) (gf := 204) (lb := #[.pointer (some ⟨wr.heap.size + 1, 0, none⟩)]) ?hg trivial (enters_of Tryz.func204 (by kernel_rfl) rfl)
        (hangs_stops Fence.wide 2 trivial rfl (by omega) (wr.heap.size + 1) wp l.length (⟨pr, ts, fo, bd, vs⟩ : Sc.Rule) _ ab cb HLL.out (Nat.le_trans HRI.out.hl (by decide)) HRI.out.hb W2 (HBW.out.trans (HW.out.bel.mono HBW.out.size)) HW.out.rb) (fun h k => HK.trans h k)
        (fun W j o o' hl h h1 h2 => HK.put (Nat.le_trans HBW.out.size HW.out.bel.size) W j o o' hl h h1 h2) (Below.refl _ _) (fun _ => rfl)
        (fun pre W => PIn w wr W2 LB l.length cap (.cells #[.int .i64 pr, .slice at_ ts.length ct, .int .i64 fo, .slice ab bd.length cb, .int .i64 vs] 40) ds l (St.backOf (rules.take k)) pr pre W) (fun _ _ _ => False) (PIn_own HS.out HM.out HW.out _ _) (fun _ _ _ _ _ h _ _ => h) (PIn_start HS.out HM.out HW.out)
        (fun x => { tmps := #[.slice (some ⟨LB, 0, none⟩) l.length cap, .slice (some ⟨b, off, none⟩) rules.length cr, .pointer (some ⟨w.heap.size, 0, none⟩), undef, .bool false, .pointer (some ⟨w.heap.size + 1, 0, none⟩), undef, .pointer (some ⟨wr.heap.size, 0, none⟩), .int .i64 x.1.1, .slice (some ⟨b, off, none⟩) rules.length cr, .int .i64 rules.length, .int .i64 k, .bool true, .pointer (some ⟨b, off + k * 5, none⟩), .agg #[.int .i64 pr, .slice at_ ts.length ct, .int .i64 fo, .slice ab bd.length cb, .int .i64 vs], .slice (some ⟨LB, 0, none⟩) l.length cap, .pointer (some ⟨wr.heap.size, 0, none⟩), .int .i64 pr, .pointer (some ⟨LB, pr, none⟩), .bool true, .bool false, .agg #[.int .i64 pr, .slice at_ ts.length ct, .int .i64 fo, .slice ab bd.length cb, .int .i64 vs], .func (.func 204) #[] #[.pointer (some ⟨wr.heap.size + 1, 0, none⟩)], .int .i64 x.1.1, .int .i64 x.1.2, x25, x26, x27, x28, x29, x30, x31, x32, x33, undef], defers := [] }) ?assign ?body ?done ?stop
      case hg => rfl
      case assign =>
        intro l x W K hK
        gi_wp2
        exact hK
      case stop =>
        rintro D c pre W _ _ h _
        exact h.elim
      case done =>
        rintro D ys W hD rfl hI hK
        have hsz := HW.out.sz
        have HE : Hid (St.nround (St.backOf (rules.take (k + 1))) l = St.nround (St.backOf (rules.take k) ++ (St.pairs l.length (⟨pr, ts, fo, bd, vs⟩ : Sc.Rule) bd).map (edgeN pr)) l) := by
          show _ = _
          rw [HTK.out, St.backOf_snoc]
          congr 2
          exact (pairs_back HRI.out.hb).symm
        gi_wp2
        refine ⟨⟨k + 1, hlt, _, ⟨by simp, rfl⟩, ?_, ?_⟩, ?_⟩
        · rw [HE.out]
          simpa only [ne_eq, decide_not] using hI.st
        · refine ⟨⟨D, ?_, rfl, hK, fun d' hd' e => ?_⟩, hI.mks⟩
          · have := (Array.getElem?_eq_some_iff.mp HS.out.flag).1
            omega
          · subst e
            have := (Array.getElem?_eq_some_iff.mp (HM.out.mem D hd')).1
            omega
        · simp [intOf]
          omega
      case body =>
        rintro l0 pre ⟨⟨pq, m⟩, h0, h1, hm⟩ W hI hpl
        dsimp only at h0 h1 hm
        obtain ⟨q, hq⟩ : ∃ q : Nat, pq = q := ⟨pq.toNat, by omega⟩
        subst hq
        have hq1 : q < l.length := by omega
        have HI : Hid _ := hI
        have hwz := (Array.getElem?_eq_some_iff.mp HS.out.flag).1
        have hgz := HBW.out.size
        have c0 : W.cell? ⟨w.heap.size, 0, none⟩ = some (.slice (some ⟨LB, 0, none⟩) l.length cap) := by rw [Lib.cell_of_heap hI.st.box]; rfl
        have hcl : (St.nround (St.backOf (rules.take k) ++ pre.map (edgeN pr)) l).length = l.length := St.nround_length _ _
        have c2 := boolRow_cell hI.st.row (i := q) (by omega)
        have f3 := Lib.frozen_of_heap hI.st.row q
        have HFL : Hid _ := fun (v : Value) => (heap_set_other (w := W) (b := LB) (c := w.heap.size + 1) (i := q) (v := v) (by omega)).trans hI.st.flag
        have hhd : (St.nround (St.backOf (rules.take k) ++ pre.map (edgeN pr)) l).getD pr false = true := by
          rw [St.nround_app]
          exact St.nround_keeps _ HND.out
        have HYES : Hid ((St.nround (St.backOf (rules.take k) ++ pre.map (edgeN pr)) l).getD q false = false → PIn w wr W2 LB l.length cap (.cells #[.int .i64 pr, .slice at_ ts.length ct, .int .i64 fo, .slice ab bd.length cb, .int .i64 vs] 40) ds l (St.backOf (rules.take k)) pr (pre ++ [⟨((q : Int), m), h0, h1, hm⟩]) ((W.setCell ⟨LB, q, none⟩ (.bool true)).setCell ⟨w.heap.size + 1, 0, none⟩ (.bool true))) := fun hy =>
          PIn_yes HI.out ⟨((q : Int), m), h0, h1, hm⟩ hhd hq1 hLw (by omega) hy
        have HNO : Hid ((St.nround (St.backOf (rules.take k) ++ pre.map (edgeN pr)) l).getD q false = true → PIn w wr W2 LB l.length cap (.cells #[.int .i64 pr, .slice at_ ts.length ct, .int .i64 fo, .slice ab bd.length cb, .int .i64 vs] 40) ds l (St.backOf (rules.take k)) pr (pre ++ [⟨((q : Int), m), h0, h1, hm⟩]) W) := fun hy =>
          PIn_no HI.out ⟨((q : Int), m), h0, h1, hm⟩ hhd hq1 hy
        have HKL : Hid (wp.heap.size ≤ LB ∧ LB < w.heap.size ∧ w.heap.size + 2 ≤ wr.heap.size) := ⟨hLB, hLw, by omega⟩
        have hwp : wp.heap.size ≤ w.heap.size := by omega
        clear hI hcl hwz hgz hhd
        cases hy : (St.nround (St.backOf (rules.take k) ++ pre.map (edgeN pr)) l).getD q false
        · rw [hy] at c2
          replace HYES : Hid _ := HYES.out hy
          have c6 := box_cell (HFL.out (.bool true))
          have f6 := Lib.frozen_of_heap (HFL.out (.bool true)) 0
          clear HNO hy
          gi_wp2
          refine ⟨((KeepsOthers.setCell _ _ _).trans (KeepsOthers.setCell _ _ _)).from _, ⟨((Below.refl _ W).setCell (p := ⟨LB, q, none⟩) HKL.out.1 _).setCell (p := ⟨w.heap.size + 1, 0, none⟩) (Nat.le_succ_of_le hwp) _, fun o _ hR => ?_⟩, HYES.out⟩
          have h9 := HKL.out
          rw [heap_set_other (by omega), heap_set_other (by omega)]
          exact hR
        · rw [hy] at c2
          replace HNO : Hid _ := HNO.out hy
          clear HYES hy
          gi_wp2
          exact ⟨KeepsFrom.refl _ _, HK.refl _ _ _, HNO.out⟩
    · obtain rfl : k = rules.length := by omega
      have c5 : wr.cell? ⟨w.heap.size + 1, 0, none⟩ = some (.bool (decide (St.nround (St.backOf (rules.take rules.length)) l ≠ l))) := by rw [Lib.cell_of_heap HS.out.flag]; rfl
      rw [List.take_length] at *
      obtain ⟨fb, hfb⟩ : ∃ fb, fb = decide (St.nround (St.backOf rules) l ≠ l) := ⟨_, rfl⟩
      rw [← hfb] at c5
      have HFB : Hid _ := hfb
      clear hfb
      gi_wp2
      have hrw := (Array.getElem?_eq_some_iff.mp HROW.out).1
      refine marks_leave (B := w.heap.size + 2) (v := .bool fb) (fun w => results_tmp (t := 4) rfl _ _ w) ds wr HM.out (fun w' hb => ⟨by rw [HFB.out], ?_, ?_⟩)
      · exact (hb.block LB (by omega)).trans HS.out.row
      · exact ⟨hb.os.trans HS.out.gr.os, hb.tape.trans HS.out.gr.tape, hb.output.trans HS.out.gr.output, Nat.le_trans HS.out.gr.size hb.size, fun j hj hn => (hb.block j (by omega)).trans (HS.out.gr.block j hj hn)⟩

end Go.Proofs.YthenjegmigeieaaGreat

/- Package strata: Needs. -/
namespace Go.Proofs.YthenjegmigeieaaGreat
open Go.RowKit

namespace St
theorem niter_add (E : List Fx.Edge) : ∀ (j k : Nat) (s : List Bool), niter E (j + k) s = niter E k (niter E j s)
  | 0, k, s => by rw [Nat.zero_add]; rfl
  | j + 1, k, s => by rw [Nat.add_right_comm]; exact niter_add E j k (nround E s)
theorem niter_fix {E : List Fx.Edge} {s : List Bool} (h : nround E s = s) : ∀ k, niter E k s = s
  | 0 => rfl
  | k + 1 => by rw [niter_succ, niter_fix h k, h]
theorem needs_early {p : Sc.Prog} {q k : Nat} (hi : Fx.In (back p) p.arity.length) (h : nround (back p) (niter (back p) k (only p.arity.length q)) = niter (back p) k (only p.arity.length q)) : needs p q = niter (back p) k (only p.arity.length q) := by
  have h2 := needs_fix (p := p) q hi
  unfold needs at h2 ⊢
  rcases Nat.le_total k p.arity.length with hk | hk
  · obtain ⟨d, hd⟩ : ∃ d, p.arity.length = k + d := ⟨p.arity.length - k, by omega⟩
    have h3 : niter (back p) (k + d) (only p.arity.length q) = niter (back p) k (only p.arity.length q) := by rw [niter_add, niter_fix h]
    rw [← hd] at h3
    exact h3
  · obtain ⟨d, hd⟩ : ∃ d, k = p.arity.length + d := ⟨k - p.arity.length, by omega⟩
    rw [hd, niter_add, niter_fix h2]
def falses : List Bool → Nat
  | [] => 0
  | b :: l => (if b then 0 else 1) + falses l
theorem falses_le : ∀ {s t : List Bool}, s.length = t.length → (∀ i : Nat, s.getD i false = true → t.getD i false = true) → falses t ≤ falses s
  | [], [], _, _ => Nat.le_refl _
  | [], _ :: _, h, _ => absurd h (by simp)
  | _ :: _, [], h, _ => absurd h (by simp)
  | x :: s, y :: t, h, hk => by
    have ih := falses_le (s := s) (t := t) (by simpa using h) (fun i hi => by have := hk (i + 1); simpa using this (by simpa using hi))
    have h0 := hk 0
    simp only [List.getD_cons_zero] at h0
    unfold falses
    cases x
    · cases y <;> simp <;> omega
    · rw [h0 rfl]; simp; exact ih
theorem falses_lt : ∀ {s t : List Bool}, s.length = t.length → (∀ i : Nat, s.getD i false = true → t.getD i false = true) → s ≠ t → falses t < falses s
  | [], [], _, _, hn => absurd rfl hn
  | [], _ :: _, h, _, _ => absurd h (by simp)
  | _ :: _, [], h, _, _ => absurd h (by simp)
  | x :: s, y :: t, h, hk, hn => by
    have hl : s.length = t.length := by simpa using h
    have hks : ∀ i : Nat, s.getD i false = true → t.getD i false = true := fun i hi => by have := hk (i + 1); simpa using this (by simpa using hi)
    have h0 := hk 0
    simp only [List.getD_cons_zero] at h0
    by_cases hst : s = t
    · have hxy : x ≠ y := fun e => hn (by rw [e, hst])
      unfold falses
      cases x
      · cases y
        · exact absurd rfl hxy
        · rw [hst]; simp
      · exact absurd (h0 rfl).symm hxy
    · have ih := falses_lt hl hks hst
      unfold falses
      cases x
      · cases y <;> simp <;> omega
      · rw [h0 rfl]; simp; exact ih
/-- How much is not yet needed, read off a row. -/
def lacks : Option Obj → Nat
  | some (.cells a _) => falses (a.toList.map fun v => match v with | .bool b => b | _ => false)
  | _ => 0
theorem lacks_row (l : List Bool) : lacks (some (.cells (boolRow l) 4)) = falses l := by
  unfold lacks boolRow
  simp only [List.map_map]
  congr 1
  induction l with
  | nil => rfl
  | cons b l ih => simp only [List.map_cons, Function.comp, ih]
/-- What Needs answers. -/
def isIn (p : Sc.Prog) (k : Int) : Bool := decide (0 ≤ k) && decide (k < (p.arity.length : Int))
def needErr (p : Sc.Prog) (k : Int) : Int := if Sc.check p = 0 then (if isIn p k then 0 else 5) else Sc.check p
def needOut (p : Sc.Prog) (k : Int) : List Bool := if Sc.check p = 0 ∧ isIn p k = true then needs p k.toNat else []
theorem needErr_bad {p : Sc.Prog} {k : Int} (h : ¬ Sc.check p = 0) : needErr p k = Sc.check p ∧ needOut p k = [] := by
  unfold needErr needOut
  rw [if_neg h, if_neg (fun k => h k.1)]
  exact ⟨rfl, rfl⟩
theorem needErr_in {p : Sc.Prog} {k : Int} (h : Sc.check p = 0) (hf : isIn p k = true) : needErr p k = 0 ∧ needOut p k = needs p k.toNat := by
  unfold needErr needOut
  rw [if_pos h, if_pos hf, if_pos ⟨h, hf⟩]
  exact ⟨rfl, rfl⟩
theorem needErr_out {p : Sc.Prog} {k : Int} (h : Sc.check p = 0) (hf : isIn p k = false) : needErr p k = 5 ∧ needOut p k = [] := by
  unfold needErr needOut
  rw [if_pos h, if_neg (by simp [hf]), if_neg (by simp [hf])]
  exact ⟨rfl, rfl⟩
end St

theorem boolRow_setIf (l : List Bool) (q : Nat) (v : Bool) : (boolRow l).setIfInBounds q (.bool v) = boolRow (l.set q v) := by
  unfold boolRow
  rw [List.setIfInBounds_toArray, List.map_set]
theorem made_boolRow (n : Nat) : madeCells #[Value.bool false] n = boolRow (List.replicate n false) := made_bools n
theorem boolRow_bools {w : World} {b : Nat} {l : List Bool} (cap : Nat) (hc : l.length ≤ cap) (h : w.heap[b]? = some (.cells (boolRow l) 4)) : BoolsV w (.slice (some ⟨b, 0, none⟩) l.length cap) l := by
  refine ⟨_, _, rfl, ⟨hc, fun h => by cases h⟩, .inr ⟨b, 0, rfl, fun i hi => ?_⟩⟩
  rw [Nat.zero_add]
  exact boolRow_cell h hi

set_option maxRecDepth 100000 in
set_option maxHeartbeats 1000000 in
theorem Needs_any (p : Sc.Prog) (pd : Int) (va vn vr : Value) (w : World) (hP : ProgV w va vn vr p) (hF : ProgFit p) :
    Calls Tryz.prog 76 #[progVal va vn vr, .int .i64 pd] w fun e w' => ∃ v, e = .returned (.tuple #[v, .int .i64 (St.needErr p pd)]) ∧ BoolsV w' v (St.needOut p pd) ∧ Below w.heap.size w w' := by
  obtain ⟨a0, n0, rfl, _⟩ := id hP.ar
  obtain ⟨a1, n1, rfl, _⟩ := id hP.nm
  obtain ⟨a2, n2, rfl, _⟩ := id hP.rl
  have hb0 : Below w.heap.size w (w.alloc (.cells #[.slice a0 p.arity.length n0, .slice a1 p.names.length n1, .slice a2 p.rules.length n2] 26)) := (Below.refl _ _).alloc (Nat.le_refl _) _
  have hX := heap_alloc_new w (.cells #[.slice a0 p.arity.length n0, .slice a1 p.names.length n1, .slice a2 p.rules.length n2] 26)
  have hnil : ∀ u : World, BoolsV u (.slice none 0 0) [] := fun u => ⟨none, 0, rfl, ⟨Nat.le_refl _, fun _ => rfl⟩, .inl rfl⟩
  have HN : Hid _ := hnil
  have HP : Hid _ := hP
  have HF : Hid _ := hF
  clear hP hF hnil
  go_enter Tryz.func76, Tryz.ntmps76
  go_wp2_with fail
  generalize w.alloc (.cells #[.slice a0 p.arity.length n0, .slice a1 p.names.length n1, .slice a2 p.rules.length n2] 26) = w1 at *
  refine (ScCheck_any p _ _ _ w1 (HP.out.below hb0) HF.out).mono ?_
  rintro e w2 ⟨rfl, hb2⟩
  have hX2 := (hb2.block _ (Array.getElem?_eq_some_iff.mp hX).1).trans hX
  have hbw := hb0.trans (hb2.mono hb0.size)
  clear hX hb0 hb2
  by_cases hc : Sc.check p = 0
  · obtain ⟨hn, hr, hR⟩ := St.check_in hc
    have HC : Hid (Sc.check p = 0) := hc
    have HR : Hid _ := hR
    rw [hc]
    clear hc hR
    have c0 : w2.cell? ⟨w.heap.size, 0, none⟩ = some (.slice a0 p.arity.length n0) := by rw [Lib.cell_of_heap hX2]; rfl
    by_cases h0 : pd < 0
    · have HE : Hid _ := St.needErr_out (k := pd) HC.out (by simp [St.isIn]; omega)
      have hd : decide (pd < 0) = true := decide_eq_true h0
      clear h0
      go_wp2_with fail
      refine bodyPost_ret (results_tmp2 rfl _ _ _) rfl ?_
      exact ⟨_, by rw [HE.out.1]; rfl, by rw [HE.out.2]; exact HN.out _, hbw⟩
    · have hd : decide (pd < 0) = false := decide_eq_false h0
      by_cases h1 : (p.arity.length : Int) ≤ pd
      · have HE : Hid _ := St.needErr_out (k := pd) HC.out (by simp [St.isIn]; omega)
        have hd1 : decide ((p.arity.length : Int) ≤ pd) = true := decide_eq_true h1
        clear h0 h1
        go_wp2_with fail
        refine bodyPost_ret (results_tmp2 rfl _ _ _) rfl ?_
        exact ⟨_, by rw [HE.out.1]; rfl, by rw [HE.out.2]; exact HN.out _, hbw⟩
      · have HE : Hid _ := St.needErr_in (k := pd) HC.out (by simp [St.isIn]; omega)
        obtain ⟨q, rfl⟩ : ∃ q : Nat, pd = q := ⟨pd.toNat, by omega⟩
        have hq : q < p.arity.length := by omega
        have hd1 : decide ((p.arity.length : Int) ≤ (q : Int)) = false := decide_eq_false h1
        have hd1n : decide (p.arity.length ≤ q) = false := decide_eq_false (by omega)
        clear h0 h1
        have hmk := run_make_row' (P := Tryz.prog) 57 4 (.bool false) 1 Tryz.underlying57 (by kernel_rfl) rfl .i64 .i64 p.arity.length (by omega) (by omega)
        have b3 := (Below.refl w2.heap.size w2).alloc (Nat.le_refl _) (.cells (madeCells #[Value.bool false] p.arity.length) 4)
        have hrow := heap_alloc_new w2 (.cells (madeCells #[Value.bool false] p.arity.length) 4)
        have hX3 := (b3.block _ (Array.getElem?_eq_some_iff.mp hX2).1).trans hX2
        have hb3 := hbw.trans (b3.mono hbw.size)
        have hlw : w.heap.size < w2.heap.size := (Array.getElem?_eq_some_iff.mp hX2).1
        rw [made_boolRow] at hmk hrow hX3 hb3
        clear b3
        have f3 := Lib.frozen_of_heap hrow q
        have c4 := boolRow_cell hrow (i := q) (by simpa using hq)
        clear hrow
        have b4 := (Below.refl w2.heap.size w2).alloc (Nat.le_refl _) (.cells ((boolRow (List.replicate p.arity.length false)).setIfInBounds q (.bool true)) 4)
        have hX4 := (b4.block _ (Array.getElem?_eq_some_iff.mp hX2).1).trans hX2
        have hb4 := hbw.trans (b4.mono hbw.size)
        have HRW : Hid ((w2.alloc (.cells ((boolRow (List.replicate p.arity.length false)).setIfInBounds q (.bool true)) 4)).heap[w2.heap.size]? = some (.cells (boolRow (St.only p.arity.length q)) 4)) := by
          show _ = _
          rw [heap_alloc_new, boolRow_setIf]
          rfl
        clear b4
        have HX4 : Hid _ := hX4
        have HB4 : Hid _ := hb4
        clear hX3 hb3 hX4 hb4
        go_wp2_with fail
        generalize w2.alloc (.cells ((boolRow (List.replicate p.arity.length false)).setIfInBounds q (.bool true)) 4) = w3 at *
        generalize w2.heap.size = LB at *
        clear hmk c0 hX2 hbw f3 c4
        go_loopw [29] (fun _ wr => ∃ k : Nat, wr.heap[LB]? = some (.cells (boolRow (St.niter (St.back p) k (St.only p.arity.length q))) 4) ∧ w3.grownBy wr (some LB)) (fun _ wr => St.lacks wr.heap[LB]?)
        case atStart => exact ⟨0, HRW.out, ⟨rfl, rfl, rfl, Nat.le_refl _, fun _ _ _ => rfl⟩⟩
        case round =>
          clear HRW
          obtain ⟨k, hrow, hg⟩ := hrel
          have hXr : wr.heap[w.heap.size]? = some (.cells #[.slice a0 p.arity.length n0, .slice a1 p.names.length n1, .slice a2 p.rules.length n2] 26) := (hg.block _ (Array.getElem?_eq_some_iff.mp HX4.out).1 (fun e => by injection e with e; omega)).trans HX4.out
          have c2 : wr.cell? ⟨w.heap.size, 2, none⟩ = some (.slice a2 p.rules.length n2) := by rw [Lib.cell_of_heap hXr]; rfl
          have hbr : Below w.heap.size w wr := below_row HB4.out hg (by omega)
          have HROW : Hid _ := hrow
          have HG : Hid _ := hg
          have HBR : Hid _ := hbr
          clear hXr hbr hrow hg
          have hlen : (St.niter (St.back p) k (St.only p.arity.length q)).length = p.arity.length := by rw [St.niter_length]; simp [St.only]
          have HSA := spread_any w wr p.rules (.slice a2 p.rules.length n2) (St.niter (St.back p) k (St.only p.arity.length q)) LB p.arity.length HP.out.rl HBR.out (by omega) HROW.out (by rw [hlen]; exact HR.out) hr
          rw [hlen] at HSA
          have HSA : Hid _ := HSA
          have HLN : Hid _ := hlen
          clear hlen
          go_wp2_with fail
          refine Calls.mono HSA.out ?_
          rintro e w5 ⟨rfl, hrow5, hg5⟩
          have HR5 : Hid _ := hrow5
          have HG5 : Hid _ := hg5
          clear HSA hrow5 hg5
          by_cases hfx : St.nround (St.backOf p.rules) (St.niter (St.back p) k (St.only p.arity.length q)) = St.niter (St.back p) k (St.only p.arity.length q)
          · have hfd : decide (St.nround (St.backOf p.rules) (St.niter (St.back p) k (St.only p.arity.length q)) ≠ St.niter (St.back p) k (St.only p.arity.length q)) = false := decide_eq_false (fun h => h hfx)
            have HL : Hid _ := St.needs_early (St.back_in HR.out) hfx
            rw [hfd]
            rw [hfx] at HR5
            clear hfx hfd
            go_wp2_with fail
            refine bodyPost_ret (results_tmp2 rfl _ _ _) rfl ⟨_, by rw [HE.out.1]; rfl, ?_, ?_⟩
            · rw [HE.out.2, Int.toNat_natCast, HL.out]
              have h9 := boolRow_bools p.arity.length (by rw [HLN.out]; exact Nat.le_refl _) HR5.out
              rw [HLN.out] at h9
              exact h9
            · exact below_row HBR.out HG5.out (by omega)
          · have hfd : decide (St.nround (St.backOf p.rules) (St.niter (St.back p) k (St.only p.arity.length q)) ≠ St.niter (St.back p) k (St.only p.arity.length q)) = true := decide_eq_true hfx
            have HFX : Hid _ := hfx
            rw [hfd]
            clear hfx hfd
            go_wp2_with fail
            go_roundw
            case rel => exact ⟨k + 1, by rw [St.niter_succ]; exact HR5.out, HG.out.trans_row HG5.out⟩
            case measure =>
              rw [HR5.out, HROW.out, St.lacks_row, St.lacks_row]
              exact St.falses_lt (St.nround_length _ _).symm (fun i h => St.nround_keeps _ h) (fun e => HFX.out e.symm)
  · have hcd : (Sc.check p == 0) = false := by simp [hc]
    have HE : Hid _ := St.needErr_bad (k := pd) hc
    clear hc
    go_wp2_with fail
    refine bodyPost_ret (results_tmp2 rfl _ _ _) rfl ?_
    exact ⟨_, by rw [HE.out.1]; rfl, by rw [HE.out.2]; exact HN.out _, hbw⟩

end Go.Proofs.YthenjegmigeieaaGreat

/- The document's LevelsOf. -/
namespace Go.Proofs.YthenjegmigeieaaGreat
open Go.RowKit

namespace St
/-- Kinds and folds of what passes Check. -/
theorem check_kinds {p : Sc.Prog} (h : Sc.check p = 0) : ∀ r, r ∈ p.rules → 0 ≤ r.fold ∧ ∀ x, x ∈ r.body → 1 ≤ x.kind := by
  unfold Sc.check at h
  split at h
  · omega
  · split at h
    · omega
    · intro r hr
      have h2 := first_zero (thn_zero_iff h).2 r hr
      unfold Sc.ruleErr at h2
      split at h2
      · obtain ⟨_, h2⟩ := thn_zero_iff h2
        obtain ⟨_, h2⟩ := thn_zero_iff h2
        obtain ⟨_, h2⟩ := thn_zero_iff h2
        obtain ⟨hf, h2⟩ := thn_zero_iff h2
        obtain ⟨_, h2⟩ := thn_zero_iff h2
        obtain ⟨_, h2⟩ := thn_zero_iff h2
        obtain ⟨h5, _⟩ := thn_zero_iff h2
        refine ⟨?_, fun x hx => ?_⟩
        · split at hf
          · rename_i h9
            unfold Tr.between at h9
            have h8 : 0 ≤ r.fold ∧ r.fold ≤ 4 := by simpa using h9
            exact h8.1
          · omega
        · have h6 := (thn_zero_iff (first_zero h5 x hx)).1
          unfold Sc.litErr at h6
          split at h6
          · omega
          · split at h6
            · omega
            · split at h6
              · omega
              · omega
      · omega
def litE (r : Sc.Rule) (l : List Sc.Lit) : List Fx.Edge := (l.filter hang).map fun x => (r.pred.toNat, x.pred.toNat, strict r x)
theorem litE_all (r : Sc.Rule) : litE r r.body = ruleE r := rfl
theorem litE_yes (r : Sc.Rule) (l : List Sc.Lit) {x : Sc.Lit} (h : hang x = true) : litE r (l ++ [x]) = litE r l ++ [(r.pred.toNat, x.pred.toNat, strict r x)] := by
  unfold litE
  rw [List.filter_append, List.map_append, List.filter_cons, if_pos h]
  rfl
theorem litE_no (r : Sc.Rule) (l : List Sc.Lit) {x : Sc.Lit} (h : ¬ hang x = true) : litE r (l ++ [x]) = litE r l := by
  unfold litE
  rw [List.filter_append, List.map_append, List.filter_cons, if_neg h]
  simp
theorem litE_length (r : Sc.Rule) (l : List Sc.Lit) : (litE r l).length ≤ l.length := by unfold litE; rw [List.length_map]; exact List.length_filter_le _ _
theorem litE_one (r : Sc.Rule) (l : List Sc.Lit) : ∀ e, e ∈ litE r l → e.2.2 ≤ 1 := fun e he => by
  obtain ⟨x, _, rfl⟩ := List.mem_map.mp he
  rcases strict01 r x with h | h <;> simp [h]
end St

theorem take_lit {l : List Sc.Lit} {k : Nat} (h : k < l.length) : l.take (k + 1) = l.take k ++ [Sc.litD l k] := by
  rw [List.take_add_one]
  congr 1
  unfold Sc.litD
  rw [List.getD_eq_getElem?_getD, List.getElem?_eq_getElem h]
  rfl
theorem take_rule {l : List Sc.Rule} {k : Nat} (h : k < l.length) : l.take (k + 1) = l.take k ++ [Sc.ruleD l k] := by
  rw [List.take_add_one]
  congr 1
  unfold Sc.ruleD
  rw [List.getD_eq_getElem?_getD, List.getElem?_eq_getElem h]
  rfl
theorem ruleD_mem {l : List Sc.Rule} {k : Nat} (h : k < l.length) : Sc.ruleD l k ∈ l := by unfold Sc.ruleD; rw [List.getD_eq_getElem?_getD, List.getElem?_eq_getElem h]; exact List.getElem_mem h
theorem step_zero_yes {cur : List Int} {pr q : Nat} (h : cur.getD pr 0 < cur.getD q 0) : Fx.step cur (pr, q, 0) = cur.set pr (cur.getD q 0) := by
  unfold Fx.step
  simp only [Int.add_zero]
  exact if_pos h
theorem step_zero_no {cur : List Int} {pr q : Nat} (h : ¬ cur.getD pr 0 < cur.getD q 0) : Fx.step cur (pr, q, 0) = cur := by
  unfold Fx.step
  simp only [Int.add_zero]
  exact if_neg h
/-- The row, and all else as it was. -/
structure LRow (w : World) (LB : Nat) (W : World) (cur : List Int) : Prop where
  row : W.heap[LB]? = some (.cells (intRow cur) 3)
  gr : w.grownBy W (some LB)
theorem LRow.below {w W W' : World} {LB : Nat} {cur : List Int} (h : LRow w LB W cur) (hb : Below W.heap.size W W') : LRow w LB W' cur :=
  ⟨(hb.block _ (Array.getElem?_eq_some_iff.mp h.row).1).trans h.row, ⟨hb.os.trans h.gr.os, hb.tape.trans h.gr.tape, hb.output.trans h.gr.output, Nat.le_trans h.gr.size hb.size, fun j hj hn => (hb.block j (Nat.lt_of_lt_of_le hj h.gr.size)).trans (h.gr.block j hj hn)⟩⟩
theorem LRow.set {w W : World} {LB : Nat} {cur : List Int} (h : LRow w LB W cur) (i : Nat) (v : Int) : LRow w LB (W.setCell ⟨LB, i, none⟩ (.int .i64 v)) (cur.set i v) := by
  refine ⟨intRow_set h.row i v, ⟨h.gr.os, h.gr.tape, h.gr.output, by have := h.gr.size; simpa using this, fun j hj hn => ?_⟩⟩
  have hjl : ¬ j = LB := fun e => hn (by rw [e])
  exact (heap_set_other hjl).trans (h.gr.block j hj hn)
theorem LRow.re {w w' W : World} {LB : Nat} {cur cur' : List Int} (h : LRow w LB w' cur) (k : LRow w' LB W cur') : LRow w LB W cur' := ⟨k.row, h.gr.trans_row k.gr⟩
theorem LRow.here {w W : World} {LB : Nat} {cur : List Int} (h : LRow w LB W cur) : LRow W LB W cur := ⟨h.row, ⟨rfl, rfl, rfl, Nat.le_refl _, fun _ _ _ => rfl⟩⟩

theorem grown_new {W : World} {LB : Nat} (o : Obj) : W.grownBy (W.alloc o) (some LB) :=
  World.grownBy_alloc W o (some LB)
theorem grown_box {W : World} {LB : Nat} (o : Obj) (i : Nat) (v : Value) : W.grownBy ((W.alloc o).setCell ⟨LB, i, none⟩ v) (some LB) := by
  have hg := World.grownBy_alloc W o (some LB)
  refine ⟨hg.os, hg.tape, hg.output, by simp, fun j hj hn => ?_⟩
  have hjl : ¬ j = LB := fun e => hn (by rw [e])
  exact (heap_set_other hjl).trans (hg.block j hj hn)

set_option maxRecDepth 100000 in
set_option maxHeartbeats 4000000 in
theorem LevelsOf_any (p : Sc.Prog) (va vn vr : Value) (w : World) (hP : ProgV w va vn vr p) (hc : Sc.check p = 0) :
    Calls Tryz.prog 74 #[progVal va vn vr] w fun e w' => ∃ v l, e = .returned (.tuple #[v, .bool (St.flat p)]) ∧ IntsV w' v l ∧ (St.flat p = true → l = St.level p) ∧ Below w.heap.size w w' := by
  obtain ⟨a0, n0, rfl, _⟩ := id hP.ar
  obtain ⟨a1, n1, rfl, _⟩ := id hP.nm
  obtain ⟨a2, n2, rfl, hA2⟩ := id hP.rl
  obtain ⟨hn, hr, hR⟩ := St.check_in hc
  have HK : Hid _ := St.check_kinds hc
  have HR : Hid _ := hR
  have HA2 : Hid _ := hA2
  have hel : (St.edges p).length ≤ 48 := by have := edgesOf_length p.rules (fun r hr => (hR r hr).hl); show (St.edgesOf p.rules).length ≤ 48; omega
  have b0 := (Below.refl w.heap.size w).alloc (Nat.le_refl _) (.cells #[.slice a0 p.arity.length n0, .slice a1 p.names.length n1, .slice a2 p.rules.length n2] 26)
  have hX := heap_alloc_new w (.cells #[.slice a0 p.arity.length n0, .slice a1 p.names.length n1, .slice a2 p.rules.length n2] 26)
  have s1 : (w.alloc (.cells #[.slice a0 p.arity.length n0, .slice a1 p.names.length n1, .slice a2 p.rules.length n2] 26)).heap.size = w.heap.size + 1 := by simp
  have b3 := (Below.refl (w.alloc (.cells #[.slice a0 p.arity.length n0, .slice a1 p.names.length n1, .slice a2 p.rules.length n2] 26)).heap.size (w.alloc (.cells #[.slice a0 p.arity.length n0, .slice a1 p.names.length n1, .slice a2 p.rules.length n2] 26))).alloc (Nat.le_refl _) (.cells (intRow (St.zeros p.arity.length)) 3)
  have hrow := heap_alloc_new (w.alloc (.cells #[.slice a0 p.arity.length n0, .slice a1 p.names.length n1, .slice a2 p.rules.length n2] 26)) (.cells (intRow (St.zeros p.arity.length)) 3)
  have hX3 := (b3.block _ (Array.getElem?_eq_some_iff.mp hX).1).trans hX
  have hb3 := b0.trans (b3.mono b0.size)
  rw [s1] at hrow
  have hmk := run_make_row' (P := Tryz.prog) 22 3 (.int .i64 0) 8 Tryz.underlying22 (by kernel_rfl) rfl .i64 .i64 p.arity.length (by omega) (by omega)
  simp only [made_ints] at hmk
  have HX3 : Hid _ := hX3
  have HB3 : Hid _ := hb3
  have HROW : Hid _ := hrow
  clear b0 hX b3 hX3 hb3 hrow s1 hP hR hA2 hc
  go_enter Tryz.func74, Tryz.ntmps74
  go_wp2_with fail
  generalize (w.alloc (.cells #[.slice a0 p.arity.length n0, .slice a1 p.names.length n1, .slice a2 p.rules.length n2] 26)).alloc (.cells (intRow (St.zeros p.arity.length)) 3) = w3 at *
  generalize hLB : w.heap.size + 1 = LB at *
  have hlw : w.heap.size < LB := by omega
  clear hmk hLB
  have HPB : Hid (∀ wr : World, w3.grownBy wr (some LB) → wr.heap[w.heap.size]? = some (.cells #[.slice a0 p.arity.length n0, .slice a1 p.names.length n1, .slice a2 p.rules.length n2] 26) ∧ Below w.heap.size w wr) := fun wr hg => ⟨(hg.block _ (Array.getElem?_eq_some_iff.mp HX3.out).1 (fun e => by injection e with e; omega)).trans HX3.out, below_row HB3.out hg (by omega)⟩
  go_loopw [5, 6] (fun ro i6 wr => ∃ k : Nat, k ≤ p.arity.length + 1 ∧ ro = .bool (if k = 0 then false else decide (Fx.iter (St.edges p) k (St.zeros p.arity.length) ≠ Fx.iter (St.edges p) (k - 1) (St.zeros p.arity.length))) ∧ i6 = .int .i64 k ∧ LRow w3 LB wr (Fx.iter (St.edges p) k (St.zeros p.arity.length))) (fun _ i6 _ => p.arity.length + 1 - (intOf i6).toNat)
  case atStart => exact ⟨0, Nat.zero_le _, rfl, rfl, HROW.out, ⟨rfl, rfl, rfl, Nat.le_refl _, fun _ _ _ => rfl⟩⟩
  case round =>
    clear HROW
    obtain ⟨wk, hwk⟩ : ∃ wk, wk = wr := ⟨_, rfl⟩
    subst hwk
    obtain ⟨k, hk, rfl, rfl, hL⟩ := hrel
    have HL : Hid _ := hL
    have c0 : wk.cell? ⟨w.heap.size, 0, none⟩ = some (.slice a0 p.arity.length n0) := by rw [Lib.cell_of_heap (HPB.out wk hL.gr).1]; rfl
    clear hL
    by_cases hkn : k ≤ p.arity.length
    · have hkd : decide (k ≤ p.arity.length) = true := decide_eq_true hkn
      generalize (if k = 0 then false else decide (Fx.iter (St.edges p) k (St.zeros p.arity.length) ≠ Fx.iter (St.edges p) (k - 1) (St.zeros p.arity.length))) = ro0 at *
      go_wp2_with fail
      clear c0
      go_loopw [5, 7] (fun ro i7 wr => ∃ i : Nat, i ≤ p.rules.length ∧ ro = .bool (decide (Fx.round (St.edgesOf (p.rules.take i)) (Fx.iter (St.edges p) k (St.zeros p.arity.length)) ≠ (Fx.iter (St.edges p) k (St.zeros p.arity.length)))) ∧ i7 = .int .i64 i ∧ LRow wk LB wr (Fx.round (St.edgesOf (p.rules.take i)) (Fx.iter (St.edges p) k (St.zeros p.arity.length)))) (fun _ i7 _ => p.rules.length - (intOf i7).toNat)
      case atStart => exact ⟨0, Nat.zero_le _, by simp [St.edgesOf, Fx.round], rfl, HL.out.here⟩
      case round =>
        obtain ⟨wi, hwi⟩ : ∃ wi, wi = wr := ⟨_, rfl⟩
        subst hwi
        obtain ⟨i, hi, rfl, rfl, hL2⟩ := hrel
        have HL2 : Hid _ := hL2
        have hPX := HPB.out wi (HL.out.gr.trans_row hL2.gr)
        have c2 : wi.cell? ⟨w.heap.size, 2, none⟩ = some (.slice a2 p.rules.length n2) := by rw [Lib.cell_of_heap hPX.1]; rfl
        have HBI : Hid _ := hPX.2
        clear hL2 hPX
        by_cases hil : i < p.rules.length
        · obtain ⟨b, off, rfl, p0, ⟨vt, p1, hT⟩, p2, ⟨vb, p3, hLL⟩, p4⟩ := prules_at HA2.out i hil
          obtain ⟨at_, ct, rfl, _⟩ := hT
          obtain ⟨ab, cb, rfl, hLL⟩ := hLL
          have HLL : Hid _ := hLL
          have HRI : Hid (St.RuleIn p.arity.length (Sc.ruleD p.rules i)) := HR.out _ (ruleD_mem hil)
          have HKI : Hid _ := HK.out _ (ruleD_mem hil)
          have HTK : Hid _ := take_rule hil
          have q0 := cell_below HBI.out p0
          have q1 := cell_below HBI.out p1
          have q2 := cell_below HBI.out p2
          have q3 := cell_below HBI.out p3
          have q4 := cell_below HBI.out p4
          clear p0 p1 p2 p3 p4 hLL
          generalize Sc.ruleD p.rules i = r at *
          obtain ⟨pd, ts, fo, bd, vs⟩ := r
          obtain ⟨pr, rfl⟩ : ∃ pr : Nat, pd = pr := ⟨pd.toNat, by have := HRI.out.h0; dsimp only at this; omega⟩
          dsimp only at *
          have hpn : pr < p.arity.length := by have := HRI.out.h1; dsimp only at this; omega
          have hfo : 0 ≤ fo := HKI.out.1
          have hbd : bd.length ≤ 4 := HRI.out.hl
          obtain ⟨rosei, hrosei⟩ : ∃ rosei, rosei = decide (Fx.round (St.edgesOf (p.rules.take i)) (Fx.iter (St.edges p) k (St.zeros p.arity.length)) ≠ (Fx.iter (St.edges p) k (St.zeros p.arity.length))) := ⟨_, rfl⟩
          rw [← hrosei]
          have HRO : Hid _ := hrosei
          clear hrosei
          go_wp2_with fail
          have b5 := (Below.refl wi.heap.size wi).alloc (Nat.le_refl _) (.cells #[.int .i64 pr, .slice at_ ts.length ct, .int .i64 fo, .slice ab bd.length cb, .int .i64 vs] 40)
          have hQ := heap_alloc_new wi (.cells #[.int .i64 pr, .slice at_ ts.length ct, .int .i64 fo, .slice ab bd.length cb, .int .i64 vs] 40)
          have HL5 : Hid _ := HL2.out.below b5
          have HB5 : Hid _ := HBI.out.trans (b5.mono HBI.out.size)
          clear q0 q1 q2 q3 q4 c2 b5
          have HQ : Hid _ := hQ
          clear hQ
          generalize wi.alloc (.cells #[.int .i64 pr, .slice at_ ts.length ct, .int .i64 fo, .slice ab bd.length cb, .int .i64 vs] 40) = wq at *
          have hqlb : ¬ wi.heap.size = LB := by have := (Array.getElem?_eq_some_iff.mp HL2.out.row).1; omega
          generalize wi.heap.size = QB at *
          go_loopw [5, 9] (fun ro i9 wr => ∃ j : Nat, j ≤ bd.length ∧ ro = .bool (decide ((Fx.round (St.edgesOf (p.rules.take i) ++ St.litE (⟨pr, ts, fo, bd, vs⟩ : Sc.Rule) (bd.take j)) (Fx.iter (St.edges p) k (St.zeros p.arity.length))) ≠ (Fx.iter (St.edges p) k (St.zeros p.arity.length)))) ∧ i9 = .int .i64 j ∧ LRow wk LB wr (Fx.round (St.edgesOf (p.rules.take i) ++ St.litE (⟨pr, ts, fo, bd, vs⟩ : Sc.Rule) (bd.take j)) (Fx.iter (St.edges p) k (St.zeros p.arity.length))) ∧ wq.grownBy wr (some LB)) (fun _ i9 _ => bd.length - (intOf i9).toNat)
          case atStart => exact ⟨0, Nat.zero_le _, by rw [HRO.out]; simp [St.litE], rfl, by simpa [St.litE] using HL5.out, ⟨rfl, rfl, rfl, Nat.le_refl _, fun _ _ _ => rfl⟩⟩
          case round =>
            clear HL5
            obtain ⟨j, hj, rfl, rfl, hL3, hgq⟩ := hrel
            have hQr := (hgq.block _ (Array.getElem?_eq_some_iff.mp HQ.out).1 (fun e => by injection e with e; exact hqlb e)).trans HQ.out
            have e0 : wr.cell? ⟨QB, 0, none⟩ = some (.int .i64 pr) := by rw [Lib.cell_of_heap hQr]; rfl
            have e2 : wr.cell? ⟨QB, 2, none⟩ = some (.int .i64 fo) := by rw [Lib.cell_of_heap hQr]; rfl
            have e3 : wr.cell? ⟨QB, 3, none⟩ = some (.slice ab bd.length cb) := by rw [Lib.cell_of_heap hQr]; rfl
            have HL3 : Hid _ := hL3
            have HGQ : Hid _ := hgq
            have HBR : Hid _ := below_row HB5.out hgq (by omega)
            clear hL3 hgq hQr
            by_cases hjl : j < bd.length
            · obtain ⟨b', off', rfl, p0, p1, p2, lv, p3, hT⟩ := plits_at HLL.out j hjl
              obtain ⟨al, cl, rfl, _, _⟩ := hT
              have q0 := cell_below HBR.out p0
              have q1 := cell_below HBR.out p1
              have q2 := cell_below HBR.out p2
              have q3 := cell_below HBR.out p3
              have HTL : Hid _ := take_lit hjl
              have HKL : Hid _ := HKI.out.2 _ (litD_mem hjl)
              have HBX : Hid _ := HRI.out.hb _ (litD_mem hjl)
              clear p0 p1 p2 p3
              dsimp only at *
              generalize Sc.litD bd j = x at *
              obtain ⟨kd, op, xp, lt⟩ := x
              dsimp only at *
              by_cases h2 : 2 < kd
              · have h2d : decide (2 < kd) = true := decide_eq_true h2
                have HES : Hid (St.litE (⟨pr, ts, fo, bd, vs⟩ : Sc.Rule) (bd.take (j + 1)) = St.litE (⟨pr, ts, fo, bd, vs⟩ : Sc.Rule) (bd.take j)) := by
                  show _ = _
                  rw [HTL.out]
                  exact St.litE_no _ _ (fun hc => by have h9 : kd = 1 ∨ kd = 2 := of_decide_eq_true hc; omega)
                have HG9 : Hid _ := HGQ.out.trans_row (grown_new (.cells #[.int .i64 kd, .int .i64 op, .int .i64 xp, .slice al lt.length cl] 49))
                clear h2
                go_wp2_with fail
                go_roundw
                case rel => exact ⟨j + 1, hjl, by rw [HES.out], by go_num, by rw [HES.out]; exact HL3.out.below ((Below.refl _ _).alloc (Nat.le_refl _) _), HG9.out⟩
                case measure => simp [intOf]; omega
              · have h2d : decide (2 < kd) = false := decide_eq_false h2
                have hk1 : 1 ≤ kd := HKL.out
                have hh : St.hang ⟨kd, op, xp, lt⟩ = true := decide_eq_true (by show kd = 1 ∨ kd = 2; omega)
                have hxp := HBX.out hh
                obtain ⟨q, rfl⟩ : ∃ q : Nat, xp = q := ⟨xp.toNat, by have h9 : 0 ≤ xp := hxp.1; omega⟩
                have hqn : q < p.arity.length := by have h9 : (q : Int) < (p.arity.length : Int) := hxp.2; omega
                have hcl : (Fx.round (St.edgesOf (p.rules.take i) ++ St.litE (⟨pr, ts, fo, bd, vs⟩ : Sc.Rule) (bd.take j)) (Fx.iter (St.edges p) k (St.zeros p.arity.length))).length = p.arity.length := by rw [Fx.round_length, Fx.iter_length]; simp [St.zeros]
                have HCL : Hid ((Fx.iter (St.edges p) k (St.zeros p.arity.length)).length = p.arity.length) := by show _ = _; rw [Fx.iter_length]; simp [St.zeros]
                have HL6 := HL3.out.below ((Below.refl _ _).alloc (Nat.le_refl _) (.cells #[.int .i64 kd, .int .i64 op, .int .i64 q, .slice al lt.length cl] 49))
                have c5 := intRow_cell HL6.row (i := q) (by omega)
                have c6 := intRow_cell HL6.row (i := pr) (by omega)
                have f6 := Lib.frozen_of_heap HL6.row pr
                have b6 := (Below.refl wr.heap.size wr).alloc (Nat.le_refl _) (.cells #[.int .i64 kd, .int .i64 op, .int .i64 q, .slice al lt.length cl] 49)
                have e0' := cell_below b6 e0
                have e2' := cell_below b6 e2
                clear b6 HL6
                have hlo : ∀ t : Nat, 0 ≤ (Fx.round (St.edgesOf (p.rules.take i) ++ St.litE (⟨pr, ts, fo, bd, vs⟩ : Sc.Rule) (bd.take j)) (Fx.iter (St.edges p) k (St.zeros p.arity.length))).getD t 0 := fun t => Int.le_trans (St.iter_nonneg (St.edges p) p.arity.length k t) ((Fx.round_le _ _).2 t)
                have hhi : ∀ t : Nat, (Fx.round (St.edgesOf (p.rules.take i) ++ St.litE (⟨pr, ts, fo, bd, vs⟩ : Sc.Rule) (bd.take j)) (Fx.iter (St.edges p) k (St.zeros p.arity.length))).getD t 0 ≤ 1000 := fun t => by
                  have h9 := Fx.round_bound (St.edgesOf (p.rules.take i) ++ St.litE (⟨pr, ts, fo, bd, vs⟩ : Sc.Rule) (bd.take j)) (l := (Fx.iter (St.edges p) k (St.zeros p.arity.length))) (St.iter_bound (St.edges p) (edgesOf_one p.rules) p.arity.length k) (fun e he => by
                    rcases List.mem_append.mp he with h | h
                    · exact edgesOf_one _ e h
                    · exact St.litE_one _ _ e h) t
                  have h8 : (k * (St.edges p).length : Nat) ≤ 11 * 48 := Nat.mul_le_mul (by omega) hel
                  have h7 := edgesOf_length (p.rules.take i) (fun r hr => (HR.out r (List.mem_of_mem_take hr)).hl)
                  have h6 := St.litE_length (⟨pr, ts, fo, bd, vs⟩ : Sc.Rule) (bd.take j)
                  have h5 : bd.length ≤ 4 := HRI.out.hl
                  rw [List.length_take] at h7 h6
                  rw [List.length_append] at h9
                  omega
                have hA0 := hlo q
                have hA1 := hhi q
                clear hlo hhi hcl hxp
                obtain ⟨A, hA⟩ : ∃ A : Int, A = (Fx.round (St.edgesOf (p.rules.take i) ++ St.litE (⟨pr, ts, fo, bd, vs⟩ : Sc.Rule) (bd.take j)) (Fx.iter (St.edges p) k (St.zeros p.arity.length))).getD q 0 := ⟨_, rfl⟩
                obtain ⟨Bv, hBv⟩ : ∃ Bv : Int, Bv = (Fx.round (St.edgesOf (p.rules.take i) ++ St.litE (⟨pr, ts, fo, bd, vs⟩ : Sc.Rule) (bd.take j)) (Fx.iter (St.edges p) k (St.zeros p.arity.length))).getD pr 0 := ⟨_, rfl⟩
                rw [← hA] at c5 hA0 hA1
                rw [← hBv] at c6
                have HA : Hid _ := hA
                have HBV : Hid _ := hBv
                clear hA hBv
                obtain ⟨rf, hrf⟩ : ∃ rf, rf = decide ((Fx.round (St.edgesOf (p.rules.take i) ++ St.litE (⟨pr, ts, fo, bd, vs⟩ : Sc.Rule) (bd.take j)) (Fx.iter (St.edges p) k (St.zeros p.arity.length))) ≠ (Fx.iter (St.edges p) k (St.zeros p.arity.length))) := ⟨_, rfl⟩
                rw [← hrf]
                have HRF : Hid _ := hrf
                clear hrf
                by_cases hkk : kd = 2
                · have hk2d : (kd == 2) = true := by simp [hkk]
                  have hff : True := trivial
                  have HES : Hid (St.litE (⟨pr, ts, fo, bd, vs⟩ : Sc.Rule) (bd.take (j + 1)) = St.litE (⟨pr, ts, fo, bd, vs⟩ : Sc.Rule) (bd.take j) ++ [(pr, q, 1)]) := by
                    show _ = _
                    rw [HTL.out, St.litE_yes _ _ hh]
                    simp [St.strict, hkk]
                  by_cases hy : Bv < A + 1
                  · have hyd : decide (Bv < A + 1) = true := decide_eq_true hy
                    have HNX : Hid (LRow wk LB ((wr.alloc (.cells #[.int .i64 kd, .int .i64 op, .int .i64 q, .slice al lt.length cl] 49)).setCell ⟨LB, pr, none⟩ (.int .i64 (A + 1))) (Fx.round (St.edgesOf (p.rules.take i) ++ St.litE (⟨pr, ts, fo, bd, vs⟩ : Sc.Rule) (bd.take (j + 1))) (Fx.iter (St.edges p) k (St.zeros p.arity.length)))) := by
                      have h9 := (HL3.out.below ((Below.refl _ _).alloc (Nat.le_refl _) (.cells #[.int .i64 kd, .int .i64 op, .int .i64 q, .slice al lt.length cl] 49))).set pr (A + 1)
                      rw [HES.out, ← List.append_assoc, Fx.round_snoc]
                      have h8 : Fx.step (Fx.round (St.edgesOf (p.rules.take i) ++ St.litE (⟨pr, ts, fo, bd, vs⟩ : Sc.Rule) (bd.take j)) (Fx.iter (St.edges p) k (St.zeros p.arity.length))) (pr, q, 1) = (Fx.round (St.edgesOf (p.rules.take i) ++ St.litE (⟨pr, ts, fo, bd, vs⟩ : Sc.Rule) (bd.take j)) (Fx.iter (St.edges p) k (St.zeros p.arity.length))).set pr (A + 1) := by
                        rw [HA.out]
                        unfold Fx.step
                        exact if_pos (by rw [HA.out, HBV.out] at hy; exact hy)
                      rw [h8]
                      exact h9
                    have HFN : Hid (decide (Fx.round (St.edgesOf (p.rules.take i) ++ St.litE (⟨pr, ts, fo, bd, vs⟩ : Sc.Rule) (bd.take (j + 1))) (Fx.iter (St.edges p) k (St.zeros p.arity.length)) ≠ (Fx.iter (St.edges p) k (St.zeros p.arity.length))) = true) := by
                      show _ = _
                      rw [HES.out, ← List.append_assoc, Fx.rose_snoc _ _ _ (by rw [HCL.out]; exact hpn)]
                      have h7 : decide ((Fx.round (St.edgesOf (p.rules.take i) ++ St.litE (⟨pr, ts, fo, bd, vs⟩ : Sc.Rule) (bd.take j)) (Fx.iter (St.edges p) k (St.zeros p.arity.length))).getD pr 0 < (Fx.round (St.edgesOf (p.rules.take i) ++ St.litE (⟨pr, ts, fo, bd, vs⟩ : Sc.Rule) (bd.take j)) (Fx.iter (St.edges p) k (St.zeros p.arity.length))).getD q 0 + 1) = true := decide_eq_true (by rw [HA.out, HBV.out] at hy; exact hy)
                      show (_ || decide ((Fx.round (St.edgesOf (p.rules.take i) ++ St.litE (⟨pr, ts, fo, bd, vs⟩ : Sc.Rule) (bd.take j)) (Fx.iter (St.edges p) k (St.zeros p.arity.length))).getD pr 0 < (Fx.round (St.edgesOf (p.rules.take i) ++ St.litE (⟨pr, ts, fo, bd, vs⟩ : Sc.Rule) (bd.take j)) (Fx.iter (St.edges p) k (St.zeros p.arity.length))).getD q 0 + 1)) = true
                      rw [h7, Bool.or_true]
                    have HG9 : Hid _ := HGQ.out.trans_row (grown_box (.cells #[.int .i64 kd, .int .i64 op, .int .i64 q, .slice al lt.length cl] 49) pr (.int .i64 (A + 1)))
                    clear hy hh hff hkk
                    go_wp2_with fail
                    go_roundw
                    case rel => exact ⟨j + 1, hjl, by rw [HFN.out], by go_num, HNX.out, HG9.out⟩
                    case measure => simp [intOf]; omega
                  · have hyd : decide (Bv < A + 1) = false := decide_eq_false hy
                    have HNX : Hid (Fx.round (St.edgesOf (p.rules.take i) ++ St.litE (⟨pr, ts, fo, bd, vs⟩ : Sc.Rule) (bd.take (j + 1))) (Fx.iter (St.edges p) k (St.zeros p.arity.length)) = (Fx.round (St.edgesOf (p.rules.take i) ++ St.litE (⟨pr, ts, fo, bd, vs⟩ : Sc.Rule) (bd.take j)) (Fx.iter (St.edges p) k (St.zeros p.arity.length)))) := by
                      show _ = _
                      rw [HES.out, ← List.append_assoc, Fx.round_snoc]
                      unfold Fx.step
                      exact if_neg (by rw [HA.out, HBV.out] at hy; exact hy)
                    have HG9 : Hid _ := HGQ.out.trans_row (grown_new (.cells #[.int .i64 kd, .int .i64 op, .int .i64 q, .slice al lt.length cl] 49))
                    clear hy hh hff hkk
                    go_wp2_with fail
                    go_roundw
                    case rel => exact ⟨j + 1, hjl, by rw [HNX.out, HRF.out], by go_num, by rw [HNX.out]; exact HL3.out.below ((Below.refl _ _).alloc (Nat.le_refl _) _), HG9.out⟩
                    case measure => simp [intOf]; omega
                · have hk2d : (kd == 2) = false := by simp [hkk]
                  by_cases hff : fo = 0
                  · have hfd : decide (0 < fo) = false := decide_eq_false (by omega)
                    have HES : Hid (St.litE (⟨pr, ts, fo, bd, vs⟩ : Sc.Rule) (bd.take (j + 1)) = St.litE (⟨pr, ts, fo, bd, vs⟩ : Sc.Rule) (bd.take j) ++ [(pr, q, 0)]) := by
                      show _ = _
                      rw [HTL.out, St.litE_yes _ _ hh]
                      simp [St.strict, hff, hkk]
                    by_cases hy : Bv < A
                    · have hyd : decide (Bv < A) = true := decide_eq_true hy
                      have HNX : Hid (LRow wk LB ((wr.alloc (.cells #[.int .i64 kd, .int .i64 op, .int .i64 q, .slice al lt.length cl] 49)).setCell ⟨LB, pr, none⟩ (.int .i64 (A))) (Fx.round (St.edgesOf (p.rules.take i) ++ St.litE (⟨pr, ts, fo, bd, vs⟩ : Sc.Rule) (bd.take (j + 1))) (Fx.iter (St.edges p) k (St.zeros p.arity.length)))) := by
                        have h9 := (HL3.out.below ((Below.refl _ _).alloc (Nat.le_refl _) (.cells #[.int .i64 kd, .int .i64 op, .int .i64 q, .slice al lt.length cl] 49))).set pr (A)
                        rw [HES.out, ← List.append_assoc, Fx.round_snoc]
                        have h8 : Fx.step (Fx.round (St.edgesOf (p.rules.take i) ++ St.litE (⟨pr, ts, fo, bd, vs⟩ : Sc.Rule) (bd.take j)) (Fx.iter (St.edges p) k (St.zeros p.arity.length))) (pr, q, 0) = (Fx.round (St.edgesOf (p.rules.take i) ++ St.litE (⟨pr, ts, fo, bd, vs⟩ : Sc.Rule) (bd.take j)) (Fx.iter (St.edges p) k (St.zeros p.arity.length))).set pr (A) := by
                          rw [HA.out]
                          exact step_zero_yes (by rw [HA.out, HBV.out] at hy; exact hy)
                        rw [h8]
                        exact h9
                      have HFN : Hid (decide (Fx.round (St.edgesOf (p.rules.take i) ++ St.litE (⟨pr, ts, fo, bd, vs⟩ : Sc.Rule) (bd.take (j + 1))) (Fx.iter (St.edges p) k (St.zeros p.arity.length)) ≠ (Fx.iter (St.edges p) k (St.zeros p.arity.length))) = true) := by
                        show _ = _
                        rw [HES.out, ← List.append_assoc, Fx.rose_snoc _ _ _ (by rw [HCL.out]; exact hpn)]
                        have h7 : decide ((Fx.round (St.edgesOf (p.rules.take i) ++ St.litE (⟨pr, ts, fo, bd, vs⟩ : Sc.Rule) (bd.take j)) (Fx.iter (St.edges p) k (St.zeros p.arity.length))).getD pr 0 < (Fx.round (St.edgesOf (p.rules.take i) ++ St.litE (⟨pr, ts, fo, bd, vs⟩ : Sc.Rule) (bd.take j)) (Fx.iter (St.edges p) k (St.zeros p.arity.length))).getD q 0 + 0) = true := decide_eq_true (by rw [HA.out, HBV.out] at hy; rw [Int.add_zero]; exact hy)
                        show (_ || decide ((Fx.round (St.edgesOf (p.rules.take i) ++ St.litE (⟨pr, ts, fo, bd, vs⟩ : Sc.Rule) (bd.take j)) (Fx.iter (St.edges p) k (St.zeros p.arity.length))).getD pr 0 < (Fx.round (St.edgesOf (p.rules.take i) ++ St.litE (⟨pr, ts, fo, bd, vs⟩ : Sc.Rule) (bd.take j)) (Fx.iter (St.edges p) k (St.zeros p.arity.length))).getD q 0 + 0)) = true
                        rw [h7, Bool.or_true]
                      have HG9 : Hid _ := HGQ.out.trans_row (grown_box (.cells #[.int .i64 kd, .int .i64 op, .int .i64 q, .slice al lt.length cl] 49) pr (.int .i64 (A)))
                      clear hy hh hff hkk
                      go_wp2_with fail
                      go_roundw
                      case rel => exact ⟨j + 1, hjl, by rw [HFN.out], by go_num, HNX.out, HG9.out⟩
                      case measure => simp [intOf]; omega
                    · have hyd : decide (Bv < A) = false := decide_eq_false hy
                      have HNX : Hid (Fx.round (St.edgesOf (p.rules.take i) ++ St.litE (⟨pr, ts, fo, bd, vs⟩ : Sc.Rule) (bd.take (j + 1))) (Fx.iter (St.edges p) k (St.zeros p.arity.length)) = (Fx.round (St.edgesOf (p.rules.take i) ++ St.litE (⟨pr, ts, fo, bd, vs⟩ : Sc.Rule) (bd.take j)) (Fx.iter (St.edges p) k (St.zeros p.arity.length)))) := by
                        show _ = _
                        rw [HES.out, ← List.append_assoc, Fx.round_snoc]
                        exact step_zero_no (by rw [HA.out, HBV.out] at hy; exact hy)
                      have HG9 : Hid _ := HGQ.out.trans_row (grown_new (.cells #[.int .i64 kd, .int .i64 op, .int .i64 q, .slice al lt.length cl] 49))
                      clear hy hh hff hkk
                      go_wp2_with fail
                      go_roundw
                      case rel => exact ⟨j + 1, hjl, by rw [HNX.out, HRF.out], by go_num, by rw [HNX.out]; exact HL3.out.below ((Below.refl _ _).alloc (Nat.le_refl _) _), HG9.out⟩
                      case measure => simp [intOf]; omega
                  · have hfd : decide (0 < fo) = true := decide_eq_true (by omega)
                    have HES : Hid (St.litE (⟨pr, ts, fo, bd, vs⟩ : Sc.Rule) (bd.take (j + 1)) = St.litE (⟨pr, ts, fo, bd, vs⟩ : Sc.Rule) (bd.take j) ++ [(pr, q, 1)]) := by
                      show _ = _
                      rw [HTL.out, St.litE_yes _ _ hh]
                      simp [St.strict, hff, hkk]
                    by_cases hy : Bv < A + 1
                    · have hyd : decide (Bv < A + 1) = true := decide_eq_true hy
                      have HNX : Hid (LRow wk LB ((wr.alloc (.cells #[.int .i64 kd, .int .i64 op, .int .i64 q, .slice al lt.length cl] 49)).setCell ⟨LB, pr, none⟩ (.int .i64 (A + 1))) (Fx.round (St.edgesOf (p.rules.take i) ++ St.litE (⟨pr, ts, fo, bd, vs⟩ : Sc.Rule) (bd.take (j + 1))) (Fx.iter (St.edges p) k (St.zeros p.arity.length)))) := by
                        have h9 := (HL3.out.below ((Below.refl _ _).alloc (Nat.le_refl _) (.cells #[.int .i64 kd, .int .i64 op, .int .i64 q, .slice al lt.length cl] 49))).set pr (A + 1)
                        rw [HES.out, ← List.append_assoc, Fx.round_snoc]
                        have h8 : Fx.step (Fx.round (St.edgesOf (p.rules.take i) ++ St.litE (⟨pr, ts, fo, bd, vs⟩ : Sc.Rule) (bd.take j)) (Fx.iter (St.edges p) k (St.zeros p.arity.length))) (pr, q, 1) = (Fx.round (St.edgesOf (p.rules.take i) ++ St.litE (⟨pr, ts, fo, bd, vs⟩ : Sc.Rule) (bd.take j)) (Fx.iter (St.edges p) k (St.zeros p.arity.length))).set pr (A + 1) := by
                          rw [HA.out]
                          unfold Fx.step
                          exact if_pos (by rw [HA.out, HBV.out] at hy; exact hy)
                        rw [h8]
                        exact h9
                      have HFN : Hid (decide (Fx.round (St.edgesOf (p.rules.take i) ++ St.litE (⟨pr, ts, fo, bd, vs⟩ : Sc.Rule) (bd.take (j + 1))) (Fx.iter (St.edges p) k (St.zeros p.arity.length)) ≠ (Fx.iter (St.edges p) k (St.zeros p.arity.length))) = true) := by
                        show _ = _
                        rw [HES.out, ← List.append_assoc, Fx.rose_snoc _ _ _ (by rw [HCL.out]; exact hpn)]
                        have h7 : decide ((Fx.round (St.edgesOf (p.rules.take i) ++ St.litE (⟨pr, ts, fo, bd, vs⟩ : Sc.Rule) (bd.take j)) (Fx.iter (St.edges p) k (St.zeros p.arity.length))).getD pr 0 < (Fx.round (St.edgesOf (p.rules.take i) ++ St.litE (⟨pr, ts, fo, bd, vs⟩ : Sc.Rule) (bd.take j)) (Fx.iter (St.edges p) k (St.zeros p.arity.length))).getD q 0 + 1) = true := decide_eq_true (by rw [HA.out, HBV.out] at hy; exact hy)
                        show (_ || decide ((Fx.round (St.edgesOf (p.rules.take i) ++ St.litE (⟨pr, ts, fo, bd, vs⟩ : Sc.Rule) (bd.take j)) (Fx.iter (St.edges p) k (St.zeros p.arity.length))).getD pr 0 < (Fx.round (St.edgesOf (p.rules.take i) ++ St.litE (⟨pr, ts, fo, bd, vs⟩ : Sc.Rule) (bd.take j)) (Fx.iter (St.edges p) k (St.zeros p.arity.length))).getD q 0 + 1)) = true
                        rw [h7, Bool.or_true]
                      have HG9 : Hid _ := HGQ.out.trans_row (grown_box (.cells #[.int .i64 kd, .int .i64 op, .int .i64 q, .slice al lt.length cl] 49) pr (.int .i64 (A + 1)))
                      clear hy hh hff hkk
                      go_wp2_with fail
                      go_roundw
                      case rel => exact ⟨j + 1, hjl, by rw [HFN.out], by go_num, HNX.out, HG9.out⟩
                      case measure => simp [intOf]; omega
                    · have hyd : decide (Bv < A + 1) = false := decide_eq_false hy
                      have HNX : Hid (Fx.round (St.edgesOf (p.rules.take i) ++ St.litE (⟨pr, ts, fo, bd, vs⟩ : Sc.Rule) (bd.take (j + 1))) (Fx.iter (St.edges p) k (St.zeros p.arity.length)) = (Fx.round (St.edgesOf (p.rules.take i) ++ St.litE (⟨pr, ts, fo, bd, vs⟩ : Sc.Rule) (bd.take j)) (Fx.iter (St.edges p) k (St.zeros p.arity.length)))) := by
                        show _ = _
                        rw [HES.out, ← List.append_assoc, Fx.round_snoc]
                        unfold Fx.step
                        exact if_neg (by rw [HA.out, HBV.out] at hy; exact hy)
                      have HG9 : Hid _ := HGQ.out.trans_row (grown_new (.cells #[.int .i64 kd, .int .i64 op, .int .i64 q, .slice al lt.length cl] 49))
                      clear hy hh hff hkk
                      go_wp2_with fail
                      go_roundw
                      case rel => exact ⟨j + 1, hjl, by rw [HNX.out, HRF.out], by go_num, by rw [HNX.out]; exact HL3.out.below ((Below.refl _ _).alloc (Nat.le_refl _) _), HG9.out⟩
                      case measure => simp [intOf]; omega
            · obtain rfl : j = bd.length := by omega
              have HEN : Hid (Fx.round (St.edgesOf (p.rules.take (i + 1))) (Fx.iter (St.edges p) k (St.zeros p.arity.length)) = Fx.round (St.edgesOf (p.rules.take i) ++ St.litE (⟨pr, ts, fo, bd, vs⟩ : Sc.Rule) (bd.take bd.length)) (Fx.iter (St.edges p) k (St.zeros p.arity.length))) := by
                show _ = _
                rw [HTK.out, St.edgesOf_snoc, List.take_length]
                rfl
              obtain ⟨rf, hrf⟩ : ∃ rf, rf = decide (Fx.round (St.edgesOf (p.rules.take i) ++ St.litE (⟨pr, ts, fo, bd, vs⟩ : Sc.Rule) (bd.take bd.length)) (Fx.iter (St.edges p) k (St.zeros p.arity.length)) ≠ (Fx.iter (St.edges p) k (St.zeros p.arity.length))) := ⟨_, rfl⟩
              rw [← hrf]
              have HRF : Hid _ := hrf
              clear hrf
              go_wp2_with fail
              go_roundw
              case rel => exact ⟨i + 1, hil, by rw [HEN.out, HRF.out], by go_num, by rw [HEN.out]; exact HL3.out⟩
              case measure => simp [intOf]; omega
        · obtain rfl : i = p.rules.length := by omega
          have HEN : Hid (Fx.iter (St.edges p) (k + 1) (St.zeros p.arity.length) = Fx.round (St.edgesOf (p.rules.take p.rules.length)) (Fx.iter (St.edges p) k (St.zeros p.arity.length))) := by
            show _ = _
            rw [Fx.iter_succ, List.take_length]
            rfl
          obtain ⟨rf, hrf⟩ : ∃ rf, rf = decide (Fx.round (St.edgesOf (p.rules.take p.rules.length)) (Fx.iter (St.edges p) k (St.zeros p.arity.length)) ≠ (Fx.iter (St.edges p) k (St.zeros p.arity.length))) := ⟨_, rfl⟩
          rw [← hrf]
          have HRF : Hid _ := hrf
          clear hrf
          go_wp2_with fail
          go_roundw
          case rel => exact ⟨k + 1, by omega, by rw [if_neg (Nat.succ_ne_zero k), Nat.add_sub_cancel, HEN.out, HRF.out], by go_num, by rw [HEN.out]; exact HL.out.re HL2.out⟩
          case measure => simp [intOf]; omega
    · have hkd : decide (k ≤ p.arity.length) = false := decide_eq_false hkn
      obtain rfl : k = p.arity.length + 1 := by omega
      have HFL : Hid (St.flat p = !(if p.arity.length + 1 = 0 then false else decide (Fx.iter (St.edges p) (p.arity.length + 1) (St.zeros p.arity.length) ≠ Fx.iter (St.edges p) (p.arity.length + 1 - 1) (St.zeros p.arity.length)))) := by
        show _ = _
        rw [if_neg (Nat.succ_ne_zero _), Nat.add_sub_cancel, Fx.iter_succ]
        unfold St.flat St.level
        simp
      generalize (if p.arity.length + 1 = 0 then false else decide (Fx.iter (St.edges p) (p.arity.length + 1) (St.zeros p.arity.length) ≠ Fx.iter (St.edges p) (p.arity.length + 1 - 1) (St.zeros p.arity.length))) = ro at *
      go_wp2_with fail
      refine bodyPost_ret (results_tmp2 rfl _ _ _) rfl ⟨_, Fx.iter (St.edges p) (p.arity.length + 1) (St.zeros p.arity.length), by rw [HFL.out]; rfl, ?_, fun hf => ?_, (HPB.out wk HL.out.gr).2⟩
      · have h9 := intRow_ints p.arity.length HL.out.row
        rw [Fx.iter_length, show (St.zeros p.arity.length).length = p.arity.length by simp [St.zeros]] at h9
        exact h9
      · rw [Fx.iter_succ]
        exact of_decide_eq_true hf

end Go.Proofs.YthenjegmigeieaaGreat

/- The document's NeedsOf. -/
namespace Go.Proofs.YthenjegmigeieaaGreat
open Go.RowKit

namespace St
def litN (r : Sc.Rule) (l : List Sc.Lit) : List Fx.Edge := (l.filter hang).map fun x => (x.pred.toNat, r.pred.toNat, 0)
theorem litN_yes (r : Sc.Rule) (l : List Sc.Lit) {x : Sc.Lit} (h : hang x = true) : litN r (l ++ [x]) = litN r l ++ [(x.pred.toNat, r.pred.toNat, 0)] := by
  unfold litN
  rw [List.filter_append, List.map_append, List.filter_cons, if_pos h]
  rfl
theorem litN_no (r : Sc.Rule) (l : List Sc.Lit) {x : Sc.Lit} (h : ¬ hang x = true) : litN r (l ++ [x]) = litN r l := by
  unfold litN
  rw [List.filter_append, List.map_append, List.filter_cons, if_neg h]
  simp
theorem litN_none (r : Sc.Rule) (l : List Sc.Lit) {s : List Bool} (h : s.getD r.pred.toNat false = false) : nround (litN r l) s = s := by
  unfold litN
  induction l.filter hang with
  | nil => rfl
  | cons x l ih =>
    rw [List.map_cons]
    show nround _ (nstep s _) = s
    have h1 : nstep s (x.pred.toNat, r.pred.toNat, 0) = s := by unfold nstep; rw [if_neg (by rw [h]; simp)]
    rw [h1]
    exact ih
end St
/-- The row of truths, and all else as it was. -/
structure BRow (w : World) (LB : Nat) (W : World) (cur : List Bool) : Prop where
  row : W.heap[LB]? = some (.cells (boolRow cur) 4)
  gr : w.grownBy W (some LB)
theorem BRow.below {w W W' : World} {LB : Nat} {cur : List Bool} (h : BRow w LB W cur) (hb : Below W.heap.size W W') : BRow w LB W' cur :=
  ⟨(hb.block _ (Array.getElem?_eq_some_iff.mp h.row).1).trans h.row, ⟨hb.os.trans h.gr.os, hb.tape.trans h.gr.tape, hb.output.trans h.gr.output, Nat.le_trans h.gr.size hb.size, fun j hj hn => (hb.block j (Nat.lt_of_lt_of_le hj h.gr.size)).trans (h.gr.block j hj hn)⟩⟩
theorem BRow.set {w W : World} {LB : Nat} {cur : List Bool} (h : BRow w LB W cur) (i : Nat) (v : Bool) : BRow w LB (W.setCell ⟨LB, i, none⟩ (.bool v)) (cur.set i v) := by
  refine ⟨boolRow_set h.row i v, ⟨h.gr.os, h.gr.tape, h.gr.output, by have := h.gr.size; simpa using this, fun j hj hn => ?_⟩⟩
  have hjl : ¬ j = LB := fun e => hn (by rw [e])
  exact (heap_set_other hjl).trans (h.gr.block j hj hn)
theorem BRow.re {w w' W : World} {LB : Nat} {cur cur' : List Bool} (h : BRow w LB w' cur) (k : BRow w' LB W cur') : BRow w LB W cur' := ⟨k.row, h.gr.trans_row k.gr⟩
theorem BRow.here {w W : World} {LB : Nat} {cur : List Bool} (h : BRow w LB W cur) : BRow W LB W cur := ⟨h.row, ⟨rfl, rfl, rfl, Nat.le_refl _, fun _ _ _ => rfl⟩⟩
theorem grown_set {W : World} {LB : Nat} (i : Nat) (v : Value) : W.grownBy (W.setCell ⟨LB, i, none⟩ v) (some LB) := by
  refine ⟨rfl, rfl, rfl, by simp, fun j hj hn => ?_⟩
  have hjl : ¬ j = LB := fun e => hn (by rw [e])
  exact heap_set_other hjl

end Go.Proofs.YthenjegmigeieaaGreat

/- A region by a table whose last operations come one behind the other, behind all others, and may change anything (append, then a store). -/
namespace Go.Proofs.YthenjegmigeieaaGreat
open Go.RowKit

/-- Does operation i wait for j, by some steps? -/
def reach (ops : Array Oper) : Nat → Nat → Nat → Bool
  | 0, _, _ => false
  | f + 1, i, j => ((ops[i]?).map fun o => o.after.toList.any fun e => Region.binds .any e && (e.on == j || reach ops f e.on j)).getD false
def Closed (ops : Array Oper) (s : Array Bool) : Prop := ∀ (i : Nat) (o : Oper), s[i]? = some true → ops[i]? = some o → ∀ e, e ∈ o.after → Region.binds .any e = true → s[e.on]? = some true
theorem reach_done {ops : Array Oper} {s : Array Bool} (hC : Closed ops s) : ∀ (f i j : Nat) (o : Oper), ops[i]? = some o → (∀ e, e ∈ o.after → Region.binds .any e = true → s[e.on]? = some true) → reach ops f i j = true → s[j]? = some true
  | 0, _, _, _, _, _, h => by cases h
  | f + 1, i, j, o, ho, hd, h => by
    unfold reach at h
    rw [ho, Option.map_some, Option.getD_some] at h
    obtain ⟨e, he, h2⟩ := List.any_eq_true.mp h
    rw [Bool.and_eq_true, Bool.or_eq_true] at h2
    have hse := hd e (by simpa using he) h2.1
    rcases h2.2 with h3 | h3
    · have h3 : e.on = j := by simpa using h3
      rw [← h3]; exact hse
    · cases hoe : ops[e.on]? with
      | none =>
        cases f with
        | zero => cases h3
        | succ f => unfold reach at h3; rw [hoe] at h3; cases h3
      | some oe => exact reach_done hC f e.on j oe hoe (fun e' he' hb' => hC e.on oe hse hoe e' he' hb') h3
/-- The tail waits for all ahead of it, one by one. -/
def tailFine (ops : Array Oper) (L : Nat) : Bool := (List.range L).all (fun j => reach ops 12 L j) && (List.range ops.size).all fun i => !decide (L < i) || reach ops 12 i (i - 1)
structure OpInT (ops : Array Oper) (T : Nat → Value → World → Prop) (a0 : Act) (w0 : World) (L : Nat) (a : Act) (w : World) : Prop where
  below : Below w0.heap.size w0 w
  defers : a.defers = a0.defers
  size : a.tmps.size = a0.tmps.size
  still : ∀ t, t ∉ ops.toList.filterMap (·.dst) → a.tmps.getD t undef = a0.tmps.getD t undef
  all : ∀ (i : Nat) (o : Oper) (t : Nat), i < L → ops[i]? = some o → o.dst = some t → T t (a.tmps.getD t undef) w

section
variable {P : Program} {ops : Array Oper} {Q : Exit → Act → World → Prop}
theorem wp_region_tail (T : Nat → Value → World → Prop) (L : Nat) {id : Nat} {a0 : Act} {w0 : World} (hL : L < ops.size) (htf : tailFine ops L = true) (hm : P.follows .mixedOrders = true)
    (hf : tabFine ops a0.tmps.size = true)
    (hmono : ∀ t v w w', Below w.heap.size w w' → T t v w → T t v w')
    (hop : AllOps (fun o => ∀ a w, OpIn ops T a0 w0 o a w → OpOk P ops Q T o a w) (ops.toList.take L))
    (htail : ∀ a w, OpInT ops T a0 w0 L a w → wpOps P ops Q (List.range' L (ops.size - L)) a w) :
    (Code.region id ops true).wp P Q a0 w0 := by
  unfold tailFine at htf
  rw [Bool.and_eq_true] at htf
  have ht1 : ∀ j, j < L → reach ops 12 L j = true := fun j hj => List.all_eq_true.mp htf.1 j (List.mem_range.mpr hj)
  have ht2 : ∀ i, i < ops.size → L < i → reach ops 12 i (i - 1) = true := fun i hi hLi => by
    have h := List.all_eq_true.mp htf.2 i (List.mem_range.mpr hi)
    rw [decide_eq_true hLi] at h
    simpa using h
  unfold tabFine at hf
  rw [Bool.and_eq_true, Bool.and_eq_true] at hf
  obtain ⟨⟨hnd, hlt⟩, hah⟩ := hf
  have hnd := of_decide_eq_true hnd
  have hlt' : ∀ t, t ∈ ops.toList.filterMap (·.dst) → t < a0.tmps.size := fun t ht => of_decide_eq_true (List.all_eq_true.mp hlt t ht)
  have hah' : ∀ (i : Nat) (o : Oper), ops[i]? = some o → ∀ e, e ∈ o.after → e.on < i := fun i o ho e he => by
    have hi : i < ops.size := (Array.getElem?_eq_some_iff.mp ho).1
    have h := List.all_eq_true.mp hah i (List.mem_range.mpr hi)
    rw [ho, Option.map_some, Option.getD_some] at h
    exact of_decide_eq_true (List.all_eq_true.mp h e (by simpa using he))
  refine wp_region_inv (fun s a w => (s.size = ops.size ∧ Closed ops s) ∧ (((∀ i, L ≤ i → i < ops.size → s[i]? = some false) ∧ Tabbed ops T a0 w0 s a w) ∨
    (∃ m, L ≤ m ∧ m ≤ ops.size ∧ (∀ i, i < m → s[i]? = some true) ∧ (∀ i, m ≤ i → i < ops.size → s[i]? = some false) ∧ wpOps P ops Q (List.range' m (ops.size - m)) a w))) hm ?_ ?_ ?_
  · rintro s a w hr ⟨⟨hs, hC⟩, hI⟩
    have hall : ∀ n : Nat, n ≤ ops.size → ∀ i : Nat, i < n → s[i]? = some true := by
      intro n
      induction n with
      | zero => intro _ i hi; exact absurd hi (Nat.not_lt_zero _)
      | succ n ih =>
        intro hn i hi
        have ih := ih (by omega)
        by_cases hin : i < n
        · exact ih i hin
        · have hin : i = n := by omega
          subst hin
          cases hsi : s[i]? with
          | none => rw [Array.getElem?_eq_none_iff] at hsi; omega
          | some b =>
            cases b with
            | true => rfl
            | false =>
              exfalso
              have hio : i < ops.size := by omega
              have : i ∈ Region.ready .any ops s := by
                unfold Region.ready
                refine List.mem_filter.mpr ⟨List.mem_range.mpr hio, ?_⟩
                rw [Bool.and_eq_true]
                refine ⟨by simp [Array.getD_eq_getD_getElem?, hsi], ?_⟩
                have ho : ops[i]? = some ops[i] := Array.getElem?_eq_getElem hio
                rw [ho, Option.map_some, Option.getD_some, Array.all_eq_true_iff_forall_mem]
                intro e he
                have h1 := ih e.on (hah' i _ ho e he)
                simp [Array.getD_eq_getD_getElem?, h1]
              rw [hr] at this
              exact absurd this (by simp)
    have hd := hall ops.size (Nat.le_refl _)
    rcases hI with ⟨hF, _⟩ | ⟨m, _, hm1, _, hF, hW⟩
    · have h1 := hF L (Nat.le_refl _) hL
      rw [hd L hL] at h1
      cases h1
    · by_cases hme : m = ops.size
      · subst hme
        rw [Nat.sub_self] at hW
        exact hW
      · have h1 := hF m (Nat.le_refl _) (by omega)
        rw [hd m (by omega)] at h1
        cases h1
  · rintro s a w i hi ⟨⟨hs, hC⟩, hI⟩
    obtain ⟨hsi, o, ho, haf⟩ := ready_mem hi
    have his : i < ops.size := (Array.getElem?_eq_some_iff.mp ho).1
    have hup : ∀ j, s[j]? = some true → (s.setIfInBounds i true)[j]? = some true := fun j hj => by
      rw [Array.getElem?_setIfInBounds]
      by_cases hij : i = j
      · rw [if_pos hij, if_pos (by omega)]
      · rw [if_neg hij]; exact hj
    have hss : (s.setIfInBounds i true).size = ops.size ∧ Closed ops (s.setIfInBounds i true) := by
      refine ⟨by simp [hs], fun i' o' hi' ho' e he hb => ?_⟩
      by_cases hii : i = i'
      · subst hii
        rw [ho] at ho'
        cases ho'
        exact hup _ (haf e he hb)
      · rw [Array.getElem?_setIfInBounds, if_neg hii] at hi'
        exact hup _ (hC i' o' hi' ho' e he hb)
    have go : ∀ m, L ≤ m → m < ops.size → i = m → (∀ j, j < m → s[j]? = some true) → (∀ j, m ≤ j → j < ops.size → s[j]? = some false) → wpOps P ops Q (List.range' m (ops.size - m)) a w →
        wpOp P ops Q i (fun a' w' => ((s.setIfInBounds i true).size = ops.size ∧ Closed ops (s.setIfInBounds i true)) ∧ (((∀ j, L ≤ j → j < ops.size → (s.setIfInBounds i true)[j]? = some false) ∧ Tabbed ops T a0 w0 (s.setIfInBounds i true) a' w') ∨
          (∃ m, L ≤ m ∧ m ≤ ops.size ∧ (∀ j, j < m → (s.setIfInBounds i true)[j]? = some true) ∧ (∀ j, m ≤ j → j < ops.size → (s.setIfInBounds i true)[j]? = some false) ∧ wpOps P ops Q (List.range' m (ops.size - m)) a' w'))) a w := by
      intro m hLm hms him hT hF hW
      subst him
      obtain ⟨d, hd⟩ : ∃ d, ops.size - i = d + 1 := ⟨ops.size - i - 1, by omega⟩
      rw [hd, List.range'_succ, wpOps_cons] at hW
      refine wpOp_mono (fun a' w' h' => ⟨hss, .inr ⟨i + 1, by omega, by omega, fun j hj => ?_, fun j hj hjs => ?_, ?_⟩⟩) hW
      · by_cases hji : j = i
        · subst hji
          rw [Array.getElem?_setIfInBounds, if_pos rfl, if_pos (by omega)]
        · exact hup j (hT j (by omega))
      · rw [Array.getElem?_setIfInBounds, if_neg (by omega)]
        exact hF j (by omega) hjs
      · rw [show ops.size - (i + 1) = d by omega]
        exact h'
    rcases hI with ⟨hF, hI⟩ | ⟨m, hLm, hm1, hT, hF, hW⟩
    · by_cases hiL : L ≤ i
      · have hiL2 : i = L := by
          rcases Nat.lt_or_ge L i with h | h
          · have h1 := reach_done hC 12 i (i - 1) o ho haf (ht2 i his h)
            rw [hF (i - 1) (by omega) (by omega)] at h1
            cases h1
          · omega
        subst hiL2
        have hdn : ∀ j, j < i → s[j]? = some true := fun j hj => reach_done hC 12 i j o ho haf (ht1 j hj)
        exact go i (Nat.le_refl _) his rfl hdn (fun j hj hjs => hF j hj hjs) (htail a w ⟨hI.below, hI.defers, hI.size, hI.still, fun j oj t hj hoj hd => hI.done j oj t (hdn j hj) hoj hd⟩)
      · have hop' : OpOk P ops Q T o a w := by
          refine AllOps.mem _ hop o ?_ a w ⟨hI.below, hI.still, fun e he hb o' t ho' hd => hI.done e.on o' t (haf e he hb) ho' hd⟩
          rw [← Array.getElem?_toList] at ho
          refine List.mem_of_getElem? (i := i) ?_
          rw [List.getElem?_take, if_pos (by omega)]
          exact ho
        have hset : ∀ {v : Value} {w' : World}, (∀ t, o.dst = some t → T t v w') → Below w.heap.size w w' → Tabbed ops T a0 w0 (s.setIfInBounds i true) (a.put o.dst v) w' := by
          intro v w' hv hb
          refine ⟨hI.below.trans (hb.mono hI.below.size), by rw [put_defers]; exact hI.defers, by rw [put_size]; exact hI.size, fun t ht => ?_, fun j oj t hj hoj hd => ?_⟩
          · cases hd : o.dst with
            | none => exact hI.still t ht
            | some u =>
              have hne : t ≠ u := fun h => ht (h ▸ dst_mem ho hd)
              rw [put_get_ne hne]
              exact hI.still t ht
          · by_cases hij : j = i
            · subst hij
              rw [ho] at hoj
              cases hoj
              rw [hd, put_get_self (by rw [hI.size]; exact hlt' t (dst_mem ho hd))]
              exact hv t hd
            · have hj' : s[j]? = some true := by
                rw [Array.getElem?_setIfInBounds, if_neg (fun h => hij h.symm)] at hj
                exact hj
              have h1 := hmono t _ w w' hb (hI.done j oj t hj' hoj hd)
              cases hd2 : o.dst with
              | none => exact h1
              | some u =>
                have hne : t ≠ u := fun h => hij (dst_inj ops.toList hnd j i oj o t (by rw [Array.getElem?_toList]; exact hoj) (by rw [Array.getElem?_toList]; exact ho) hd (h ▸ hd2))
                rw [put_get_ne hne]
                exact h1
        have hF' : ∀ j, L ≤ j → j < ops.size → (s.setIfInBounds i true)[j]? = some false := fun j hj hjs => by
          rw [Array.getElem?_setIfInBounds, if_neg (by omega)]
          exact hF j hj hjs
        unfold OpOk at hop'
        unfold wpOp
        rw [ho]
        dsimp only
        by_cases hw : Region.wanted o (yielded ops a.tmps) = true
        · rw [if_pos hw] at hop' ⊢
          refine hop'.imp (Oper.wp_mono ?_) (fun h => h)
          rintro a' w' ⟨v, rfl, hv, hb⟩
          exact ⟨hss, .inl ⟨hF', hset hv hb⟩⟩
        · rw [if_neg hw] at hop' ⊢
          exact ⟨hss, .inl ⟨hF', hset hop' (Below.refl _ _)⟩⟩
    · have him : m ≤ i := by
        rcases Nat.lt_or_ge i m with h | h
        · have h1 := hT i h
          rw [hsi] at h1
          cases h1
        · exact h
      have him2 : i = m := by
        rcases Nat.lt_or_ge m i with h | h
        · have h1 := reach_done hC 12 i (i - 1) o ho haf (ht2 i his (by omega))
          rw [hF (i - 1) (by omega) (by omega)] at h1
          cases h1
        · omega
      exact go m hLm (by omega) him2 hT hF hW
  · refine ⟨⟨by simp, fun i o h => ?_⟩, .inl ⟨fun i _ hi => ?_, ⟨⟨rfl, rfl, rfl, Nat.le_refl _, fun _ _ => rfl⟩, rfl, rfl, fun _ _ => rfl, fun i o t h _ _ => ?_⟩⟩⟩
    · rw [Array.getElem?_replicate] at h
      split at h <;> simp at h
    · rw [Array.getElem?_replicate, if_pos hi]
    · rw [Array.getElem?_replicate] at h
      split at h <;> simp at h
end

end Go.Proofs.YthenjegmigeieaaGreat

/- Rules in a row of one's own; sameBools; single operations behind a region. -/
namespace Go.Proofs.YthenjegmigeieaaGreat
open Go.RowKit

abbrev Rv := Sc.Rule × Value × Value
def rvCells (p : Rv) : List Value := [.int .i64 p.1.pred, p.2.1, .int .i64 p.1.fold, p.2.2, .int .i64 p.1.vars]
def rCells (q : List Rv) : List Value := (q.map rvCells).flatten
theorem rules_toV {W : World} {B : Nat} {v : Value} {q : List Rv} (h : W.ownsRow B 40 5 v q.length (rCells q)) (hq : ∀ p, p ∈ q → PTermsV W p.2.1 p.1.terms ∧ PLitsV W p.2.2 p.1.body) : PRulesV W v (q.map (·.1)) := by
  obtain ⟨ao, cap, rfl, hle, hc⟩ := own_cells h
  refine ⟨ao, cap, by rw [List.length_map], ?_⟩
  rcases hc with h0 | ⟨g, rfl, hc⟩
  · exact .inl (by rw [List.length_eq_zero_iff.mp h0]; rfl)
  · refine .inr ⟨g, 0, rfl, fun i hi => ?_⟩
    rw [List.length_map] at hi
    have hl : q[i]? = some q[i] := List.getElem?_eq_getElem hi
    have hd : Sc.ruleD (q.map (·.1)) i = q[i].1 := by unfold Sc.ruleD; simp [hi]
    rw [hd]
    have hat := fun t ht => flat_at rvCells 5 (fun _ => rfl) q i _ t hl ht
    have hm := hq _ (List.getElem_mem hi)
    have each : ∀ t u, t < 5 → (rvCells q[i])[t]? = some u → W.cell? ⟨g, 0 + i * 5 + t, none⟩ = some u := fun t u ht hu => by
      have := hc (i * 5 + t) (by omega)
      rw [Nat.zero_add]
      exact (this.trans (hat t ht)).trans hu
    exact ⟨each 0 _ (by decide) rfl, ⟨q[i].2.1, each 1 _ (by decide) rfl, hm.1⟩, each 2 _ (by decide) rfl, ⟨q[i].2.2, each 3 _ (by decide) rfl, hm.2⟩, each 4 _ (by decide) rfl⟩

section
variable {P : Program} {ops : Array Oper} {Q : Exit → Act → World → Prop} {i : Nat} {o : Oper} {K : Act → World → Prop} {a : Act} {w w' : World}
theorem wpOp_val {v : Value} (ho : ops[i]? = some o) (hw : Region.wanted o (yielded ops a.tmps) = true) (hr : (execOp a.eval o).run P w = .ok (.value v) w') (h : K (a.put o.dst v) w') : wpOp P ops Q i K a w := by
  unfold wpOp
  rw [ho]
  dsimp only
  rw [if_pos hw]
  left
  unfold Oper.wp
  rw [hr, Oper.upon_value]
  exact h
theorem wpOp_void (ho : ops[i]? = some o) (hw : Region.wanted o (yielded ops a.tmps) = true) (hd : o.dst = none) (hr : (execOp a.eval o).run P w = .ok .skip w') (h : K a w') : wpOp P ops Q i K a w := by
  unfold wpOp
  rw [ho]
  dsimp only
  rw [if_pos hw]
  left
  unfold Oper.wp
  rw [hr, Oper.upon_skip, hd]
  exact h
theorem wpOp_wp (ho : ops[i]? = some o) (hw : Region.wanted o (yielded ops a.tmps) = true) (h : o.wp P a w K Q) : wpOp P ops Q i K a w := by
  unfold wpOp
  rw [ho]
  dsimp only
  rw [if_pos hw]
  exact .inl h
end

end Go.Proofs.YthenjegmigeieaaGreat

/- The document's FocusOf. -/
namespace Go.Proofs.YthenjegmigeieaaGreat
open Go.RowKit

theorem st_info65 : (Tryz.prog.info? 40).map (fun i => (i.zero, i.size, i.bytes)) = some (some (.agg #[.int .i64 0, .slice none 0 0, .int .i64 0, .slice none 0 0, .int .i64 0]), 5, 72) := by kernel_rfl

/-- What the temporaries hold where a rule is put behind the others. -/
def focV (FB X b off k : Nat) (UR VR : Value) (RC : Array Value) (t : Nat) (v : Value) : Prop :=
  match t with
  | 32 => v = .pointer (some ⟨FB, 2, none⟩)
  | 33 => v = UR
  | 34 => v = .pointer (some ⟨X, 2, none⟩)
  | 35 => v = VR
  | 36 => v = .int .i64 k
  | 37 => v = .pointer (some ⟨b, off + k * 5, none⟩)
  | 38 => v = .agg RC
  | _ => True
def focT (FB X b off k : Nat) (UR VR : Value) (RC : Array Value) (t : Nat) (v : Value) (W : World) : Prop :=
  if t = 39 then ∃ b', v = .slice (some ⟨b', 0, none⟩) 1 1 ∧ W.heap[b']? = some (.cells RC 40) else focV FB X b off k UR VR RC t v
theorem focT_mono (FB X b off k : Nat) (UR VR : Value) (RC : Array Value) (t : Nat) (v : Value) (W W' : World) (hb : Below W.heap.size W W') (h : focT FB X b off k UR VR RC t v W) : focT FB X b off k UR VR RC t v W' := by
  unfold focT at h ⊢
  by_cases ht : t = 39
  · rw [if_pos ht] at h ⊢
    obtain ⟨b', h1, h2⟩ := h
    exact ⟨b', h1, (hb.block b' (Array.getElem?_eq_some_iff.mp h2).1).trans h2⟩
  · rw [if_neg ht] at h ⊢
    exact h
theorem row_news {W : World} {b' : Nat} {RC : Array Value} {t : TypeId} (h : W.heap[b']? = some (.cells RC t)) : ∀ j u, RC.toList[j]? = some u → W.cell? ((⟨b', 0, none⟩ : Addr).add j) = some u := by
  intro j u hj
  rw [Addr.add_lit, Nat.zero_add, Lib.cell_of_heap h, ← Array.getElem?_toList]
  exact hj

end Go.Proofs.YthenjegmigeieaaGreat

