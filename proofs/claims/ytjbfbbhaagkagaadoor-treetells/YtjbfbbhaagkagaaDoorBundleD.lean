/- Own texts, one behind the other (part 4). -/
import Derived.Test.YtjbfbbhaagkagaaDoorBundleC
import Derived.Test.YtjbfbbhaagkagaaDoorRows
import Derived.Test.YtjbfbbhaagkagaaDoorCards
import Derived.Test.YtjbfbbhaagkagaaDoorTie
import Derived.Deep.QuietTactic
import Derived.BigQuiet
import Derived.Deep.RegionHeld3
import Derived.RegionDies
import Derived.LaidLaws
/- The parser, whole. -/
namespace Go.Proofs.YtjbfbbhaagkagaaDoor
open Go.RowKit

/-- What parse leaves. -/
def ParseEnd (L : List Tk.Tok) (en : Int) (w : World) (e : Ending) (w' : World) : Prop := match Pr.rules en L.length [] L with
  | .inl a => e = .returned (.tuple #[.agg #[.slice none 0 0], .int .i64 a, .int .i64 1]) ∧ Below w.heap.size w w'
  | .inr t => ∃ v, e = .returned (.tuple #[.agg #[v], .int .i64 0, .int .i64 0]) ∧ RulesP w.heap.size w' v t ∧ Below w.heap.size w w'

/-- parse under way: its results' blocks, the parser's, the rules so far. -/
structure PInv (w wr : World) (L : List Tk.Tok) (en : Int) (r : List Tk.Tok) (v : Value) (q : List (Tr.Rule × Value × Value)) : Prop where
  bel : Below w.heap.size w wr
  tre : wr.heap[w.heap.size]? = some (.cells #[v] 25)
  plc : wr.heap[w.heap.size + 1]? = some (.cells #[.int .i64 0] 3)
  err : wr.heap[w.heap.size + 2]? = some (.cells #[.int .i64 0] 26)
  par : At wr (w.heap.size + 3) L en r
  own : wr.ownsRow (w.heap.size + 4) 40 5 v q.length (q.map ruleCells).flatten
  rls : ∀ p, p ∈ q → TermsP (w.heap.size + 4) wr p.2.1 p.1.terms ∧ LitsP (w.heap.size + 4) wr p.2.2 p.1.body

section
variable {w wr w' wr' : World} {L : List Tk.Tok} {en : Int} {r r' : List Tk.Tok} {v : Value} {q : List (Tr.Rule × Value × Value)}
theorem PInv.sz (h : PInv w wr L en r v q) : w.heap.size + 4 ≤ wr.heap.size := h.par.lt
theorem below_grown {B P : Nat} {a b c : World} (h : Below B a b) (hg : b.grownBy c (some P)) (hP : B ≤ P) (hs : B ≤ b.heap.size) : Below B a c :=
  ⟨hg.os.trans h.os, hg.tape.trans h.tape, hg.output.trans h.output, Nat.le_trans h.size hg.size, fun k hk => (hg.block k (by omega) (by intro e; injection e; omega)).trans (h.block k hk)⟩
theorem PInv.on (h : PInv w wr L en r v q) (hW : Went wr w' (w.heap.size + 3) L en r') : PInv w w' L en r' v q := by
  have hs := h.sz
  exact { bel := below_grown h.bel hW.1 (by omega) (by omega)
          tre := (hW.1.block _ (heap_lt h.tre) (by intro e; injection e; omega)).trans h.tre
          plc := (hW.1.block _ (heap_lt h.plc) (by intro e; injection e; omega)).trans h.plc
          err := (hW.1.block _ (heap_lt h.err) (by intro e; injection e; omega)).trans h.err
          par := hW.2
          own := ownsRow_grown h.own hW.1 (by omega)
          rls := fun p hp => ⟨(h.rls p hp).1.keep (keeps_grown _ hW.1 (by omega)), (h.rls p hp).2.keep (keeps_grown _ hW.1 (by omega))⟩ }
theorem PInv.below (h : PInv w wr L en r v q) (hb : Below wr.heap.size wr w') : PInv w w' L en r v q := h.on ⟨grownBy_of_below hb _, h.par.below hb⟩
theorem PInv.on2 (h : PInv w wr L en r v q) (hW : Went wr' w' (w.heap.size + 3) L en r') (hb : Below wr.heap.size wr wr') : PInv w w' L en r' v q := (h.below hb).on hW
theorem PInv.cells (h : PInv w wr L en r v q) : wr.cell? ⟨w.heap.size, 0, none⟩ = some v ∧ wr.cell? ⟨w.heap.size + 1, 0, none⟩ = some (.int .i64 0) ∧ wr.cell? ⟨w.heap.size + 2, 0, none⟩ = some (.int .i64 0) ∧
    wr.frozen? ⟨w.heap.size, 0, none⟩ = false ∧ wr.frozen? ⟨w.heap.size + 1, 0, none⟩ = false ∧ wr.frozen? ⟨w.heap.size + 2, 0, none⟩ = false :=
  ⟨by rw [Lib.cell_of_heap h.tre]; rfl, by rw [Lib.cell_of_heap h.plc]; rfl, by rw [Lib.cell_of_heap h.err]; rfl, by simp [World.frozen?, h.tre], by simp [World.frozen?, h.plc], by simp [World.frozen?, h.err]⟩
theorem PInv.app {w3 : World} (h : PInv w wr L en r v q) (hg : wr.grownBy w3 v.ownBlock) : w3.cell? ⟨w.heap.size, 0, none⟩ = some v ∧ w3.frozen? ⟨w.heap.size, 0, none⟩ = false := by
  have e1 := (hg.block _ (heap_lt h.tre) (fun he => by have := (h.own.lt _ he.symm).1; omega)).trans h.tre
  exact ⟨by rw [Lib.cell_of_heap e1]; rfl, by simp [World.frozen?, e1]⟩
theorem PInv.put {w3 : World} {v' : Value} {p : Tr.Rule × Value × Value} (h : PInv w wr L en r v q) (hg : wr.grownBy w3 v.ownBlock) (hT : TermsP (w.heap.size + 4) wr p.2.1 p.1.terms) (hL : LitsP (w.heap.size + 4) wr p.2.2 p.1.body)
    (hown : w3.ownsRow (w.heap.size + 4) 40 5 v' (q.length + 1) ((q.map ruleCells).flatten ++ ruleCells p)) : PInv w (w3.setCell ⟨w.heap.size, 0, none⟩ v') L en r v' (q ++ [p]) := by
  have hs := h.sz
  have hne : ∀ i, i < w.heap.size + 4 → some i ≠ v.ownBlock := fun i hi he => by have := (h.own.lt i he.symm).1; omega
  have hk : Keeps (w.heap.size + 4) wr w3 (fun e => e = 76 ∨ e = 42) := keeps_own hg h.own (by decide)
  have e1 := (hg.block _ (heap_lt h.tre) (hne _ (by omega))).trans h.tre
  exact { bel := (h.bel.grown hg (by omega) (fun k hk => by have := (h.own.lt k hk).1; omega)).setCell (p := ⟨w.heap.size, 0, none⟩) (Nat.le_refl _) _
          tre := by simp [World.setCell, Array.getElem?_modify, e1]
          plc := (Below.heap_setCell _ _ _ _ (show ¬ w.heap.size + 1 = w.heap.size by omega)).trans ((hg.block _ (heap_lt h.plc) (hne _ (by omega))).trans h.plc)
          err := (Below.heap_setCell _ _ _ _ (show ¬ w.heap.size + 2 = w.heap.size by omega)).trans ((hg.block _ (heap_lt h.err) (hne _ (by omega))).trans h.err)
          par := h.par.keep2 fun k hk => (Below.heap_setCell _ _ _ _ (show ¬ k = w.heap.size by omega)).trans (hg.block k (by omega) (hne k (by omega)))
          own := ownsRow_setCell_below (by simpa using hown) (by simp) _
          rls := by
            intro p' hp'
            rw [List.mem_append, List.mem_singleton] at hp'
            rcases hp' with hp' | rfl
            · exact ⟨((h.rls p' hp').1.keep (hk.mono fun _ h => .inl h)).keep (keeps_set _ (by omega) _ _), ((h.rls p' hp').2.keep hk).keep (keeps_set _ (by omega) _ _)⟩
            · exact ⟨(hT.keep (hk.mono fun _ h => .inl h)).keep (keeps_set _ (by omega) _ _), (hL.keep hk).keep (keeps_set _ (by omega) _ _)⟩ }
end

end Go.Proofs.YtjbfbbhaagkagaaDoor

/- The parser, whole: its loop. -/
namespace Go.Proofs.YtjbfbbhaagkagaaDoor
open Go.RowKit

theorem A_info43 : (Tryd.prog.info? 40).map (fun i => (i.zero, i.size, i.bytes)) = some (some (.agg #[.int .i64 0, .string ⟨#[]⟩, .slice none 0 0, .int .i64 0, .slice none 0 0]), 5, 80) := by kernel_rfl
theorem news_rule (w : World) (x : Tr.Rule) (v u : Value) : ∀ j y, (ruleCells (x, v, u))[j]? = some y → (w.alloc (.cells #[.int .i64 x.at_, .string ⟨x.name.toArray⟩, v, .int .i64 x.fold, u] 40)).cell? ((⟨w.heap.size, 0, none⟩ : Addr).add j) = some y := World.news_of_block (heap_alloc_new w _)
theorem one_rule (x : Tr.Rule) (ao : Option Addr) (n c : Nat) (bo : Option Addr) (m d : Nat) : ∀ u ∈ ruleCells (x, .slice ao n c, .slice bo m d), u.oneCell' = true := by intro u hu; simp [ruleCells] at hu; rcases hu with rfl | rfl | rfl | rfl | rfl <;> rfl

theorem PInv.start {w : World} {L : List Tk.Tok} {en : Int} {ao : Option Addr} {cap : Nat} (hT : ToksAt w ao L) (hF : Fit L) :
    PInv w ((((w.alloc (.cells #[.slice none 0 0] 25)).alloc (.cells #[.int .i64 0] 3)).alloc (.cells #[.int .i64 0] 26)).alloc (.cells #[.slice ao L.length cap, .int .i64 0, .int .i64 en] 68)) L en L (.slice none 0 0) [] := by
  have b1 := (Below.refl w.heap.size w).alloc (Nat.le_refl _) (.cells #[.slice none 0 0] 25)
  have b2 := b1.alloc (by simp) (.cells #[.int .i64 0] 3)
  have b3 := b2.alloc (by simp; omega) (.cells #[.int .i64 0] 26)
  have b4 := b3.alloc (by simp; omega) (.cells #[.slice ao L.length cap, .int .i64 0, .int .i64 en] 68)
  have old : ∀ (u : World) (o x : Obj) (k : Nat), u.heap[k]? = some x → (u.alloc o).heap[k]? = some x := fun u o x k hk => (((Below.refl u.heap.size u).alloc (Nat.le_refl _) o).block k (heap_lt hk)).trans hk
  exact { bel := b4
          tre := old _ _ _ _ (old _ _ _ _ (old _ _ _ _ (heap_alloc_new w _)))
          plc := old _ _ _ _ (old _ _ _ _ (by have := heap_alloc_new (w.alloc (.cells #[.slice none 0 0] 25)) (.cells #[.int .i64 0] 3); simpa using this))
          err := old _ _ _ _ (by have := heap_alloc_new ((w.alloc (.cells #[.slice none 0 0] 25)).alloc (.cells #[.int .i64 0] 3)) (.cells #[.int .i64 0] 26); simpa using this)
          par := by
            refine ⟨0, Nat.zero_le _, rfl, hF, ao, cap, by have := heap_alloc_new (((w.alloc (.cells #[.slice none 0 0] 25)).alloc (.cells #[.int .i64 0] 3)).alloc (.cells #[.int .i64 0] 26)) (.cells #[.slice ao L.length cap, .int .i64 0, .int .i64 en] 68); simpa using this, ?_⟩
            rcases hT with h | ⟨b, off, rfl, hc⟩
            · exact .inl h
            · cases L with
              | nil => exact .inl rfl
              | cons t l =>
                refine .inr ⟨b, off, rfl, ?_, fun i hi => ⟨cell_below b4 (hc i hi).1, cell_below b4 (hc i hi).2.1, cell_below b4 (hc i hi).2.2⟩⟩
                have : b < w.heap.size := World.block_lt_of_cell? w _ (hc 0 (by simp)).1
                show b + 3 < w.heap.size + 3
                omega
          own := World.ownsRow_nil _ _ _ _
          rls := fun p hp => absurd hp (by simp) }

/-- Where parse gives up: what its deferred function leaves. -/
theorem parse_gives {w wr wr' w1 : World} {L : List Tk.Tok} {en : Int} {r : List Tk.Tok} {v : Value} {q : List (Tr.Rule × Value × Value)} (h : PInv w wr L en r v q) (hg : wr'.grownBy w1 (some (w.heap.size + 3))) (hb : Below wr.heap.size wr wr') (a : Int) (hX : Pr.rules en L.length [] L = .inl a) (tmps : Array Value)
    (h4 : tmps[4]? = some (.pointer (some ⟨w.heap.size, 0, none⟩))) (h5 : tmps[5]? = some (.pointer (some ⟨w.heap.size + 1, 0, none⟩))) (h6 : tmps[6]? = some (.pointer (some ⟨w.heap.size + 2, 0, none⟩))) :
    Leaves Tryd.prog Tryd.f11 tmps (ParseEnd L en w) [{ target := .fn (.func 21) #[.pointer (some ⟨w.heap.size, 0, none⟩), .pointer (some ⟨w.heap.size + 1, 0, none⟩), .pointer (some ⟨w.heap.size + 2, 0, none⟩)], args := #[] }]
      (.panicking [{ v := .iface 65 (.int .i64 a), recovered := false }]) w1 := by
  obtain ⟨d0, d1, d2, g0, g1, g2⟩ := (h.below hb).cells
  have hs := (h.below hb).sz
  have k0 := grownBy_cell hg (show ¬ w.heap.size = w.heap.size + 3 by omega) d0
  have k1 := grownBy_cell hg (show ¬ w.heap.size + 1 = w.heap.size + 3 by omega) d1
  have k2 := grownBy_cell hg (show ¬ w.heap.size + 2 = w.heap.size + 3 by omega) d2
  have z0 := (grownBy_frozen (o := 0) hg (show ¬ w.heap.size = w.heap.size + 3 by omega) (by omega)).trans g0
  have z1 := (grownBy_frozen (o := 0) hg (show ¬ w.heap.size + 1 = w.heap.size + 3 by omega) (by omega)).trans g1
  have z2 := (grownBy_frozen (o := 0) hg (show ¬ w.heap.size + 2 = w.heap.size + 3 by omega) (by omega)).trans g2
  refine leaves_cons (f := 21) (args := #[.pointer (some ⟨w.heap.size, 0, none⟩), .pointer (some ⟨w.heap.size + 1, 0, none⟩), .pointer (some ⟨w.heap.size + 2, 0, none⟩)]) (by simp) (by simp [go_sem]) ?_
  refine (catchP_panicking w.heap.size (w.heap.size + 1) (w.heap.size + 2) w.heap.size _ _ _ a [] w1 k0 z0 k1 z1 k2 z2 (Nat.le_refl _) (by omega) (by omega)).mono ?_
  rintro e u' w2 ⟨rfl, rfl, y0, y1, y2, hb2⟩
  have hres : (results Tryd.f11 tmps).run Tryd.prog w2 = .ok (.tuple #[.agg #[.slice none 0 0], .int .i64 a, .int .i64 1]) w2 := by
    simp [results, Tryd.results11, go_sem, h4, h5, h6, y0, y1, y2]
  refine ⟨_, hres, ?_⟩
  unfold ParseEnd
  rw [hX]
  exact ⟨rfl, (below_grown (h.below hb).bel hg (by omega) (by omega)).trans hb2⟩

end Go.Proofs.YtjbfbbhaagkagaaDoor

/- The parser, whole: its loop. -/
namespace Go.Proofs.YtjbfbbhaagkagaaDoor
open Go.RowKit

theorem lits_len (en : Int) : ∀ (f : Nat) (acc : List Tr.Lit) (r : List Tk.Tok) (x : List Tr.Lit × List Tk.Tok), Pr.lits en f acc r = .inr x → x.2.length < r.length := by
  intro f
  induction f with
  | zero => intro acc r x h; simp [Pr.lits] at h
  | succ f ih =>
    intro acc r x h
    cases hT : Pr.lit en r with
    | inl a => rw [lits_no hT] at h; simp at h
    | inr y =>
      have hl := lit_len hT
      rw [lits_yes hT] at h
      unfold Pr.after at h
      split at h
      · have := ih _ _ _ h
        have h2 : y.2.tail.length ≤ y.2.length := by simp
        omega
      · simp only [Sum.inr.injEq] at h
        subst h
        exact hl
theorem tailOf_len {at_ : Int} {nm : List UInt8} {l : List Tr.Term} {fo en : Int} {r : List Tk.Tok} {x : Tr.Rule × List Tk.Tok} (h : Pr.tailOf at_ nm l fo en r = .inr x) : x.2.length < r.length := by
  unfold Pr.tailOf at h
  cases hm : Pr.must [58, 45] en r with
  | inl a => rw [hm] at h; simp at h
  | inr r1 =>
    rw [hm] at h
    have h1 := must_len (by simp) hm
    simp only at h
    cases hM : Pr.lits en (r1.length + 1) [] r1 with
    | inl a => rw [hM] at h; simp at h
    | inr y =>
      rw [hM] at h
      have h2 := lits_len _ _ _ _ _ hM
      simp only at h
      cases hm2 : Pr.must [46] en y.2 with
      | inl a => rw [hm2] at h; simp at h
      | inr r3 =>
        rw [hm2] at h
        have h3 := must_len (by simp) hm2
        simp only [Sum.inr.injEq] at h
        subst h
        show r3.length < r.length
        omega
theorem rule_len {en : Int} {r : List Tk.Tok} {x : Tr.Rule × List Tk.Tok} (h : Pr.rule en r = .inr x) : x.2.length < r.length := by
  unfold Pr.rule at h
  cases hn : Pr.name en r with
  | inl a => rw [hn] at h; simp at h
  | inr y =>
    rw [hn] at h
    have h1 := name_len hn
    simp only at h
    cases hT : Pr.terms true en y.2 with
    | inl a => rw [hT] at h; simp at h
    | inr z =>
      rw [hT] at h
      have h2 := terms_len hT
      simp only at h
      split at h
      · simp only [Sum.inr.injEq] at h
        subst h
        have : z.2.tail.length ≤ z.2.length := by simp
        show z.2.tail.length < r.length
        omega
      · have := tailOf_len h
        omega

theorem rules_step {en : Int} {f : Nat} {acc : List Tr.Rule} {r : List Tk.Tok} (h : ¬ r = []) : Pr.rules en (f + 1) acc r = match Pr.rule en r with
    | .inl a => .inl a
    | .inr x => Pr.rules en f (acc ++ [x.1]) x.2 := by
  cases r with
  | nil => exact absurd rfl h
  | cons t l =>
    rw [Pr.rules]
    cases Pr.rule en (t :: l) <;> rfl

/-- Where parse comes to the tokens' end. -/
theorem parse_done {w wr : World} {L : List Tk.Tok} {en : Int} {r : List Tk.Tok} {v : Value} {q : List (Tr.Rule × Value × Value)} (h : PInv w wr L en r v q) (hX : Pr.rules en L.length [] L = .inr (q.map (·.1))) (tmps : Array Value)
    (h4 : tmps[4]? = some (.pointer (some ⟨w.heap.size, 0, none⟩))) (h5 : tmps[5]? = some (.pointer (some ⟨w.heap.size + 1, 0, none⟩))) (h6 : tmps[6]? = some (.pointer (some ⟨w.heap.size + 2, 0, none⟩))) :
    Leaves Tryd.prog Tryd.f11 tmps (ParseEnd L en w) [{ target := .fn (.func 21) #[.pointer (some ⟨w.heap.size, 0, none⟩), .pointer (some ⟨w.heap.size + 1, 0, none⟩), .pointer (some ⟨w.heap.size + 2, 0, none⟩)], args := #[] }]
      .returning (((wr.setCell ⟨w.heap.size, 0, none⟩ v).setCell ⟨w.heap.size + 1, 0, none⟩ (.int .i64 0)).setCell ⟨w.heap.size + 2, 0, none⟩ (.int .i64 0)) := by
  have hs := h.sz
  obtain ⟨c0, c1, c2, _, _, _⟩ := h.cells
  refine leaves_cons (f := 21) (args := #[.pointer (some ⟨w.heap.size, 0, none⟩), .pointer (some ⟨w.heap.size + 1, 0, none⟩), .pointer (some ⟨w.heap.size + 2, 0, none⟩)]) (by simp) (by simp [go_sem]) ?_
  refine (catchP_idle _ _ _ _).mono ?_
  rintro e u' w2 ⟨rfl, rfl, rfl⟩
  have hres : (results Tryd.f11 tmps).run Tryd.prog (((wr.setCell ⟨w.heap.size, 0, none⟩ v).setCell ⟨w.heap.size + 1, 0, none⟩ (.int .i64 0)).setCell ⟨w.heap.size + 2, 0, none⟩ (.int .i64 0)) =
      .ok (.tuple #[.agg #[v], .int .i64 0, .int .i64 0]) (((wr.setCell ⟨w.heap.size, 0, none⟩ v).setCell ⟨w.heap.size + 1, 0, none⟩ (.int .i64 0)).setCell ⟨w.heap.size + 2, 0, none⟩ (.int .i64 0)) := by
    simp [results, Tryd.results11, go_sem, h4, h5, h6, c0, c1, c2]
  refine ⟨_, hres, ?_⟩
  unfold ParseEnd
  rw [hX]
  have hk : ∀ K, Keeps (w.heap.size + 4) wr (((wr.setCell ⟨w.heap.size, 0, none⟩ v).setCell ⟨w.heap.size + 1, 0, none⟩ (.int .i64 0)).setCell ⟨w.heap.size + 2, 0, none⟩ (.int .i64 0)) K := fun K => ((keeps_set _ (by omega) _ _).trans (keeps_set _ (by omega) _ _)).trans (keeps_set _ (by omega) _ _)
  refine ⟨v, rfl, ⟨q, rfl, RowP.mono (RowP.keep (rowP_own (by intro c hc; simp at hc; obtain ⟨x, y, z, _, rfl⟩ := hc; rfl) (by rw [List.length_map]; exact h.own)) (hk (· = 40)) rfl) (by omega), fun p hp => ⟨((h.rls p hp).1.keep (hk _)).mono (by omega), ((h.rls p hp).2.keep (hk _)).mono (by omega)⟩⟩, ?_⟩
  exact ((h.bel.setCell (p := ⟨w.heap.size, 0, none⟩) (Nat.le_refl _) _).setCell (p := ⟨w.heap.size + 1, 0, none⟩) (Nat.le_succ _) _).setCell (p := ⟨w.heap.size + 2, 0, none⟩) (show w.heap.size ≤ w.heap.size + 2 by omega) _

set_option maxRecDepth 100000 in
set_option maxHeartbeats 4000000 in
theorem parse_any (L : List Tk.Tok) (en : Int) (ao : Option Addr) (cap : Nat) (w : World) (hT : ToksAt w ao L) (hF : Fit L) :
    Calls Tryd.prog 11 #[.slice ao L.length cap, .int .i64 en] w (ParseEnd L en w) := by
  obtain ⟨i0, hi, hz0, hz1, hz2⟩ := info_parts A_info43
  have hmf : ∀ (fn : Fn) (first cap : Array Value) (w : World), (Instr.makeFunc fn first cap).run Tryd.prog w = .ok (.func fn first cap) w := fun _ _ _ _ => rfl
  have hst := PInv.start (en := en) (cap := cap) hT hF
  have HQ : Hid (∀ X, Pr.rules en L.length [] L = X → ∀ e w', (match X with
      | .inl a => e = .returned (.tuple #[.agg #[.slice none 0 0], .int .i64 a, .int .i64 1]) ∧ Below w.heap.size w w'
      | .inr t => ∃ v, e = .returned (.tuple #[.agg #[v], .int .i64 0, .int .i64 0]) ∧ RulesP w.heap.size w' v t ∧ Below w.heap.size w w') → ParseEnd L en w e w') := by
    rintro X rfl e w' h; exact h
  go_enter_defers Tryd.func11, Tryd.ntmps11
  go_wp2_with fail
  generalize (((w.alloc (.cells #[.slice none 0 0] 25)).alloc (.cells #[.int .i64 0] 3)).alloc (.cells #[.int .i64 0] 26)).alloc (.cells #[.slice ao L.length cap, .int .i64 0, .int .i64 en] 68) = w0 at *
  clear hT
  go_loopw [] (fun wr => ∃ (v : Value) (q : List (Tr.Rule × Value × Value)) (r : List Tk.Tok) (f : Nat), PInv w wr L en r v q ∧ q.length + r.length ≤ L.length ∧ r.length ≤ f ∧ Pr.rules en f (q.map (·.1)) r = Pr.rules en L.length [] L)
    (fun wr => L.length - nxOf wr (w.heap.size + 3))
  case atStart => exact ⟨.slice none 0 0, [], L, L.length, hst, by simp, Nat.le_refl _, rfl⟩
  case round =>
    obtain ⟨v, q, r, f, hI, hlen, hrf, hX⟩ := hrel
    have HX : Hid _ := hX
    obtain ⟨aov, capv, rfl⟩ := own_slice hI.own
    clear hX hst
    have hm3 := hF.1
    have hmeas := hI.par.meas.1
    obtain ⟨nx, h1, hdr, hF', ao', cap', hbk, hT'⟩ := hI.par
    have q0 : wr.cell? ⟨w.heap.size + 3, 0, none⟩ = some (.slice ao' L.length cap') := by rw [Lib.cell_of_heap hbk]; rfl
    have q1 : wr.cell? ⟨w.heap.size + 3, 1, none⟩ = some (.int .i64 nx) := by rw [Lib.cell_of_heap hbk]; rfl
    clear hbk hT' hF'
    by_cases hlt : nx < L.length
    · have hdc : decide ((nx : Int) < (L.length : Int)) = true := decide_eq_true (by omega)
      have hne : ¬ r = [] := by
        rintro rfl
        have := congrArg List.length hdr
        simp at this
        omega
      obtain ⟨f, rfl⟩ : ∃ f', f = f' + 1 := by
        cases r with
        | nil => exact absurd rfl hne
        | cons t l => exact ⟨f - 1, by simp at hrf; omega⟩
      have hstep := rules_step (en := en) (f := f) (acc := q.map (·.1)) hne
      have HX1 : Hid _ := hstep.symm.trans HX.out
      clear hstep HX hdr
      go_wp2_with fail
      go_quiet (fail)
      go_upto_region 4 with fail
      replace hI : PInv w (wr.drewN nq) L en r (.slice aov q.length capv) q := hI.below ⟨rfl, rfl, rfl, Nat.le_refl _, fun _ _ => rfl⟩
      replace hmeas : L.length - nxOf wr (w.heap.size + 3) = r.length := hmeas
      generalize wr.drewN nq = wq at *
      clear q0 q1
      obtain ⟨c0, c1, c2, f0, f1, f2⟩ := hI.cells
      cases hR : Pr.rule en r with
      | inl a =>
        have hXa : Pr.rules en L.length [] L = .inl a := by rw [← HX1.out, hR]
        have HN : Hid (∀ w1, At w1 (w.heap.size + 3) L en r → _) := fun w1 h => rule_any (w.heap.size + 3) L en r w1 h
        rw [hR] at HN
        have HG : Hid _ := hXa
        clear hXa HX1 HQ
        first | go_region_dies | fail
        all_goals (refine Calls.mono (HN.out _ (At.keep hI.par (fun _ _ => rfl))) ?_)
        all_goals rintro e y2 ⟨rfl, hg2⟩
        all_goals go_wp2_with fail
        all_goals refine parse_gives hI hg2 ⟨rfl, rfl, rfl, Nat.le_refl _, fun _ _ => rfl⟩ a HG.out _ rfl rfl rfl
      | inr x =>
        obtain ⟨u1, r2⟩ := x
        have HX2 : Hid (Pr.rules en f (q.map (·.1) ++ [u1]) r2 = Pr.rules en L.length [] L) := by
          have := HX1.out
          rw [hR] at this
          exact this
        have hl2 : r2.length < r.length := rule_len hR
        have HN : Hid (∀ w1, At w1 (w.heap.size + 3) L en r → _) := fun w1 h => rule_any (w.heap.size + 3) L en r w1 h
        rw [hR] at HN
        clear hR HX1 HQ
        refine wp_region_noPanic ?_
        go_region_law (first
          | (go_simp; go_at_call 22; refine Calls.mono (HN.out _ (At.keep hI.par (fun _ _ => rfl))) ?_; rintro e y2 ⟨tv, uv, rfl, hTt, hTl, hW2⟩; have hI2 := PInv.on2 hI hW2 ⟨rfl, rfl, rfl, Nat.le_refl _, fun _ _ => rfl⟩; have hTt2 := TermsP.mono (B' := w.heap.size + 4) hTt hI.sz; have hTl2 := LitsP.mono (B' := w.heap.size + 4) hTl hI.sz; obtain ⟨aot, capt, htv, hTt'⟩ := hTt; simp only [List.length_map] at htv; subst htv; obtain ⟨qq, hqq, ⟨aol, capl, hlv, hTl'⟩, hqt⟩ := hTl; simp only [List.length_map] at hlv; subst hlv; obtain ⟨d0, d1, d2, g0, g1, g2⟩ := hI2.cells; have hsz := hI2.sz; have hsz1 : w.heap.size < y2.heap.size := Nat.lt_of_lt_of_le (Nat.lt_add_of_pos_right (by decide)) hsz; dsimp only)
          | (refine step_append_lies _ rfl (.tmp 24) (.tmp 27) 23 rfl (w.heap.size + 4) 40 i0 _ 5 80 Tryd.underlying23 hi hz0 hz1 hz2 rfl (by decide) (.slice aov q.length capv) q.length _ ?hs (PInv.below hI2 ((Below.refl _ _).alloc (Nat.le_refl _) _)).own ⟨y2.heap.size, 0, none⟩ 1 1 (ruleCells (u1, .slice aot u1.terms.length capt, .slice aol qq.length capl)) ?hx rfl ?hn ?ho ?hm ?h6 ?hb ?hB _ rfl ?_
             case hs => simp [Act.eval]
             case hx => simp [Act.eval]
             case hn => exact news_rule _ _ _ _
             case ho => exact one_rule _ _ _ _ _ _ _
             case hm => decide
             case h6 => (unfold maxLen; omega)
             case hb => omega
             case hB => (simp; omega)
             intro g cap y3 hown hgrow hat hlt
             have hI3 := PInv.put (PInv.below hI2 ((Below.refl _ _).alloc (Nat.le_refl _) _)) hgrow (hTt2.keep (keeps_below _ ((Below.refl _ _).alloc (Nat.le_refl _) _))) (hTl2.keep (keeps_below _ ((Below.refl _ _).alloc (Nat.le_refl _) _))) hown
             obtain ⟨e0, ef⟩ := PInv.app (PInv.below hI2 ((Below.refl _ _).alloc (Nat.le_refl _) _)) hgrow))
        all_goals refine NoPanic.normal ?_
        all_goals go_wp2_with fail
        all_goals go_roundw
        all_goals first
          | exact ⟨_, q ++ [(u1, _, _)], r2, f, hI3, by rw [List.length_append]; simp; omega, by omega, by simpa using HX2.out⟩
          | (rw [hI3.par.meas.1, hmeas]; omega)
    · have hdc : decide ((nx : Int) < (L.length : Int)) = false := decide_eq_false (by omega)
      have hr : r = [] := by rw [← hdr]; exact List.drop_of_length_le (by omega)
      subst hr
      have hXe : Pr.rules en L.length [] L = .inr (q.map (·.1)) := by
        have := HX.out
        cases f <;> simpa [Pr.rules] using this.symm
      obtain ⟨c0, c1, c2, f0, f1, f2⟩ := hI.cells
      go_wp2_with fail
      go_quiet (fail)
      go_wp2_with fail
      exact parse_done (hI.below (w' := wr.drewN nq) ⟨rfl, rfl, rfl, Nat.le_refl _, fun _ _ => rfl⟩) hXe _ rfl rfl rfl

end Go.Proofs.YtjbfbbhaagkagaaDoor

/- Tokens that are scanned fit the parser: numbers are digits, not many. -/
namespace Go.Proofs.YtjbfbbhaagkagaaDoor
namespace Tk

/-- A token as one stands at the head of bytes that begin a right one. -/
def Good (t : Tok) : Prop := ∃ l, l ≠ [] ∧ errOf l = 0 ∧ t.kind = kindOf l ∧ t.text = l.take (lenOf l)

theorem scanP_good (L : List UInt8) : ∀ (f p : Nat) (acc : List Tok), (∀ t ∈ acc, Good t) → ∀ t ∈ (scanP L f p acc).1, Good t
  | 0, _, acc, h => by rw [scanP]; exact h
  | f + 1, p, acc, h => by
    rw [scanP]
    by_cases h1 : L.length ≤ p
    · rw [if_pos h1]; exact h
    · rw [if_neg h1]
      by_cases h2 : errOf (L.drop p) = 0
      · rw [if_pos h2]
        refine scanP_good L f _ _ fun t ht => ?_
        rw [List.mem_append, List.mem_singleton] at ht
        rcases ht with ht | rfl
        · exact h t ht
        · exact ⟨L.drop p, by intro e; have := congrArg List.length e; simp at this; omega, h2, rfl, rfl⟩
      · rw [if_neg h2]; intro t ht; exact absurd ht (by simp)
theorem scan_good (L : List UInt8) : ∀ t ∈ (scan L).1, Good t := by
  unfold scan
  split
  · intro t ht; exact absurd ht (by simp)
  · exact scanP_good L _ _ _ (fun t ht => absurd ht (by simp))

theorem scanP_length (L : List UInt8) : ∀ (f p : Nat) (acc : List Tok), (scanP L f p acc).1.length ≤ acc.length + f
  | 0, _, acc => by rw [scanP]; simp
  | f + 1, p, acc => by
    rw [scanP]
    by_cases h1 : L.length ≤ p
    · rw [if_pos h1]; simp
    · rw [if_neg h1]
      by_cases h2 : errOf (L.drop p) = 0
      · rw [if_pos h2]
        refine Nat.le_trans (scanP_length L f _ _) ?_
        simp; omega
      · rw [if_neg h2]; simp
theorem scan_length (L : List UInt8) : (scan L).1.length ≤ 5000 := by
  unfold scan
  by_cases h : 5000 < L.length
  · rw [if_pos h]; simp
  · rw [if_neg h]
    have := scanP_length L L.length (sep false L) []
    simp at this
    omega

theorem take_pre (p : Int → Bool) : ∀ (l : List UInt8), ∀ b ∈ l.take (pre p l), p (b.toNat : Int) = true
  | [], b, hb => absurd hb (by simp)
  | c :: r, b, hb => by
    rw [pre] at hb
    by_cases h : p (c.toNat : Int) = true
    · rw [if_pos h, List.take_succ_cons, List.mem_cons] at hb
      rcases hb with rfl | hb
      · exact h
      · exact take_pre p r b hb
    · rw [if_neg h] at hb; exact absurd hb (by simp)

theorem decFrom_digits : ∀ (l : List UInt8) (acc : Nat), (∀ b ∈ l, digit (b.toNat : Int) = true) → ∃ n, Lib.decFrom acc l = some n
  | [], acc, _ => ⟨acc, rfl⟩
  | c :: r, acc, h => by
    have hc := h c (by simp)
    unfold digit at hc
    simp only [Bool.and_eq_true, decide_eq_true_eq] at hc
    have hv : Lib.digitVal c = some (c.toNat - 48) := by unfold Lib.digitVal; rw [if_pos (by omega)]
    obtain ⟨n, hn⟩ := decFrom_digits r (acc * 10 + (c.toNat - 48)) (fun b hb => h b (by simp [hb]))
    exact ⟨n, by unfold Lib.decFrom; rw [hv]; exact hn⟩

/-- The number token: digits, from one to seven. -/
theorem Good.number {t : Tok} (h : Good t) (hk : t.kind = 3) : (∃ c r, t.text = c :: r) ∧ t.text.length ≤ 7 ∧ ∀ b ∈ t.text, digit (b.toNat : Int) = true := by
  obtain ⟨l, hne, he, h1, h2⟩ := h
  match l, hne with
  | c :: r, _ =>
    rw [hk] at h1
    unfold kindOf at h1
    unfold errOf at he
    unfold lenOf at h2
    simp only at h1 he h2
    by_cases hs : small c.toNat = true
    · rw [if_pos hs] at h1; exact absurd h1 (by decide)
    · by_cases hg : great c.toNat = true
      · rw [if_neg hs, if_pos hg] at h1; exact absurd h1 (by decide)
      · by_cases hd : digit c.toNat = true
        · have hsg : ¬ (small c.toNat || great c.toNat) = true := by simp [hs, hg]
          rw [if_neg hsg, if_pos hd] at he h2
          have hp : 1 ≤ pre digit (c :: r) := pre_pos hd
          have hp7 : pre digit (c :: r) ≤ 7 := by
            by_cases h7 : pre digit (c :: r) > 7
            · rw [if_pos h7] at he; exact absurd he (by decide)
            · omega
          refine ⟨?_, ?_, ?_⟩
          · obtain ⟨k, hk⟩ : ∃ k, pre digit (c :: r) = k + 1 := ⟨pre digit (c :: r) - 1, by omega⟩
            exact ⟨c, r.take k, by rw [h2, hk, List.take_succ_cons]⟩
          · rw [h2, List.length_take]; omega
          · rw [h2]; exact take_pre digit _
        · rw [if_neg hs, if_neg hg, if_neg hd] at h1; exact absurd h1 (by decide)

theorem atoi_digits {c : UInt8} {r : List UInt8} (h : ∀ b ∈ c :: r, digit (b.toNat : Int) = true) : ∃ n : Nat, Lib.decFrom 0 (c :: r) = some n ∧ Lib.atoi (c :: r) = some (n : Int) := by
  obtain ⟨n, hn⟩ := decFrom_digits (c :: r) 0 h
  refine ⟨n, hn, ?_⟩
  have hc := h c (by simp)
  unfold digit at hc
  simp only [Bool.and_eq_true, decide_eq_true_eq] at hc
  have h43 : ¬ c = 43 := by rintro rfl; simp at hc
  have h45 : ¬ c = 45 := by rintro rfl; simp at hc
  unfold Lib.atoi
  simp [h43, h45, Lib.decNat, hn]
end Tk

theorem fit_scan (L : List UInt8) : Fit (Tk.scan L).1 := by
  refine ⟨Tk.scan_length L, fun t ht hk => ?_⟩
  obtain ⟨⟨c, r, hcr⟩, h7, hd⟩ := (Tk.scan_good L t ht).number hk
  rw [hcr] at hd h7 ⊢
  obtain ⟨n, _, hn⟩ := Tk.atoi_digits hd
  exact ⟨by omega, n, hn⟩

end Go.Proofs.YtjbfbbhaagkagaaDoor

/- Package tree: Parse answers the tree of a text, or where it is wrong and why. -/
namespace Go.Proofs.YtjbfbbhaagkagaaDoor
open Go.RowKit

/-- What Parse leaves. -/
def ParseTop (X : List Tr.Rule × Int × Int) (w : World) (e : Ending) (w' : World) : Prop :=
  ∃ ao cap, e = .returned (.tuple #[.agg #[.slice ao X.1.length cap], .int .i64 X.2.1, .int .i64 X.2.2]) ∧ RulesP w.heap.size w' (.slice ao X.1.length cap) X.1 ∧ Below w.heap.size w w'

theorem rulesP_nil (B : Nat) (w : World) : RulesP B w (.slice none 0 0) [] := ⟨[], rfl, ⟨none, 0, rfl, .inl rfl⟩, fun _ hp => absurd hp (by simp)⟩
theorem RulesP.mono {B B' : Nat} {w : World} {v : Value} {l : List Tr.Rule} (h : RulesP B w v l) (hB : B' ≤ B) : RulesP B' w v l := by
  obtain ⟨q, h1, h2, h3⟩ := h
  exact ⟨q, h1, h2.mono hB, fun p hp => ⟨(h3 p hp).1.mono hB, (h3 p hp).2.mono hB⟩⟩
theorem RulesP.set {B b : Nat} {w : World} {v : Value} {l : List Tr.Rule} (h : RulesP B w v l) (hB : b < B) (o : Nat) (u : Value) : RulesP B (w.setCell ⟨b, o, none⟩ u) v l := by
  obtain ⟨q, h1, h2, h3⟩ := h
  exact ⟨q, h1, h2.keep (keeps_set (· = 40) hB _ _) rfl, fun p hp => ⟨(h3 p hp).1.keep (keeps_set _ hB _ _), (h3 p hp).2.keep (keeps_set _ hB _ _)⟩⟩
theorem RulesP.slice {B : Nat} {w : World} {v : Value} {l : List Tr.Rule} (h : RulesP B w v l) : ∃ ao cap, v = .slice ao l.length cap := by
  obtain ⟨q, rfl, ⟨ao, cap, hv, _⟩, _⟩ := h
  exact ⟨ao, cap, by rw [hv]; simp⟩
theorem RulesP.below {B : Nat} {w w' : World} {v : Value} {l : List Tr.Rule} (h : RulesP B w v l) (hb : Below w.heap.size w w') : RulesP B w' v l := by
  obtain ⟨q, h1, h2, h3⟩ := h
  exact ⟨q, h1, h2.keep (keeps_below (· = 40) hb) rfl, fun p hp => ⟨(h3 p hp).1.keep (keeps_below _ hb), (h3 p hp).2.keep (keeps_below _ hb)⟩⟩

/-- What Parse makes of what Scan answers. -/
def Pr.parseOf (n : Int) (X : List Tk.Tok × Nat × Int) : List Tr.Rule × Int × Int :=
  if X.2.2 = 0 then match Pr.rules n X.1.length [] X.1 with
    | .inl a => ([], a, 1)
    | .inr t => if Tr.check t = 0 then (t, 0, 0) else ([], 0, Tr.check t)
  else ([], X.2.1, X.2.2)
theorem parse_eq (s : ByteArray) : Pr.parse s.data.toList = Pr.parseOf s.size (Tk.scan s.data.toList) := by
  have h : ((s.data.toList.length : Nat) : Int) = s.size := by rw [Array.length_toList]; rfl
  unfold Pr.parse Pr.parseOf
  rw [h]
  split
  · cases Pr.rules (s.size : Int) (Tk.scan s.data.toList).1.length [] (Tk.scan s.data.toList).1 <;> rfl
  · rfl

/-- The block of a tree that is answered. -/
theorem tree_cell {w1 : World} {b : Nat} {v : Value} (h : w1.heap[b]? = some (.cells #[v] 25)) : w1.cell? ⟨b, 0, none⟩ = some v ∧ w1.frozen? ⟨b, 0, none⟩ = false := ⟨by rw [Lib.cell_of_heap h]; rfl, by simp [World.frozen?, h]⟩

set_option maxRecDepth 100000 in
set_option maxHeartbeats 1000000 in
theorem Parse_any (s : ByteArray) (w : World) : Calls Tryd.prog 6 #[.string s] w (ParseTop (Pr.parse s.data.toList) w) := by
  rw [parse_eq]
  have HS : Hid (∀ w, Calls Tryd.prog 8 #[.string s] w (ScanTop s.data.toList w)) := fun w => Scan_any s w
  have hF : Fit (Tk.scan s.data.toList).1 := fit_scan _
  unfold ScanTop at HS
  rcases hX : Tk.scan s.data.toList with ⟨T, p, E⟩
  rw [hX] at HS hF
  simp only at HS hF
  clear hX
  have HQ : Hid (∀ X, Pr.parseOf s.size (T, p, E) = X → ∀ e w', ParseTop X w e w' → ParseTop (Pr.parseOf s.size (T, p, E)) w e w') := by rintro X rfl e w' h; exact h
  generalize ParseTop (Pr.parseOf s.size (T, p, E)) w = Q at HQ ⊢
  go_enter Tryd.func6, Tryd.ntmps6
  go_wp2_with fail
  refine Calls.mono (HS.out _) ?_
  rintro e w1 ⟨ao, cap, rfl, hown, hb⟩
  have hT := toksAt_own hown
  clear hown HS
  have hres : w1.heap[w.heap.size]? = some (.cells #[.slice none 0 0] 25) := (hb.block _ (by simp)).trans (heap_alloc_new w _)
  have hbw : Below w.heap.size w w1 := ((Below.refl w.heap.size w).alloc (Nat.le_refl _) _).trans (hb.mono (by simp))
  obtain ⟨c0, f0⟩ := tree_cell hres
  cases hE : (E == 0)
  · have HP2 : Hid (Pr.parseOf s.size (T, p, E) = ([], (p : Int), E)) := by
      unfold Pr.parseOf
      rw [if_neg (by intro e; simp only at e; rw [e] at hE; exact absurd hE (by decide))]
      exact rfl
    go_wp2_with fail
    exact bodyPost_ret (v := .tuple #[.agg #[.slice none 0 0], .int .i64 p, .int .i64 E]) (by simp [results, Tryd.results6, go_sem, c0]) rfl (HQ.out _ HP2.out _ _ ⟨none, 0, rfl, rulesP_nil _ _, hbw.setCell (p := ⟨w.heap.size, 0, none⟩) (Nat.le_refl _) _⟩)
  · obtain rfl : E = 0 := eq_of_beq hE
    have HP2 : Hid (Pr.parseOf s.size (T, p, 0) = match Pr.rules s.size T.length [] T with
      | .inl a => ([], a, 1)
      | .inr t => if Tr.check t = 0 then (t, 0, 0) else ([], 0, Tr.check t)) := by
      unfold Pr.parseOf
      rw [if_pos rfl]
      exact rfl
    have HC : Hid (∀ w, ToksAt w ao T → Calls Tryd.prog 11 #[.slice ao T.length cap, .int .i64 s.size] w (ParseEnd T s.size w)) := fun w h => parse_any T s.size ao cap w h hF
    unfold ParseEnd at HC
    go_wp2_with fail
    refine Calls.mono (HC.out _ hT) ?_
    clear HC hE c0 f0 hT hb
    cases hR : Pr.rules s.size T.length [] T with
    | inl a =>
      have HP3 : Hid (Pr.parseOf s.size (T, p, 0) = ([], a, 1)) := by
        have := HP2.out
        rw [hR] at this
        exact this
      clear hR HP2
      rintro e w2 ⟨rfl, hb2⟩
      have hres2 := (hb2.block _ (heap_lt hres)).trans hres
      have hbw2 := hbw.trans (hb2.mono hbw.size)
      obtain ⟨c0, f0⟩ := tree_cell hres2
      have hlt : w.heap.size < w2.heap.size := heap_lt hres2
      go_wp2_with fail
      exact bodyPost_ret (v := .tuple #[.agg #[.slice none 0 0], .int .i64 a, .int .i64 1]) (by simp [results, Tryd.results6, go_sem, c0, hlt]) rfl (HQ.out _ HP3.out _ _ ⟨none, 0, rfl, rulesP_nil _ _, (hbw2.setCell (p := ⟨w.heap.size, 0, none⟩) (Nat.le_refl _) _).alloc (by simp; exact hbw2.size) _⟩)
    | inr t =>
      have HP3 : Hid (Pr.parseOf s.size (T, p, 0) = if Tr.check t = 0 then (t, 0, 0) else ([], 0, Tr.check t)) := by
        have := HP2.out
        rw [hR] at this
        exact this
      clear hR HP2
      rintro e w2 ⟨v, rfl, hP, hb2⟩
      have hres2 := (hb2.block _ (heap_lt hres)).trans hres
      have hbw2 := hbw.trans (hb2.mono hbw.size)
      obtain ⟨c0, f0⟩ := tree_cell hres2
      have hlt : w.heap.size < w2.heap.size := heap_lt hres2
      obtain ⟨aot, capt, rfl⟩ := hP.slice
      have hP1 := hP.below ((Below.refl _ _).alloc (Nat.le_refl _) (.cells #[.slice aot t.length capt] 25))
      have hres3 := (((Below.refl w2.heap.size w2).alloc (Nat.le_refl _) (.cells #[.slice aot t.length capt] 25)).block _ hlt).trans hres2
      have hbw3 := hbw2.alloc hbw2.size (.cells #[.slice aot t.length capt] 25)
      have htr := heap_alloc_new w2 (.cells #[.slice aot t.length capt] 25)
      have HK : Hid (∀ w, RulesV w (.slice aot t.length capt) t → Calls Tryd.prog 7 #[.agg #[.slice aot t.length capt]] w fun e w' => e = .returned (.int .i64 (Tr.check t)) ∧ Below w.heap.size w w') := fun w h => Check_any t _ w h
      go_wp2_with fail
      refine Calls.mono (HK.out _ hP1.toV) ?_
      rintro e w3 ⟨rfl, hb3⟩
      have hres4 := (hb3.block _ (heap_lt hres3)).trans hres3
      have htr4 := (hb3.block _ (heap_lt htr)).trans htr
      have hbw4 := hbw3.trans (hb3.mono hbw3.size)
      have hP4 := hP1.below hb3
      have hlt1 := heap_lt hres
      clear HK hP1 hres3 htr hbw3 hb3 hP hres2 hbw2 hb2 c0 f0
      obtain ⟨c0, f0⟩ := tree_cell hres4
      obtain ⟨c1, f1⟩ := tree_cell htr4
      cases hC : (Tr.check t == 0)
      · have HP4 : Hid (Pr.parseOf s.size (T, p, 0) = ([], 0, Tr.check t)) := by
          have := HP3.out
          rw [if_neg (by intro e; rw [e] at hC; exact absurd hC (by decide))] at this
          exact this
        go_wp2_with fail
        exact bodyPost_ret (v := .tuple #[.agg #[.slice none 0 0], .int .i64 0, .int .i64 (Tr.check t)]) (by simp [results, Tryd.results6, go_sem, c0]) rfl (HQ.out _ HP4.out _ _ ⟨none, 0, rfl, rulesP_nil _ _, hbw4.setCell (p := ⟨w.heap.size, 0, none⟩) (Nat.le_refl _) _⟩)
      · have HP4 : Hid (Pr.parseOf s.size (T, p, 0) = (t, 0, 0)) := by
          have := HP3.out
          rw [if_pos (eq_of_beq hC)] at this
          exact this
        go_wp2_with fail
        exact bodyPost_ret (v := .tuple #[.agg #[.slice aot t.length capt], .int .i64 0, .int .i64 0]) (by simp [results, Tryd.results6, go_sem, c0]) rfl (HQ.out _ HP4.out _ _ ⟨aot, capt, rfl, (hP4.set hlt1 _ _).mono hbw.size, hbw4.setCell (p := ⟨w.heap.size, 0, none⟩) (Nat.le_refl _) _⟩)

end Go.Proofs.YtjbfbbhaagkagaaDoor

/- Tokens alone say what is parsed: joined they are parsed alike, but for where all begins. -/
namespace Go.Proofs.YtjbfbbhaagkagaaDoor
open Pr

theorem litOk_er (x : Tr.Lit) : Tr.litOk (erL x) = Tr.litOk x := rfl
theorem litsOk_er (l : List Tr.Lit) : Tr.litsOk (l.map erL) = Tr.litsOk l := by
  unfold Tr.litsOk; rw [List.all_map]; rfl
theorem litsMany_er (l : List Tr.Lit) : Tr.litsMany (l.map erL) = Tr.litsMany l := by
  unfold Tr.litsMany; rw [List.any_map]; rfl
theorem ruleOk_er (r : Tr.Rule) : Tr.ruleOk (erR r) = Tr.ruleOk r := by
  unfold Tr.ruleOk
  show (Tr.isName r.name && Tr.termsOk r.terms && Tr.foldOk r.fold r.terms.length (r.body.map erL).length && Tr.litsOk (r.body.map erL)) = _
  rw [litsOk_er, List.length_map]
theorem ruleMany_er (r : Tr.Rule) : Tr.ruleMany (erR r) = Tr.ruleMany r := by
  unfold Tr.ruleMany
  show (decide (4 < (r.body.map erL).length) || decide (3 < r.terms.length) || Tr.litsMany (r.body.map erL)) = _
  rw [litsMany_er, List.length_map]
theorem check_er (t : List Tr.Rule) : Tr.check (t.map erR) = Tr.check t := by
  have h1 : (t.map erR).any Tr.ruleMany = t.any Tr.ruleMany := by rw [List.any_map]; congr 1; funext r; exact ruleMany_er r
  have h2 : (t.map erR).all Tr.ruleOk = t.all Tr.ruleOk := by rw [List.all_map]; congr 1; funext r; exact ruleOk_er r
  unfold Tr.check Tr.many
  rw [h1, h2, List.length_map]

theorem termsEq_refl (l : List Tr.Term) : Tr.termsEq l l = true := by
  unfold Tr.termsEq
  induction l with
  | nil => rfl
  | cons a l ih => rw [Tr.listEq, ih]; simp [Tr.termEq]
theorem litEq_er {x y : Tr.Lit} (h : erL x = erL y) : Tr.litEq false x y = true := by
  unfold erL at h
  injection h with h1 _ h2 h3 h4
  unfold Tr.litEq
  rw [h1, h2, h3, h4, termsEq_refl]
  simp
theorem litsEq_er : ∀ {l m : List Tr.Lit}, l.map erL = m.map erL → Tr.listEq (Tr.litEq false) l m = true
  | [], [], _ => rfl
  | [], _ :: _, h => by simp at h
  | _ :: _, [], h => by simp at h
  | x :: l, y :: m, h => by
    rw [List.map_cons, List.map_cons] at h
    injection h with h1 h2
    rw [Tr.listEq, litEq_er h1, litsEq_er h2]; rfl
theorem ruleEq_er {x y : Tr.Rule} (h : erR x = erR y) : Tr.ruleEq false x y = true := by
  unfold erR at h
  injection h with _ h1 h2 h3 h4
  have hl : x.body.length = y.body.length := by have := congrArg List.length h4; simpa using this
  unfold Tr.ruleEq Tr.headEq
  rw [h1, h2, h3, hl, termsEq_refl, litsEq_er h4]
  simp
theorem treeEq_er : ∀ {l m : List Tr.Rule}, l.map erR = m.map erR → Tr.treeEq false l m = true
  | [], [], _ => rfl
  | [], _ :: _, h => by simp at h
  | _ :: _, [], h => by simp at h
  | x :: l, y :: m, h => by
    rw [List.map_cons, List.map_cons] at h
    injection h with h1 h2
    unfold Tr.treeEq
    rw [Tr.listEq, ruleEq_er h1]
    exact treeEq_er h2

theorem same_er : ∀ {l m : List Tk.Tok}, Tk.same false l m = true → l.map er = m.map er
  | [], [], _ => rfl
  | [], _ :: _, h => by simp [Tk.same] at h
  | _ :: _, [], h => by simp [Tk.same] at h
  | x :: l, y :: m, h => by
    rw [Tk.same, Bool.and_eq_true] at h
    have h1 := h.1
    unfold Tk.sameOne at h1
    simp at h1
    rw [List.map_cons, List.map_cons, same_er h.2]
    unfold er
    rw [h1.1, h1.2]

/-- What comes of tokens with the same kinds and texts. -/
theorem parseOf_alike (n n' : Int) (T T' : List Tk.Tok) (p p' : Nat) (h : T.map er = T'.map er) :
    (parseOf n (T, p, 0)).2.2 = (parseOf n' (T', p', 0)).2.2 ∧ Tr.treeEq false (parseOf n (T, p, 0)).1 (parseOf n' (T', p', 0)).1 = true := by
  have hl : T.length = T'.length := by have := congrArg List.length h; simpa using this
  have h1 := rules_er n T.length [] T
  have h2 := rules_er n' T'.length [] T'
  rw [List.map_nil] at h1 h2
  rw [h, hl] at h1
  rw [h1] at h2
  unfold parseOf
  simp only [if_true]
  rw [hl]
  cases hA : rules n T'.length [] T with
  | inl a =>
    cases hB : rules n' T'.length [] T' with
    | inl b => exact ⟨rfl, rfl⟩
    | inr b => rw [hA, hB] at h2; simp at h2
  | inr a =>
    cases hB : rules n' T'.length [] T' with
    | inl b => rw [hA, hB] at h2; simp at h2
    | inr b =>
      rw [hA, hB] at h2
      simp only [Sum.inr.injEq] at h2
      have hc : Tr.check a = Tr.check b := by rw [← check_er a, h2, check_er b]
      simp only
      rw [hc]
      by_cases h0 : Tr.check b = 0
      · rw [if_pos h0, if_pos h0]; exact ⟨rfl, treeEq_er h2⟩
      · rw [if_neg h0, if_neg h0]; exact ⟨rfl, rfl⟩

theorem fine_of_check {t : List Tr.Rule} (h : Tr.check t = 0) : Fine t := by
  have hm : Tr.many t = false := by
    cases hm : Tr.many t
    · rfl
    · unfold Tr.check at h; rw [hm] at h; simp at h
  unfold Tr.many at hm
  rw [Bool.or_eq_false_iff] at hm
  have h12 := of_decide_eq_false hm.1
  refine ⟨by omega, fun i hi => ?_⟩
  have hr : Tr.ruleMany (Tr.ruleD t i) = false := by
    have := hm.2
    rw [List.any_eq_false] at this
    have hh := this (Tr.ruleD t i) (by unfold Tr.ruleD; rw [List.getD_eq_getElem?_getD, List.getElem?_eq_getElem hi]; exact List.getElem_mem hi)
    simpa using hh
  obtain ⟨g1, g2, g3⟩ := ruleMany_no hr
  exact ⟨by omega, by omega, g3⟩
theorem fine_nil : Fine [] := ⟨by simp, fun i hi => absurd hi (by simp)⟩
theorem fine_parse (s : ByteArray) : Fine (Pr.parse s.data.toList).1 := by
  rw [parse_eq]
  unfold parseOf
  split
  · split
    · exact fine_nil
    · split
      · exact fine_of_check (by assumption)
      · exact fine_nil
  · exact fine_nil

theorem parse_checked (L : List UInt8) (h : (Pr.parse L).2.2 = 0) : Tr.check (Pr.parse L).1 = 0 := by
  revert h
  unfold Pr.parse
  split
  · split
    · intro h; simp at h
    · split
      · intro _; assumption
      · rename_i hc
        intro h; exact absurd h hc
  · rename_i hc
    intro h; exact absurd h hc
theorem parse_wrong (L : List UInt8) (h : ¬ (Tk.scan L).2.2 = 0) : Pr.parse L = ([], ((Tk.scan L).2.1 : Int), (Tk.scan L).2.2) := by
  unfold Pr.parse
  rw [if_neg h]

/-- Joined tokens are parsed alike. -/
theorem parse_join (s : ByteArray) (h : (Tk.scan s.data.toList).2.2 = 0) (hj : (Tk.join (Tk.scan s.data.toList).1).2 = 0) :
    (Pr.parse s.data.toList).2.2 = (Pr.parse (Tk.join (Tk.scan s.data.toList).1).1).2.2 ∧ Tr.treeEq false (Pr.parse s.data.toList).1 (Pr.parse (Tk.join (Tk.scan s.data.toList).1).1).1 = true := by
  obtain ⟨h1, h2⟩ := join_scan _ hj
  have e1 := parse_eq s
  have e2 := parse_eq ⟨(Tk.join (Tk.scan s.data.toList).1).1.toArray⟩
  rw [show (⟨(Tk.join (Tk.scan s.data.toList).1).1.toArray⟩ : ByteArray).data.toList = (Tk.join (Tk.scan s.data.toList).1).1 from rfl] at e2
  rw [e1, e2]
  rcases hS : Tk.scan s.data.toList with ⟨T, p, E⟩
  rw [hS] at h h1 h2
  rcases hS2 : Tk.scan (Tk.join T).1 with ⟨T', p', E'⟩
  simp only at h h1 h2 ⊢
  rw [hS2] at h1 h2
  simp only at h1 h2
  subst h
  subst h1
  exact parseOf_alike _ _ T T' p p' (same_er h2)

end Go.Proofs.YtjbfbbhaagkagaaDoor

/- What must be in any case: the statements' own small text. -/
namespace Go.Proofs.YtjbfbbhaagkagaaDoor
open Go.RowKit

def smallL : List UInt8 := [113, 40, 49, 44, 32, 50, 41, 46, 10, 112, 40, 88, 44, 32, 99, 111, 117, 110, 116, 32, 89, 41, 32, 58, 45, 32, 113, 40, 88, 44, 32, 89, 41, 44, 32, 110, 111, 116, 32, 114, 40, 89, 41, 44, 32, 88, 32, 60, 32, 89, 46, 10]
def smallB : ByteArray := ⟨#[113, 40, 49, 44, 32, 50, 41, 46, 10, 112, 40, 88, 44, 32, 99, 111, 117, 110, 116, 32, 89, 41, 32, 58, 45, 32, 113, 40, 88, 44, 32, 89, 41, 44, 32, 110, 111, 116, 32, 114, 40, 89, 41, 44, 32, 88, 32, 60, 32, 89, 46, 10]⟩
def smallT : List Tr.Rule := (Pr.parse smallL).1
set_option maxRecDepth 100000 in
theorem small_ok : (Pr.parse smallL).2 = (0, 0) := by kernel_rfl
theorem small_parse : Pr.parse smallL = (smallT, 0, 0) := by unfold smallT; rw [← small_ok]
theorem small_len : smallT.length = 2 := by kernel_rfl
theorem small_fold : (Tr.ruleD smallT 1).fold = 1 := by kernel_rfl
theorem small_body : (Tr.ruleD smallT 1).body.length = 3 := by kernel_rfl
theorem small_kind : (Tr.litD (Tr.ruleD smallT 1).body 1).kind = 2 := by kernel_rfl
theorem small_check : Tr.check smallT = 0 := by kernel_rfl

set_option maxRecDepth 100000 in
set_option maxHeartbeats 1000000 in
theorem treeBegun_any (w : World) : Calls Tryd.prog 4 #[] w fun e w' => e = .returned (.bool true) ∧ Below w.heap.size w w' := by
  have HP : Hid (∀ w, Calls Tryd.prog 6 #[.string smallB] w fun e w' => ∃ ao cap, e = .returned (.tuple #[.agg #[.slice ao 2 cap], .int .i64 0, .int .i64 0]) ∧ RulesV w' (.slice ao 2 cap) smallT ∧ Below w.heap.size w w') := by
    intro w
    have h := Parse_any smallB w
    rw [show smallB.data.toList = smallL from rfl, small_parse] at h
    refine h.mono ?_
    rintro e w' ⟨ao, cap, he, hR, hb⟩
    simp only [small_len] at he hR
    exact ⟨ao, cap, he, hR.toV, hb⟩
  have HC : Hid (∀ w ao cap, RulesV w (.slice ao 2 cap) smallT → Calls Tryd.prog 7 #[.agg #[.slice ao 2 cap]] w fun e w' => e = .returned (.int .i64 0) ∧ Below w.heap.size w w') := by
    intro w ao cap h
    have := Check_any smallT _ w h
    rw [small_check] at this
    exact this
  unfold smallB at HP
  go_enter Tryd.func4, Tryd.ntmps4
  go_wp2_with fail
  refine Calls.mono (HP.out _) ?_
  rintro e w1 ⟨ao, cap, rfl, hR, hb⟩
  have hR1 := rulesV_below hR ((Below.refl _ _).alloc (Nat.le_refl _) (.cells #[.slice ao 2 cap] 25))
  obtain ⟨aor, capr, hv, hRA⟩ := hR
  rcases hRA with h | ⟨b, off, hao, hc⟩
  · exact absurd (congrArg List.length h) (by rw [small_len]; decide)
  obtain ⟨r0, r1, r2, r3, lv, r4, hL⟩ := hc 1 (by rw [small_len]; decide)
  rw [small_fold] at r3
  obtain ⟨aol, capl, rfl, hLA⟩ := hL
  rw [small_body] at r4
  rcases hLA with h | ⟨b2, off2, rfl, hc2⟩
  · exact absurd (congrArg List.length h) (by rw [small_body]; decide)
  have l0 := (hc2 1 (by rw [small_body]; decide)).1
  rw [small_kind] at l0
  rw [small_len] at hv
  injection hv with e1 e2 e3
  subst e1
  subst e3
  subst hao
  clear hc hc2 r0 r1 r2 HP
  have hb1 : b < w1.heap.size := World.block_lt_of_cell? w1 _ r3
  have hb2 : b2 < w1.heap.size := World.block_lt_of_cell? w1 _ l0
  go_wp2_with fail
  refine Calls.mono (HC.out _ _ _ hR1) ?_
  rintro e w2 ⟨rfl, hb3⟩
  have hbel := (hb.alloc hb.size (.cells #[.slice (some ⟨b, off, none⟩) 2 cap] 25)).trans (hb3.mono (by simp; exact Nat.le_succ_of_le hb.size))
  clear HC hR1 r3 r4 l0 hb hb3
  go_wp2_with fail
  go_ret
  exact ⟨rfl, hbel⟩

end Go.Proofs.YtjbfbbhaagkagaaDoor

/- What must be in any case: the statements' own example of tokens. -/
namespace Go.Proofs.YtjbfbbhaagkagaaDoor
open Go.RowKit

def begunToks : List Tk.Tok := [⟨1, 0, [97, 98]⟩, ⟨4, 3, [60, 61]⟩, ⟨3, 6, [55]⟩, ⟨4, 7, [46]⟩]
theorem begun_scan : Tk.scan [97, 98, 32, 60, 61, 32, 55, 46, 37, 120] = (begunToks, 0, 0) := by rfl
theorem begun_join : Tk.join begunToks = ([97, 98, 32, 60, 61, 32, 55, 32, 46], 0) := by rfl

set_option maxRecDepth 100000 in
set_option maxHeartbeats 1000000 in
theorem begun_any (w : World) : Calls Tryd.prog 5 #[] w fun e w' => e = .returned (.bool true) ∧ Below w.heap.size w w' := by
  have HS : Hid (∀ w, Calls Tryd.prog 8 #[.string ⟨#[97, 98, 32, 60, 61, 32, 55, 46, 37, 120]⟩] w fun e w' => ∃ ao cap, e = .returned (.tuple #[.slice ao 4 cap, .int .i64 0, .int .i64 0]) ∧ ToksAt w' ao begunToks ∧ Below w.heap.size w w') := by
    intro w
    refine (Scan_any ⟨#[97, 98, 32, 60, 61, 32, 55, 46, 37, 120]⟩ w).mono ?_
    rintro e w' ⟨ao, cap, he, hown, hb⟩
    have hd : (⟨#[97, 98, 32, 60, 61, 32, 55, 46, 37, 120]⟩ : ByteArray).data.toList = [97, 98, 32, 60, 61, 32, 55, 46, 37, 120] := rfl
    rw [hd, begun_scan] at he hown
    exact ⟨ao, cap, he, toksAt_own hown, hb⟩
  have HJ : Hid (∀ w ao cap, ToksAt w ao begunToks → Calls Tryd.prog 9 #[.slice ao 4 cap] w fun e w' => e = .returned (.tuple #[.string ⟨#[97, 98, 32, 60, 61, 32, 55, 32, 46]⟩, .int .i64 0]) ∧ Below w.heap.size w w') := by
    intro w ao cap h
    have hJ := Join_any begunToks w ao cap (by decide) h
    rw [begun_join] at hJ
    exact hJ
  go_enter Tryd.func5, Tryd.ntmps5
  go_wp2_with fail
  refine (HS.out _).mono ?_
  rintro e w1 ⟨ao, cap, rfl, hT, hb⟩
  go_wp2_with fail
  refine (HJ.out _ _ _ hT).mono ?_
  rintro e w2 ⟨rfl, hb2⟩
  have hbel := hb.trans (hb2.mono hb.size)
  rcases hT with h | ⟨b, off, rfl, hc⟩
  · exact absurd h (by simp [begunToks])
  obtain ⟨a0, a1, a2⟩ := hc 1 (by decide)
  have hbw : b < w1.heap.size := World.block_lt_of_cell? w1 _ a0
  have a0' : w2.cell? ⟨b, off + 3, none⟩ = some (.int .i64 4) := (hb2.cell (p := ⟨b, _, none⟩) hbw).trans a0
  have a1' : w2.cell? ⟨b, off + 3 + 1, none⟩ = some (.int .i64 3) := (hb2.cell (p := ⟨b, _, none⟩) hbw).trans a1
  have a2' : w2.cell? ⟨b, off + 3 + 2, none⟩ = some (.string ⟨#[60, 61]⟩) := (hb2.cell (p := ⟨b, _, none⟩) hbw).trans a2
  clear a0 a1 a2 hc HS HJ hb hb2
  go_wp2_with fail
  go_ret
  exact ⟨rfl, hbel⟩

end Go.Proofs.YtjbfbbhaagkagaaDoor

/- TreeTells: the walk of the statement's function. -/
namespace Go.Proofs.YtjbfbbhaagkagaaDoor
open Go.RowKit

/-- Parse, in the words of this walk. -/
def ParseAt (s : ByteArray) (X : List Tr.Rule × Int × Int) : Prop := ∀ w, Calls Tryd.prog 6 #[.string s] w fun e w' => ∃ ao cap, e = .returned (.tuple #[.agg #[.slice ao X.1.length cap], .int .i64 X.2.1, .int .i64 X.2.2]) ∧ RulesV w' (.slice ao X.1.length cap) X.1 ∧ Below w.heap.size w w'
theorem parseAt (s : ByteArray) : ParseAt s (Pr.parse s.data.toList) := fun w => (Parse_any s w).mono fun _ _ ⟨ao, cap, he, hR, hb⟩ => ⟨ao, cap, he, hR.toV, hb⟩

set_option maxRecDepth 100000 in
set_option maxHeartbeats 2000000 in
theorem law_tells (s : ByteArray) (w : World) : Calls Tryd.prog 3 #[.string s] w fun e w' => e = .returned (.bool true) ∧ Below w.heap.size w w' := by
  have HP : Hid (ParseAt s (Pr.parse s.data.toList)) := parseAt s
  have HS : Hid (∀ w, Calls Tryd.prog 8 #[.string s] w fun e w' => ∃ ao cap, e = .returned (.tuple #[.slice ao (Tk.scan s.data.toList).1.length cap, .int .i64 ((Tk.scan s.data.toList).2.1 : Nat), .int .i64 (Tk.scan s.data.toList).2.2]) ∧ ToksAt w' ao (Tk.scan s.data.toList).1 ∧ Below w.heap.size w w') :=
    fun w => (Scan_any s w).mono fun _ _ ⟨ao, cap, he, hown, hb⟩ => ⟨ao, cap, he, toksAt_own hown, hb⟩
  have HJ : Hid (∀ w ao cap, ToksAt w ao (Tk.scan s.data.toList).1 → Calls Tryd.prog 9 #[.slice ao (Tk.scan s.data.toList).1.length cap] w fun e w' => e = .returned (.tuple #[.string ⟨(Tk.join (Tk.scan s.data.toList).1).1.toArray⟩, .int .i64 (Tk.join (Tk.scan s.data.toList).1).2]) ∧ Below w.heap.size w w') :=
    fun w ao cap h => Join_any _ w ao cap (by have := Tk.scan_length s.data.toList; omega) h
  have HQ : Hid (ParseAt ⟨(Tk.join (Tk.scan s.data.toList).1).1.toArray⟩ (Pr.parse (Tk.join (Tk.scan s.data.toList).1).1)) := parseAt _
  have F1 : Hid ((Pr.parse s.data.toList).2.2 = 0 → Tr.check (Pr.parse s.data.toList).1 = 0) := parse_checked _
  have F2 : Hid (¬ (Tk.scan s.data.toList).2.2 = 0 → (Pr.parse s.data.toList).1 = [] ∧ (Pr.parse s.data.toList).2.2 = (Tk.scan s.data.toList).2.2) := fun h => by rw [parse_wrong _ h]; exact ⟨rfl, rfl⟩
  have F3 : Hid ((Tk.scan s.data.toList).2.2 = 0 → (Tk.join (Tk.scan s.data.toList).1).2 = 0 → (Pr.parse s.data.toList).2.2 = (Pr.parse (Tk.join (Tk.scan s.data.toList).1).1).2.2 ∧ Tr.treeEq false (Pr.parse s.data.toList).1 (Pr.parse (Tk.join (Tk.scan s.data.toList).1).1).1 = true) := fun h1 h2 => parse_join s h1 h2
  have F4 : Hid (Fine (Pr.parse s.data.toList).1) := fine_parse s
  unfold ParseAt at HP HQ
  generalize Pr.parse (Tk.join (Tk.scan s.data.toList).1).1 = Y at *
  generalize Tk.join (Tk.scan s.data.toList).1 = K at *
  generalize Pr.parse s.data.toList = P at *
  generalize Tk.scan s.data.toList = X at *
  go_enter Tryd.func3, Tryd.ntmps3
  go_wp2_with fail
  refine (treeBegun_any _).mono ?_
  rintro e w0 ⟨rfl, hb0⟩
  go_wp2_with fail
  refine (begun_any _).mono ?_
  rintro e w1 ⟨rfl, hb1⟩
  have hbel1 := hb0.trans (hb1.mono hb0.size)
  clear hb0 hb1
  go_wp2_with fail
  refine Calls.mono (HP.out _) ?_
  rintro e w2 ⟨aoP, capP, rfl, hRP, hb2⟩
  have hR3 := rulesV_below hRP ((Below.refl _ _).alloc (Nat.le_refl _) (.cells #[.slice aoP P.1.length capP] 25))
  have htr3 := heap_alloc_new w2 (.cells #[.slice aoP P.1.length capP] 25)
  have hbel3 := (hbel1.trans (hb2.mono hbel1.size)).alloc (hbel1.trans (hb2.mono hbel1.size)).size (.cells #[.slice aoP P.1.length capP] 25)
  obtain ⟨c3, f3⟩ := tree_cell htr3
  clear hRP hb2 hbel1 HP
  cases gE : (P.2.2 == 0)
  · by_cases hX0 : X.2.2 = 0
    · have hR5 := hR3
      have htr5 := htr3
      have hbel5 := hbel3
      clear hR3 htr3 hbel3 f3
      have gX : (X.2.2 != 0) = false := by simpa using hX0
      go_wp2_with fail
      refine Calls.mono (HS.out _) ?_
      rintro e w6 ⟨aoX, capX, rfl, hT, hb6⟩
      have hR6 := rulesV_below hR5 hb6
      have htr6 := (hb6.block _ (heap_lt htr5)).trans htr5
      have hbel6 := hbel5.trans (hb6.mono hbel5.size)
      clear hR5 htr5 hbel5 hb6
      go_wp2_with fail
      refine Calls.mono (HJ.out _ _ _ hT) ?_
      rintro e w7 ⟨rfl, hb7⟩
      have hR7 := rulesV_below hR6 hb7
      have htr7 := (hb7.block _ (heap_lt htr6)).trans htr6
      have hbel7 := hbel6.trans (hb7.mono hbel6.size)
      clear hR6 htr6 hbel6 hb7 hT
      cases gK : (K.2 != 0)
      · have hK0 : K.2 = 0 := by simpa using gK
        obtain ⟨hEY, hTY⟩ := F3.out hX0 hK0
        have HTY : Hid (Tr.treeEq false P.1 Y.1 = true) := hTY
        have HEY : Hid (P.2.2 = Y.2.2) := hEY
        have gEY : (P.2.2 == Y.2.2) = true := by rw [hEY]; simp
        clear hTY hEY
        go_wp2_with fail
        refine Calls.mono (HQ.out _) ?_
        rintro e w8 ⟨aoY, capY, rfl, hRY, hb8⟩
        have hR8 := rulesV_below (rulesV_below hR7 hb8) ((Below.refl _ _).alloc (Nat.le_refl _) (.cells #[.slice aoY Y.1.length capY] 25))
        have hRY8 := rulesV_below hRY ((Below.refl _ _).alloc (Nat.le_refl _) (.cells #[.slice aoY Y.1.length capY] 25))
        have htr8 := (hb8.block _ (heap_lt htr7)).trans htr7
        have hbel8 := (hbel7.trans (hb8.mono hbel7.size)).alloc (hbel7.trans (hb8.mono hbel7.size)).size (.cells #[.slice aoY Y.1.length capY] 25)
        have hlt8 := heap_lt htr8
        obtain ⟨c8, _⟩ := tree_cell htr8
        clear hR7 htr7 hbel7 hb8 hRY
        go_wp2_with fail
        refine Calls.mono (sameTree_any P.1 Y.1 false _ _ _ hR8 hRY8 F4.out) ?_
        rintro e w9 ⟨he, hb9⟩
        rw [HTY.out] at he
        subst he
        have hbel9 := hbel8.trans (hb9.mono hbel8.size)
        go_wp2_with fail
        go_ret
        exact ⟨rfl, hbel9⟩
      · go_wp2_with fail
        go_ret
        exact ⟨rfl, hbel7⟩
    · obtain ⟨hP0, hPE⟩ := F2.out hX0
      have gX : (X.2.2 != 0) = true := by simpa using hX0
      have gPX : (P.2.2 == X.2.2) = true := by rw [hPE]; simp
      have hl0 : ((P.1.length : Int) == 0) = true := by rw [hP0]; rfl
      clear hP0 hPE
      go_wp2_with fail
      refine Calls.mono (HS.out _) ?_
      rintro e w6 ⟨aoX, capX, rfl, hT, hb6⟩
      have htr6 := (hb6.block _ (heap_lt htr3)).trans htr3
      have hbel6 := hbel3.trans (hb6.mono hbel3.size)
      obtain ⟨c6, _⟩ := tree_cell htr6
      clear hT
      go_wp2_with fail
      go_ret
      exact ⟨rfl, hbel6⟩
  · have hE0 : P.2.2 = 0 := eq_of_beq gE
    have hX0 : X.2.2 = 0 := by
      by_cases h : X.2.2 = 0
      · exact h
      · exact absurd ((F2.out h).2.symm.trans hE0) h
    have hC0 := F1.out hE0
    have HC : Hid (∀ w, RulesV w (.slice aoP P.1.length capP) P.1 → Calls Tryd.prog 7 #[.agg #[.slice aoP P.1.length capP]] w fun e w' => e = .returned (.int .i64 0) ∧ Below w.heap.size w w') := by
      intro w h
      have := Check_any P.1 _ w h
      rw [hC0] at this
      exact this
    clear hC0 hE0
    go_wp2_with fail
    refine Calls.mono (HC.out _ hR3) ?_
    rintro e w5 ⟨rfl, hb5⟩
    have hR5 := rulesV_below hR3 hb5
    have htr5 := (hb5.block _ (heap_lt htr3)).trans htr3
    have hbel5 := hbel3.trans (hb5.mono hbel3.size)
    clear hR3 htr3 hbel3 f3 c3 hb5 HC
    have gX : (X.2.2 != 0) = false := by simpa using hX0
    go_wp2_with fail
    refine Calls.mono (HS.out _) ?_
    rintro e w6 ⟨aoX, capX, rfl, hT, hb6⟩
    have hR6 := rulesV_below hR5 hb6
    have htr6 := (hb6.block _ (heap_lt htr5)).trans htr5
    have hbel6 := hbel5.trans (hb6.mono hbel5.size)
    clear hR5 htr5 hbel5 hb6
    go_wp2_with fail
    refine Calls.mono (HJ.out _ _ _ hT) ?_
    rintro e w7 ⟨rfl, hb7⟩
    have hR7 := rulesV_below hR6 hb7
    have htr7 := (hb7.block _ (heap_lt htr6)).trans htr6
    have hbel7 := hbel6.trans (hb7.mono hbel6.size)
    clear hR6 htr6 hbel6 hb7 hT
    cases gK : (K.2 != 0)
    · have hK0 : K.2 = 0 := by simpa using gK
      obtain ⟨hEY, hTY⟩ := F3.out hX0 hK0
      have HTY : Hid (Tr.treeEq false P.1 Y.1 = true) := hTY
      have HEY : Hid (P.2.2 = Y.2.2) := hEY
      have gEY : (P.2.2 == Y.2.2) = true := by rw [hEY]; simp
      clear hTY hEY
      go_wp2_with fail
      refine Calls.mono (HQ.out _) ?_
      rintro e w8 ⟨aoY, capY, rfl, hRY, hb8⟩
      have hR8 := rulesV_below (rulesV_below hR7 hb8) ((Below.refl _ _).alloc (Nat.le_refl _) (.cells #[.slice aoY Y.1.length capY] 25))
      have hRY8 := rulesV_below hRY ((Below.refl _ _).alloc (Nat.le_refl _) (.cells #[.slice aoY Y.1.length capY] 25))
      have htr8 := (hb8.block _ (heap_lt htr7)).trans htr7
      have hbel8 := (hbel7.trans (hb8.mono hbel7.size)).alloc (hbel7.trans (hb8.mono hbel7.size)).size (.cells #[.slice aoY Y.1.length capY] 25)
      have hlt8 := heap_lt htr8
      obtain ⟨c8, _⟩ := tree_cell htr8
      clear hR7 htr7 hbel7 hb8 hRY
      go_wp2_with fail
      refine Calls.mono (sameTree_any P.1 Y.1 false _ _ _ hR8 hRY8 F4.out) ?_
      rintro e w9 ⟨he, hb9⟩
      rw [HTY.out] at he
      subst he
      have hbel9 := hbel8.trans (hb9.mono hbel8.size)
      go_wp2_with fail
      go_ret
      exact ⟨rfl, hbel9⟩
    · go_wp2_with fail
      go_ret
      exact ⟨rfl, hbel7⟩

end Go.Proofs.YtjbfbbhaagkagaaDoor

/- A world in which the listed variables of the library read as the row says: the witness of the row's condition. -/
namespace Go.Proofs.YtjbfbbhaagkagaaDoor
open Go

/-- It is the settled world, with the listed variables laid. -/
def IsLaid (os : Os) (W : World) : Prop :=
  W = { World.holding Tryd.prog os ⟨#[.cells #[.string ⟨#[118, 97, 108, 117, 101, 32, 111, 117, 116, 32, 111, 102, 32, 114, 97, 110, 103, 101]⟩] 116, .cells #[.string ⟨#[105, 110, 118, 97, 108, 105, 100, 32, 115, 121, 110, 116, 97, 120]⟩] 116], #[], []⟩ with heap := ((((((World.holding Tryd.prog os ⟨#[.cells #[.string ⟨#[118, 97, 108, 117, 101, 32, 111, 117, 116, 32, 111, 102, 32, 114, 97, 110, 103, 101]⟩] 116, .cells #[.string ⟨#[105, 110, 118, 97, 108, 105, 100, 32, 115, 121, 110, 116, 97, 120]⟩] 116], #[], []⟩).heap.modify 4 fun
      | .cells _ t frozen => .cells #[.int .u8 0, .int .u8 1, .int .u8 28, .int .u8 2, .int .u8 29, .int .u8 14, .int .u8 24, .int .u8 3, .int .u8 30, .int .u8 22, .int .u8 20, .int .u8 15, .int .u8 25, .int .u8 17, .int .u8 4, .int .u8 8, .int .u8 31, .int .u8 27, .int .u8 13, .int .u8 23, .int .u8 21, .int .u8 19, .int .u8 16, .int .u8 7, .int .u8 26, .int .u8 12, .int .u8 18, .int .u8 6, .int .u8 11, .int .u8 5, .int .u8 10, .int .u8 9] t frozen
      | o => o).modify 5 fun
      | .cells _ t frozen => .cells #[.int .u8 0, .int .u8 1, .int .u8 56, .int .u8 2, .int .u8 57, .int .u8 49, .int .u8 28, .int .u8 3, .int .u8 61, .int .u8 58, .int .u8 42, .int .u8 50, .int .u8 38, .int .u8 29, .int .u8 17, .int .u8 4, .int .u8 62, .int .u8 47, .int .u8 59, .int .u8 36, .int .u8 45, .int .u8 43, .int .u8 51, .int .u8 22, .int .u8 53, .int .u8 39, .int .u8 33, .int .u8 30, .int .u8 24, .int .u8 18, .int .u8 12, .int .u8 5, .int .u8 63, .int .u8 55, .int .u8 48, .int .u8 27, .int .u8 60, .int .u8 41, .int .u8 37, .int .u8 16, .int .u8 46, .int .u8 35, .int .u8 44, .int .u8 21, .int .u8 52, .int .u8 32, .int .u8 23, .int .u8 11, .int .u8 54, .int .u8 26, .int .u8 40, .int .u8 15, .int .u8 34, .int .u8 20, .int .u8 31, .int .u8 10, .int .u8 25, .int .u8 14, .int .u8 19, .int .u8 9, .int .u8 13, .int .u8 8, .int .u8 7, .int .u8 6] t frozen
      | o => o).modify 3 fun
      | .cells _ t frozen => .cells #[.int .u64 1, .int .u64 10, .int .u64 100, .int .u64 1000, .int .u64 10000, .int .u64 100000, .int .u64 1000000, .int .u64 10000000, .int .u64 100000000, .int .u64 1000000000, .int .u64 10000000000, .int .u64 100000000000, .int .u64 1000000000000, .int .u64 10000000000000, .int .u64 100000000000000, .int .u64 1000000000000000, .int .u64 10000000000000000, .int .u64 100000000000000000, .int .u64 1000000000000000000, .int .u64 10000000000000000000] t frozen
      | o => o).modify 2 fun
      | .cells _ t frozen => .cells #[.iface 114 (.pointer (some ⟨(World.holding Tryd.prog default ⟨#[], #[], []⟩).heap.size + 0, 0, none⟩))] t frozen
      | o => o).modify 1 fun
      | .cells _ t frozen => .cells #[.iface 114 (.pointer (some ⟨(World.holding Tryd.prog default ⟨#[], #[], []⟩).heap.size + 1, 0, none⟩))] t frozen
      | o => o) }
theorem isLaid (os : Os) : ∃ W, IsLaid os W := ⟨_, rfl⟩
set_option maxRecDepth 100000 in
theorem laid_met (os : Os) (W : World) (hW : IsLaid os W) (args : Array Value) : laidMet Tryd.prog Rows.treeTellsRow.laid (W.forCall (fun _ _ => 0) ⟨#[], args, []⟩).memory := by
  cases hW
  exact laidMet_of_run' 8 (by kernel_rfl) (by kernel_rfl)

end Go.Proofs.YtjbfbbhaagkagaaDoor
