/- Own texts, one behind the other (part 10). -/
import Derived.Test.YtgpaleifhcdjnaaGreatDoorBundleI
import Derived.Test.YtgpaleifhcdjnaaGreatDoorRows
import Derived.Test.YtgpaleifhcdjnaaGreatDoorCards
import Derived.Test.YtgpaleifhcdjnaaGreatDoorTie
import Derived.Deep.QuietTactic
import Derived.BigQuiet
import Derived.Deep.RegionHeld3
import Derived.Deep.DeepCutAuto
import Derived.Deep.RegionLaw
/- The document's reader: rules, in memory and plain. -/
namespace Go.Proofs.YtgpaleifhcdjnaaGreatDoor
open Go.RowKit

namespace Rd
/-- Is it no fact? -/
def goesOn (fo : Int) (s : Int ⊕ List Tk.Tok) : Bool := decide (0 < fo) || !(text s == [46])
/-- What stands behind a head. -/
def body (fo en : Int) (s : Int ⊕ List Tk.Tok) : Int ⊕ (List Tr.Lit × List Tk.Tok) :=
  if goesOn fo s then on (fun r1 => Pr.lits en (r1.length + 1) [] r1) (need [58, 45] en s) else on (fun r => .inr ([], r)) s
theorem more_fold {head : Bool} {en : Int} : ∀ (f : Nat) (acc : List Tr.Term) (r : List Tk.Tok) (y : (List Tr.Term × Int) × List Tk.Tok), Pr.more head en f acc r = .inr y → 0 ≤ y.1.2 := by
  intro f
  induction f with
  | zero => intro acc r y h; simp [Pr.more] at h
  | succ f ih =>
    intro acc r y h
    rw [Pr.more] at h
    cases hT : Pr.term en (Pr.foldMay head en r).2 with
    | inl a => rw [hT] at h; simp at h
    | inr x =>
      rw [hT] at h
      simp only at h
      split at h
      · exact ih _ _ _ h
      · simp only [Sum.inr.injEq] at h
        subst h
        show 0 ≤ (Pr.foldMay head en r).1
        rw [foldMay_eq]
        rcases foldN_cases head (Pr.hd en r).text with h | h
        · rw [h]; exact Int.le_refl _
        · exact Int.le_of_lt h.1
theorem terms_fold {head : Bool} {en : Int} {r : List Tk.Tok} {y : (List Tr.Term × Int) × List Tk.Tok} (h : Pr.terms head en r = .inr y) : 0 ≤ y.1.2 := by
  unfold Pr.terms at h
  cases hm : Pr.must [40] en r with
  | inl a => rw [hm] at h; simp at h
  | inr r1 =>
    rw [hm] at h
    simp only [Pr.inside] at h
    split at h
    · simp only [Sum.inr.injEq] at h; subst h; exact Int.le_refl _
    · cases hM : Pr.more head en (r1.length + 1) [] r1 with
      | inl a => rw [hM] at h; simp at h
      | inr x =>
        rw [hM] at h
        have h3 := more_fold _ _ _ _ hM
        simp only at h
        cases hm2 : Pr.must [41] en x.2 with
        | inl a => rw [hm2] at h; simp at h
        | inr r3 => rw [hm2] at h; simp only [Sum.inr.injEq] at h; subst h; exact h3
theorem ends_rule {en : Int} {s s1 s2 s3 : Int ⊕ List Tk.Tok} {nm : List UInt8} {p : List Tr.Term × Int} {b : List Tr.Lit} (h1 : Ends (on (Pr.name en) s) nm s1) (h2 : Ends (on (Pr.terms true en) s1) p s2) (h3 : Ends (body p.2 en s2) b s3) :
    Ends (on (Pr.rule en) s) ⟨here en s, nm, p.1, p.2, b⟩ (need [46] en s3) := by
  have hbody : ∀ a fo, body fo en (.inl a) = .inl a := by
    intro a fo
    unfold body
    split <;> rfl
  rcases ends_on h1 with ⟨a, rfl, rfl | ⟨r, rfl, f1⟩⟩ | ⟨r, r1, rfl, rfl, f1⟩
  · obtain rfl : s2 = .inl a := h2
    rw [hbody] at h3
    obtain rfl : s3 = .inl a := h3
    exact rfl
  · obtain rfl : s2 = .inl a := h2
    rw [hbody] at h3
    obtain rfl : s3 = .inl a := h3
    show Ends (Pr.rule en r) _ _; rw [Pr.rule, f1]; rfl
  · show Ends (Pr.rule en r) _ _
    rcases ends_on h2 with ⟨a, rfl, h | ⟨r', h, f2⟩⟩ | ⟨r', r2, h, rfl, f2⟩
    · cases h
    · cases h
      rw [hbody] at h3
      obtain rfl : s3 = .inl a := h3
      simp only [Pr.rule, f1, f2]; rfl
    · cases h
      have hf := terms_fold f2
      simp only [Pr.rule, f1, f2]
      unfold body goesOn at h3
      rw [text_hd en] at h3
      cases hd : Pr.isText en r2 [46]
      · have hd' : ((Pr.hd en r2).text == [46]) = false := hd
        simp only [hd', Bool.not_false, Bool.or_true, if_true] at h3
        simp only [Bool.and_false, Bool.false_eq_true, if_false, Pr.tailOf]
        cases hm : Pr.must [58, 45] en r2 with
        | inl a => rw [show need [58, 45] en (.inr r2) = .inl a from hm] at h3; obtain rfl : s3 = .inl a := h3; rfl
        | inr r3 =>
          rw [show need [58, 45] en (.inr r2) = .inr r3 from hm] at h3
          replace h3 : Ends (Pr.lits en (r3.length + 1) [] r3) b s3 := h3
          cases hL : Pr.lits en (r3.length + 1) [] r3 with
          | inl a => rw [hL] at h3; obtain rfl : s3 = .inl a := h3; simp only [hL]; rfl
          | inr y =>
            rw [hL] at h3
            obtain ⟨g1, g2⟩ := (h3 : b = y.1 ∧ s3 = .inr y.2)
            subst g1 g2
            simp only [hL]
            show Ends _ _ (Pr.must [46] en y.2)
            cases hm2 : Pr.must [46] en y.2 with
            | inl a => rfl
            | inr r4 => exact ⟨rfl, rfl⟩
      · have hd' : ((Pr.hd en r2).text == [46]) = true := hd
        by_cases h0 : p.2 = 0
        · simp only [hd', h0, Bool.not_true, Bool.or_false, Int.lt_irrefl, decide_false, Bool.false_eq_true, if_false] at h3
          obtain ⟨g1, g2⟩ := (h3 : b = [] ∧ s3 = .inr r2)
          subst g1 g2
          simp only [h0, beq_self_eq_true, Bool.and_true, if_true]
          rw [need_yes hd]
          exact ⟨by rw [← h0]; rfl, rfl⟩
        · have h0' : (p.2 == 0) = false := by simpa using h0
          have hlt : decide ((0 : Int) < p.2) = true := decide_eq_true (by have : 0 ≤ p.2 := hf; omega)
          simp only [hlt, Bool.true_or, if_true] at h3
          simp only [h0', Bool.false_and, Bool.false_eq_true, if_false, Pr.tailOf]
          cases hm : Pr.must [58, 45] en r2 with
          | inl a => rw [show need [58, 45] en (.inr r2) = .inl a from hm] at h3; obtain rfl : s3 = .inl a := h3; rfl
          | inr r3 =>
            rw [show need [58, 45] en (.inr r2) = .inr r3 from hm] at h3
            replace h3 : Ends (Pr.lits en (r3.length + 1) [] r3) b s3 := h3
            cases hL : Pr.lits en (r3.length + 1) [] r3 with
            | inl a => rw [hL] at h3; obtain rfl : s3 = .inl a := h3; simp only [hL]; rfl
            | inr y =>
              rw [hL] at h3
              obtain ⟨g1, g2⟩ := (h3 : b = y.1 ∧ s3 = .inr y.2)
              subst g1 g2
              simp only [hL]
              show Ends _ _ (Pr.must [46] en y.2)
              cases hm2 : Pr.must [46] en y.2 with
              | inl a => rfl
              | inr r4 => exact ⟨rfl, rfl⟩
end Rd

/-- A rule under way: its block is B; w is the world at its beginning. -/
structure RU (w wr : World) (B R : Nat) (L : List Tk.Tok) (en : Int) (s : Int ⊕ List Tk.Tok) (at_ : Int) (nm : List UInt8) (tv : Value) (ts : List Tr.Term) (fo : Int) (bv : Value) (q : List (Tr.Lit × Value)) : Prop where
  went : RWent w wr R L en s
  rul : wr.heap[B]? = some (.cells #[.int .i64 at_, .string ⟨nm.toArray⟩, tv, .int .i64 fo, bv] 57)
  trm : TermsP (B + 1) wr tv ts
  own : wr.ownsRow (B + 1) 61 5 bv q.length (q.map litCells).flatten
  lts : ∀ p, p ∈ q → TermsP (B + 1) wr p.2 p.1.terms
  lt : R < w.heap.size
  ltB : w.heap.size ≤ B

section
variable {w wr w' : World} {B R : Nat} {L : List Tk.Tok} {en : Int} {s s' : Int ⊕ List Tk.Tok} {at_ : Int} {nm : List UInt8} {tv : Value} {ts : List Tr.Term} {fo : Int} {bv : Value} {q : List (Tr.Lit × Value)}
theorem RU.start {w1 : World} (hA : RAt w R L en s) (hb : Below w.heap.size w w1) (at_ : Int) :
    RU w (w1.alloc (.cells #[.int .i64 at_, .string ⟨#[]⟩, .slice none 0 0, .int .i64 0, .slice none 0 0] 57)) w1.heap.size R L en s at_ [] (.slice none 0 0) [] 0 (.slice none 0 0) [] where
  went := RWent.below (w1 := w1) (RWent.below (w1 := w) ⟨grownBy_of_below (Below.refl _ _) _, hA⟩ hb) ((Below.refl _ _).alloc (Nat.le_refl _) _)
  rul := heap_alloc_new w1 _
  trm := ⟨none, 0, rfl, .inl rfl⟩
  own := World.ownsRow_nil _ _ _ _
  lts := fun p hp => absurd hp (by simp)
  lt := hA.lt
  ltB := hb.size
theorem RU.on (h : RU w wr B R L en s at_ nm tv ts fo bv q) (hW : RWent wr w' R L en s') : RU w w' B R L en s' at_ nm tv ts fo bv q := by
  have h1 := h.lt
  have h2 := h.ltB
  exact { went := RWent.trans h.went hW
          rul := (hW.1.block _ (heap_lt h.rul) (by intro e; injection e; omega)).trans h.rul
          trm := h.trm.keep (keeps_grown _ hW.1 (by omega))
          own := ownsRow_grown h.own hW.1 (by omega)
          lts := fun p hp => (h.lts p hp).keep (keeps_grown _ hW.1 (by omega))
          lt := h1
          ltB := h2 }
theorem RU.below (h : RU w wr B R L en s at_ nm tv ts fo bv q) (hb : Below wr.heap.size wr w') : RU w w' B R L en s at_ nm tv ts fo bv q := h.on ⟨grownBy_of_below hb _, h.went.2.below hb⟩
theorem RU.on2 {wr' : World} (h : RU w wr B R L en s at_ nm tv ts fo bv q) (hW : RWent wr' w' R L en s') (hb : Below wr.heap.size wr wr') : RU w w' B R L en s' at_ nm tv ts fo bv q := (h.below hb).on hW
theorem RU.drew (h : RU w wr B R L en s at_ nm tv ts fo bv q) (n : Nat) : RU w (wr.drewN n) B R L en s at_ nm tv ts fo bv q := h.below (below_drewN (Below.refl _ _) n)
theorem RU.sz (h : RU w wr B R L en s at_ nm tv ts fo bv q) : B < wr.heap.size := heap_lt h.rul
theorem RU.cells (h : RU w wr B R L en s at_ nm tv ts fo bv q) :
    wr.cell? ⟨B, 0, none⟩ = some (.int .i64 at_) ∧ wr.cell? ⟨B, 1, none⟩ = some (.string ⟨nm.toArray⟩) ∧ wr.cell? ⟨B, 2, none⟩ = some tv ∧ wr.cell? ⟨B, 3, none⟩ = some (.int .i64 fo) ∧
      wr.cell? ⟨B, 4, none⟩ = some bv ∧ (∀ o, wr.frozen? ⟨B, o, none⟩ = false) :=
  ⟨by rw [Lib.cell_of_heap h.rul]; rfl, by rw [Lib.cell_of_heap h.rul]; rfl, by rw [Lib.cell_of_heap h.rul]; rfl, by rw [Lib.cell_of_heap h.rul]; rfl, by rw [Lib.cell_of_heap h.rul]; rfl, fun o => by simp [World.frozen?, h.rul]⟩
theorem RU.setName (h : RU w wr B R L en s at_ nm tv ts fo bv q) (t : List UInt8) : RU w (wr.setCell ⟨B, 1, none⟩ (.string ⟨t.toArray⟩)) B R L en s at_ t tv ts fo bv q where
  went := h.went.set h.lt h.ltB _ _
  rul := by have := h.rul; simp [World.setCell, Array.getElem?_modify, this]
  trm := h.trm.keep (keeps_set _ (by omega) _ _)
  own := ownsRow_setCell_below h.own (by simp) _
  lts := fun p hp => (h.lts p hp).keep (keeps_set _ (by omega) _ _)
  lt := h.lt
  ltB := h.ltB
theorem RU.setTerms (h : RU w wr B R L en s at_ nm tv ts fo bv q) {v : Value} {l : List Tr.Term} (hT : TermsP (B + 1) wr v l) (f : Int) : RU w ((wr.setCell ⟨B, 2, none⟩ v).setCell ⟨B, 3, none⟩ (.int .i64 f)) B R L en s at_ nm v l f bv q where
  went := (h.went.set h.lt h.ltB _ _).set h.lt h.ltB _ _
  rul := by have := h.rul; simp [World.setCell, Array.getElem?_modify, this]
  trm := (hT.keep (keeps_set _ (by omega) _ _)).keep (keeps_set _ (by omega) _ _)
  own := ownsRow_setCell_below (ownsRow_setCell_below h.own (by simp) _) (by simp) _
  lts := fun p hp => ((h.lts p hp).keep (keeps_set _ (by omega) _ _)).keep (keeps_set _ (by omega) _ _)
  lt := h.lt
  ltB := h.ltB
theorem RU.app {w3 : World} (h : RU w wr B R L en s at_ nm tv ts fo bv q) (hg : wr.grownBy w3 bv.ownBlock) :
    w3.heap[B]? = some (.cells #[.int .i64 at_, .string ⟨nm.toArray⟩, tv, .int .i64 fo, bv] 57) ∧ w3.cell? ⟨B, 4, none⟩ = some bv ∧ w3.frozen? ⟨B, 4, none⟩ = false := by
  have hne : ∀ i, i < B + 1 → some i ≠ bv.ownBlock := fun i hi he => by have := (h.own.lt i he.symm).1; omega
  have e2 := (hg.block _ (heap_lt h.rul) (hne _ (by omega))).trans h.rul
  exact ⟨e2, by rw [Lib.cell_of_heap e2]; rfl, by simp [World.frozen?, e2]⟩
theorem RU.put {w3 : World} {bv' : Value} {p : Tr.Lit × Value} (h : RU w wr B R L en s at_ nm tv ts fo bv q) (hg : wr.grownBy w3 bv.ownBlock) (hT : TermsP (B + 1) wr p.2 p.1.terms)
    (hown : w3.ownsRow (B + 1) 61 5 bv' (q.length + 1) ((q.map litCells).flatten ++ litCells p)) : RU w (w3.setCell ⟨B, 4, none⟩ bv') B R L en s at_ nm tv ts fo bv' (q ++ [p]) := by
  have hB := h.ltB
  have hk : Keeps (B + 1) wr w3 (· = 59) := keeps_own hg h.own (by decide)
  exact { went := (RWent.own h.went hg h.own (by omega) h.lt).set h.lt hB _ _
          rul := by have := (h.app hg).1; simp [World.setCell, Array.getElem?_modify, this]
          trm := (h.trm.keep hk).keep (keeps_set _ (by omega) _ _)
          own := ownsRow_setCell_below (by simpa using hown) (by simp) _
          lts := by
            intro p' hp'
            rw [List.mem_append, List.mem_singleton] at hp'
            rcases hp' with hp' | rfl
            · exact ((h.lts p' hp').keep hk).keep (keeps_set _ (by omega) _ _)
            · exact (hT.keep hk).keep (keeps_set _ (by omega) _ _)
          lt := h.lt
          ltB := hB }
theorem RU.lits (h : RU w wr B R L en s at_ nm tv ts fo bv q) : LitsP (B + 1) wr bv (q.map (·.1)) := ⟨q, rfl, rowP_own (by intro c hc; simp at hc; obtain ⟨x, y, _, rfl⟩ := hc; rfl) (by rw [List.length_map]; exact h.own), h.lts⟩
end

/-- ParseOf under way: its result's block, the reader's, the tree's, the rules so far. -/
structure TInv (w wr : World) (R T : Nat) (L : List Tk.Tok) (en : Int) (s : Int ⊕ List Tk.Tok) (v : Value) (q : List (Tr.Rule × Value × Value)) : Prop where
  bel : Below w.heap.size w wr
  res : wr.heap[w.heap.size]? = some (.cells #[.slice none 0 0] 36)
  tre : wr.heap[T]? = some (.cells #[v] 36)
  rd : RAt wr R L en s
  own : wr.ownsRow (T + 1) 57 5 v q.length (q.map ruleCells).flatten
  rls : ∀ p, p ∈ q → TermsP (T + 1) wr p.2.1 p.1.terms ∧ LitsP (T + 1) wr p.2.2 p.1.body
  ltR : w.heap.size < R
  ltT : R < T

section
variable {w wr w' wr' : World} {R T : Nat} {L : List Tk.Tok} {en : Int} {s s' : Int ⊕ List Tk.Tok} {v : Value} {q : List (Tr.Rule × Value × Value)}
theorem TInv.sz (h : TInv w wr R T L en s v q) : T < wr.heap.size := heap_lt h.tre
theorem TInv.on (h : TInv w wr R T L en s v q) (hW : RWent wr w' R L en s') : TInv w w' R T L en s' v q := by
  have hs := h.sz
  have h1 := h.ltR
  have h2 := h.ltT
  exact { bel := below_grown h.bel hW.1 (by omega) (by omega)
          res := (hW.1.block _ (heap_lt h.res) (by intro e; injection e; omega)).trans h.res
          tre := (hW.1.block _ (heap_lt h.tre) (by intro e; injection e; omega)).trans h.tre
          rd := hW.2
          own := ownsRow_grown h.own hW.1 (by omega)
          rls := fun p hp => ⟨(h.rls p hp).1.keep (keeps_grown _ hW.1 (by omega)), (h.rls p hp).2.keep (keeps_grown _ hW.1 (by omega))⟩
          ltR := h1
          ltT := h2 }
theorem TInv.below (h : TInv w wr R T L en s v q) (hb : Below wr.heap.size wr w') : TInv w w' R T L en s v q := h.on ⟨grownBy_of_below hb _, h.rd.below hb⟩
theorem TInv.cells (h : TInv w wr R T L en s v q) : wr.cell? ⟨T, 0, none⟩ = some v ∧ wr.frozen? ⟨T, 0, none⟩ = false ∧ wr.cell? ⟨w.heap.size, 0, none⟩ = some (.slice none 0 0) ∧ wr.frozen? ⟨w.heap.size, 0, none⟩ = false :=
  ⟨by rw [Lib.cell_of_heap h.tre]; rfl, by simp [World.frozen?, h.tre], by rw [Lib.cell_of_heap h.res]; rfl, by simp [World.frozen?, h.res]⟩
theorem TInv.app {w3 : World} (h : TInv w wr R T L en s v q) (hg : wr.grownBy w3 v.ownBlock) : w3.heap[T]? = some (.cells #[v] 36) ∧ w3.cell? ⟨T, 0, none⟩ = some v ∧ w3.frozen? ⟨T, 0, none⟩ = false := by
  have e1 := (hg.block _ (heap_lt h.tre) (fun he => by have := (h.own.lt _ he.symm).1; omega)).trans h.tre
  exact ⟨e1, by rw [Lib.cell_of_heap e1]; rfl, by simp [World.frozen?, e1]⟩
theorem TInv.put {w3 : World} {v' : Value} {p : Tr.Rule × Value × Value} (h : TInv w wr R T L en s v q) (hg : wr.grownBy w3 v.ownBlock) (hT : TermsP (T + 1) wr p.2.1 p.1.terms) (hL : LitsP (T + 1) wr p.2.2 p.1.body)
    (hown : w3.ownsRow (T + 1) 57 5 v' (q.length + 1) ((q.map ruleCells).flatten ++ ruleCells p)) : TInv w (w3.setCell ⟨T, 0, none⟩ v') R T L en s v' (q ++ [p]) := by
  have hs := h.sz
  have h1 := h.ltR
  have h2 := h.ltT
  have hne : ∀ i, i < T + 1 → some i ≠ v.ownBlock := fun i hi he => by have := (h.own.lt i he.symm).1; omega
  have hk : Keeps (T + 1) wr w3 (fun e => e = 59 ∨ e = 61) := keeps_own hg h.own (by decide)
  have e1 := (h.app hg).1
  exact { bel := (h.bel.grown hg (by omega) (fun k hk => by have := (h.own.lt k hk).1; omega)).setCell (p := ⟨T, 0, none⟩) (show w.heap.size ≤ T by omega) _
          res := (Below.heap_setCell _ _ _ _ (show ¬ w.heap.size = T by omega)).trans ((hg.block _ (heap_lt h.res) (hne _ (by omega))).trans h.res)
          tre := by simp [World.setCell, Array.getElem?_modify, e1]
          rd := h.rd.keep fun k hk => (Below.heap_setCell _ _ _ _ (show ¬ k = T by omega)).trans (hg.block k (by omega) (hne k (by omega)))
          own := ownsRow_setCell_below (by simpa using hown) (by simp) _
          rls := by
            intro p' hp'
            rw [List.mem_append, List.mem_singleton] at hp'
            rcases hp' with hp' | rfl
            · exact ⟨((h.rls p' hp').1.keep (hk.mono fun _ h => .inl h)).keep (keeps_set _ (by omega) _ _), ((h.rls p' hp').2.keep hk).keep (keeps_set _ (by omega) _ _)⟩
            · exact ⟨(hT.keep (hk.mono fun _ h => .inl h)).keep (keeps_set _ (by omega) _ _), (hL.keep hk).keep (keeps_set _ (by omega) _ _)⟩
          ltR := h1
          ltT := h2 }
theorem TInv.rules (h : TInv w wr R T L en s v q) : RulesP (T + 1) wr v (q.map (·.1)) := ⟨q, rfl, rowP_own (by intro c hc; simp at hc; obtain ⟨x, y, z, _, rfl⟩ := hc; rfl) (by rw [List.length_map]; exact h.own), h.rls⟩
end

end Go.Proofs.YtgpaleifhcdjnaaGreatDoor

/- The document's reader, whole: ParseOf answers the tree of a text, or where it is wrong and why. -/
namespace Go.Proofs.YtgpaleifhcdjnaaGreatDoor
open Go.RowKit

theorem TInv.start {w w1 : World} {L : List Tk.Tok} {ao : Option Addr} {cap : Nat} {en : Int} (hT : ToksAt w1 ao L) (hL : L.length ≤ 5000) (hG : ∀ t ∈ L, Tk.Good t) (hbw : Below w.heap.size w w1) (hres : w1.heap[w.heap.size]? = some (.cells #[.slice none 0 0] 36)) :
    TInv w ((w1.alloc (.cells #[.slice ao L.length cap, .int .i64 0, .int .i64 en, .bool false] 89)).alloc (.cells #[.slice none 0 0] 36)) w1.heap.size (w1.heap.size + 1) L en (.inr L) (.slice none 0 0) [] := by
  have old : ∀ (u : World) (o x : Obj) (k : Nat), u.heap[k]? = some x → (u.alloc o).heap[k]? = some x := fun u o x k hk => (((Below.refl u.heap.size u).alloc (Nat.le_refl _) o).block k (heap_lt hk)).trans hk
  have hlt := heap_lt hres
  have hrd : RAt (w1.alloc (.cells #[.slice ao L.length cap, .int .i64 0, .int .i64 en, .bool false] 89)) w1.heap.size L en (.inr L) := by
    refine ⟨0, ao, cap, Nat.zero_le _, hL, hG, heap_alloc_new w1 _, rfl, ?_⟩
    rcases hT with h | ⟨b, off, rfl, hc⟩
    · exact .inl h
    · cases L with
      | nil => exact .inl rfl
      | cons t l =>
        have b4 := (Below.refl w1.heap.size w1).alloc (Nat.le_refl _) (.cells #[.slice (some ⟨b, off, none⟩) (t :: l).length cap, .int .i64 0, .int .i64 en, .bool false] 89)
        exact .inr ⟨b, off, rfl, World.block_lt_of_cell? w1 _ (hc 0 (by simp)).1, fun i hi => ⟨cell_below b4 (hc i hi).1, cell_below b4 (hc i hi).2.1, cell_below b4 (hc i hi).2.2⟩⟩
  exact { bel := (hbw.alloc hbw.size _).alloc (by simp; have := hbw.size; omega) _
          res := old _ _ _ _ (old _ _ _ _ hres)
          tre := by have := heap_alloc_new (w1.alloc (.cells #[.slice ao L.length cap, .int .i64 0, .int .i64 en, .bool false] 89)) (.cells #[.slice none 0 0] 36); simpa using this
          rd := hrd.below ((Below.refl _ _).alloc (Nat.le_refl _) _)
          own := World.ownsRow_nil _ _ _ _
          rls := fun p hp => absurd hp (by simp)
          ltR := hlt
          ltT := Nat.lt_succ_self _ }
namespace Rd
/-- How much is left to be read. -/
def leftR (c : Option Value) (n : Nat) : Nat := match c with | some (.bool true) => 0 | _ => n + 1
def leftS (s : Int ⊕ List Tk.Tok) : Nat := match s with | .inl _ => 0 | .inr r => r.length + 1
end Rd
theorem RAt.left {w : World} {R : Nat} {L : List Tk.Tok} {en : Int} {s : Int ⊕ List Tk.Tok} (h : RAt w R L en s) : Rd.leftR (w.cell? ⟨R, 3, none⟩) (L.length - nxOf w R) = Rd.leftS s := by
  obtain ⟨_, _, _, _, _, _, _, q3, _⟩ := h.cells
  rw [q3]
  cases s with
  | inl a => rfl
  | inr r => rw [h.meas]; rfl
theorem rel_rule {en : Int} {r : List Tk.Tok} {f n N : Nat} {u : Tr.Rule} {s : Int ⊕ List Tk.Tok} {acc : List Tr.Rule} {X : Int ⊕ List Tr.Rule} (hE : Rd.Ends (Pr.rule en r) u s) (hX : (match Pr.rule en r with
    | .inl a => Sum.inl a
    | .inr x => Pr.rules en f (acc ++ [x.1]) x.2) = X) (hlen : n + r.length ≤ N) (hrf : r.length ≤ f + 1) :
    ((∃ a, s = .inl a ∧ X = .inl a) ∨ (∃ r' f', s = .inr r' ∧ n + 1 + r'.length ≤ N ∧ r'.length ≤ f' ∧ Pr.rules en f' (acc ++ [u]) r' = X)) ∧ Rd.leftS s < r.length + 1 := by
  cases hR : Pr.rule en r with
  | inl a =>
    rw [hR] at hE hX
    obtain rfl : s = .inl a := hE
    exact ⟨.inl ⟨a, rfl, hX.symm⟩, Nat.succ_pos _⟩
  | inr x =>
    have hl : x.2.length < r.length := rule_len hR
    rw [hR] at hE hX
    obtain ⟨h1, h2⟩ := (hE : u = x.1 ∧ s = .inr x.2)
    subst h1 h2
    exact ⟨.inr ⟨x.2, f, rfl, by omega, by omega, hX⟩, by show x.2.length + 1 < _; omega⟩

set_option maxRecDepth 100000 in
set_option maxHeartbeats 2000000 in
theorem ParseOf_any (s : ByteArray) (w : World) : Calls Tryz.prog 20 #[.string s] w (ParseTop (Pr.parse s.data.toList) w) := by
  obtain ⟨i0, hi, hz0, hz1, hz2⟩ := info_parts A_info49
  obtain ⟨j0, hj, hy0, hy1, hy2⟩ := info_parts A_info43
  rw [parse_eq]
  have HS : Hid (∀ w, Calls Tryz.prog 49 #[.string s] w (ScanTop s.data.toList w)) := fun w => ScanOf_any s w
  have hL : (Tk.scan s.data.toList).1.length ≤ 5000 := Tk.scan_length _
  have hG : ∀ t ∈ (Tk.scan s.data.toList).1, Tk.Good t := Tk.scan_good _
  unfold ScanTop at HS
  rcases hX : Tk.scan s.data.toList with ⟨T, p, E⟩
  rw [hX] at HS hL hG
  simp only at HS hL hG
  clear hX
  have HQ : Hid (∀ X, Pr.parseOf s.size (T, p, E) = X → ∀ e w', ParseTop X w e w' → ParseTop (Pr.parseOf s.size (T, p, E)) w e w') := by rintro X rfl e w' h; exact h
  generalize ParseTop (Pr.parseOf s.size (T, p, E)) w = Q at HQ ⊢
  go_enter Tryz.func20, Tryz.ntmps20
  go_wp2_with fail
  refine Calls.mono (HS.out _) ?_
  rintro e w1 ⟨ao, cap, rfl, hown, hb⟩
  have hT := toksAt_own hown
  clear hown HS
  have hres : w1.heap[w.heap.size]? = some (.cells #[.slice none 0 0] 36) := (hb.block _ (by simp)).trans (heap_alloc_new w _)
  have hbw : Below w.heap.size w w1 := ((Below.refl w.heap.size w).alloc (Nat.le_refl _) _).trans (hb.mono (by simp))
  obtain ⟨c0, f0⟩ := tree_cell hres
  cases hE : (E == 0)
  · have HP2 : Hid (Pr.parseOf s.size (T, p, E) = ([], (p : Int), E)) := by
      unfold Pr.parseOf
      rw [if_neg (by intro e; simp only at e; rw [e] at hE; exact absurd hE (by decide))]
      exact rfl
    go_wp2_with fail
    exact bodyPost_ret (v := .tuple #[.agg #[.slice none 0 0], .int .i64 p, .int .i64 E]) (by simp [results, Tryz.results20, go_sem, c0]) rfl (HQ.out _ HP2.out _ _ ⟨none, 0, rfl, rulesP_nil _ _, hbw.setCell (p := ⟨w.heap.size, 0, none⟩) (Nat.le_refl _) _⟩)
  · obtain rfl : E = 0 := eq_of_beq hE
    have HP2 : Hid (∀ X, Pr.rules s.size T.length [] T = X → Pr.parseOf s.size (T, p, 0) = match X with
      | .inl a => ([], a, 1)
      | .inr t => if Tr.check t = 0 then (t, 0, 0) else ([], 0, Tr.check t)) := by
      rintro X rfl
      unfold Pr.parseOf
      rw [if_pos rfl]
      exact rfl
    have hst := TInv.start (en := s.size) (cap := cap) hT hL hG hbw hres
    clear hE c0 f0 hT hb hres hbw hG
    generalize hRR : (s.size : Int) = en at *
    go_wp2_with fail
    clear hRR
    generalize (w1.alloc (.cells #[.slice ao T.length cap, .int .i64 0, .int .i64 en, .bool false] 89)).alloc (.cells #[.slice none 0 0] 36) = w2 at *
    generalize w1.heap.size + 1 = TB at *
    generalize w1.heap.size = R at *
    go_loopw [] (fun wr => ∃ (v : Value) (q : List (Tr.Rule × Value × Value)) (sx : Int ⊕ List Tk.Tok), TInv w wr R TB T en sx v q ∧ q.length ≤ 5001 ∧ ((∃ a, sx = .inl a ∧ Pr.rules en T.length [] T = .inl a) ∨ (∃ r f, sx = .inr r ∧ q.length + r.length ≤ T.length ∧ r.length ≤ f ∧ Pr.rules en f (q.map (·.1)) r = Pr.rules en T.length [] T)))
      (fun wr => Rd.leftR (wr.cell? ⟨R, 3, none⟩) (T.length - nxOf wr R))
    case atStart => exact ⟨_, [], .inr T, hst, by simp, .inr ⟨T, T.length, rfl, by simp, Nat.le_refl _, rfl⟩⟩
    case round =>
      rename World => wo
      obtain ⟨v, q, sx, hI, hq5, hcase⟩ := hrel
      clear hst
      obtain ⟨aov, capv, rfl⟩ := own_slice hI.own
      rcases hcase with ⟨a, rfl, hXa⟩ | ⟨r, f, rfl, hlen, hrf, hXr⟩
      · have HP3 : Hid (Pr.parseOf en (T, p, 0) = ([], a, 1)) := HP2.out _ hXa
        obtain ⟨nx, ao', cap', hnx, q0, q1, q2, q3, f1, f3⟩ := hI.rd.cells
        replace q3 : wo.cell? ⟨R, 3, none⟩ = some (.bool true) := q3
        have HH := Here_any R T en (.inl a) wo hI.rd
        have HH : Calls Tryz.prog 50 #[.pointer (some ⟨R, 0, none⟩)] wo fun e w' => e = .returned (.int .i64 a) ∧ ∃ k, w' = wo.drewN k := HH
        obtain ⟨t0, t1, x0, x1⟩ := hI.cells
        clear HP2 hXa
        go_wp2_with fail
        refine HH.mono ?_
        rintro e w3 ⟨rfl, k3, rfl⟩
        go_wp2_with fail
        exact bodyPost_ret (v := .tuple #[.agg #[.slice none 0 0], .int .i64 a, .int .i64 1]) (by simp [results, Tryz.results20, go_sem, x0]) rfl (HQ.out _ HP3.out _ _ ⟨none, 0, rfl, rulesP_nil _ _, (below_drewN hI.bel k3).setCell (p := ⟨w.heap.size, 0, none⟩) (Nat.le_refl _) _⟩)
      · obtain ⟨nx, ao', cap', h1, _, _, h4, h5, _⟩ := hI.rd
        have h5 : T.drop nx = r := h5
        have q0 : wo.cell? ⟨R, 0, none⟩ = some (.slice ao' T.length cap') := by rw [Lib.cell_of_heap h4]; rfl
        have q1 : wo.cell? ⟨R, 1, none⟩ = some (.int .i64 nx) := by rw [Lib.cell_of_heap h4]; rfl
        have q3 : wo.cell? ⟨R, 3, none⟩ = some (.bool false) := by rw [Lib.cell_of_heap h4]; rfl
        clear h4
        by_cases hr : r = []
        · subst hr
          have hnx : nx = T.length := by
            have := congrArg List.length h5
            simp at this
            omega
          subst hnx
          have hXe : Pr.rules en T.length [] T = .inr (q.map (·.1)) := by
            cases f <;> simpa [Pr.rules] using hXr.symm
          have HP3 : Hid (Pr.parseOf en (T, p, 0) = if Tr.check (q.map (·.1)) = 0 then ((q.map (·.1)), 0, 0) else ([], 0, Tr.check (q.map (·.1)))) := HP2.out _ hXe
          have hP := hI.rules
          have hqm : (q.map (·.1)).length = q.length := by simp
          have hbel := hI.bel
          have hszT := hI.sz
          have hltT := hI.ltT
          have hltR := hI.ltR
          obtain ⟨t0, t1, x0, x1⟩ := hI.cells
          have hres := hI.res
          have htre := hI.tre
          clear hXe hXr HP2 h5 hI
          generalize q.map (·.1) = t at hP hqm HP3
          have HK : Hid (∀ w, RulesV w (.slice aov q.length capv) t → Calls Tryz.prog 43 #[.agg #[.slice aov q.length capv]] w fun e w' => e = .returned (.int .i64 (Tr.check t)) ∧ Below w.heap.size w w') := fun w h => CheckTree_any t _ w h
          have hdl : decide (T.length < T.length) = false := by simp
          go_wp2_with fail
          refine Calls.mono (HK.out _ hP.toV) ?_
          rintro e w3 ⟨rfl, hb3⟩
          have hres4 := (hb3.block _ (heap_lt hres)).trans hres
          have htr4 := (hb3.block _ (heap_lt htre)).trans htre
          have hbw4 := hbel.trans (hb3.mono hbel.size)
          have hP4 := hP.below hb3
          clear HK hres htre hb3 hP t0 t1 x0 x1 q0 q1 q3
          obtain ⟨c0, f0⟩ := tree_cell hres4
          obtain ⟨c1, f1⟩ := tree_cell htr4
          cases hC : (Tr.check t == 0)
          · have HP4 : Hid (Pr.parseOf en (T, p, 0) = ([], 0, Tr.check t)) := by
              have := HP3.out
              rw [if_neg (by intro e; rw [e] at hC; exact absurd hC (by decide))] at this
              exact this
            go_wp2_with fail
            exact bodyPost_ret (v := .tuple #[.agg #[.slice none 0 0], .int .i64 0, .int .i64 (Tr.check t)]) (by simp [results, Tryz.results20, go_sem, c0]) rfl (HQ.out _ HP4.out _ _ ⟨none, 0, rfl, rulesP_nil _ _, hbw4.setCell (p := ⟨w.heap.size, 0, none⟩) (Nat.le_refl _) _⟩)
          · have HP4 : Hid (Pr.parseOf en (T, p, 0) = (t, 0, 0)) := by
              have := HP3.out
              rw [if_pos (eq_of_beq hC)] at this
              exact this
            have hC0 : Tr.check t = 0 := eq_of_beq hC
            generalize Tr.check t = ct at *
            subst hC0
            clear hC
            go_wp2_with fail
            exact bodyPost_ret (v := .tuple #[.agg #[.slice aov q.length capv], .int .i64 0, .int .i64 0]) (by simp [results, Tryz.results20, go_sem, c0]) rfl (HQ.out _ HP4.out _ _ ⟨aov, capv, by rw [hqm], by rw [hqm]; exact (hP4.set (by omega) _ _).mono (by omega), hbw4.setCell (p := ⟨w.heap.size, 0, none⟩) (Nat.le_refl _) _⟩)
        · obtain ⟨f, rfl⟩ : ∃ f', f = f' + 1 := by
            cases r with
            | nil => exact absurd rfl hr
            | cons t l => exact ⟨f - 1, by simp at hrf; omega⟩
          have hlt : nx < T.length := by
            rcases Nat.lt_or_ge nx T.length with h | h
            · exact h
            · exact absurd (h5.symm.trans (List.drop_of_length_le h)) hr
          have hdl : decide (nx < T.length) = true := decide_eq_true hlt
          have HXR : Hid _ := (rules_step (en := en) (f := f) (acc := q.map (·.1)) hr).symm.trans hXr
          have hmeas := hI.rd.meas
          have HH := Here_any R T en (.inr r) wo hI.rd
          have HNM : Hid (∀ w1, RAt w1 R T en (.inr r) → _) := fun w1 h => Name_any R T en (.inr r) w1 h
          have HER : Hid (∀ nm s1 p s2 b s3, Rd.Ends (Rd.on (Pr.name en) (.inr r)) nm s1 → Rd.Ends (Rd.on (Pr.terms true en) s1) p s2 → Rd.Ends (Rd.body p.2 en s2) b s3 → Rd.Ends (Pr.rule en r) ⟨Rd.here en (.inr r), nm, p.1, p.2, b⟩ (Rd.need [46] en s3)) := fun nm s1 p s2 b s3 a b c => Rd.ends_rule a b c
          generalize Rd.here en (.inr r) = at_ at *
          clear hXr h5 HP2 HQ
          go_wp2_with fail
          refine HH.mono ?_
          rintro e w3 ⟨rfl, k3, hw3⟩
          have hU := RU.start hI.rd (show Below wo.heap.size wo w3 by rw [hw3]; exact below_drewN (Below.refl _ _) k3) at_
          have hsz3 : wo.heap.size = w3.heap.size := by rw [hw3]; rfl
          clear HH hw3
          go_upto_region 8 with fail
          generalize w3.alloc (.cells #[.int .i64 at_, .string ⟨#[]⟩, .slice none 0 0, .int .i64 0, .slice none 0 0] 57) = w4 at *
          generalize hB : w3.heap.size = B at *
          clear hB q0 q1 q3
          obtain ⟨c0, c1, c2, c3, c4, f1⟩ := hU.cells
          go_wp2_with fail
          refine Calls.mono (HNM.out _ hU.went.2) ?_
          rintro e w5 ⟨nm, s1, rfl, hE1, hA5, hg5⟩
          have HE1 : Hid _ := hE1
          have hU2 := hU.on ⟨hg5, hA5⟩
          clear hU hE1 hA5 hg5 HNM c0 c1 c2 c3 c4 f1
          obtain ⟨c0, c1, c2, c3, c4, f1⟩ := hU2.cells
          have hU3 := hU2.setName nm
          go_wp2_with fail
          refine (Terms_any true R T en s1 _ hU3.went.2).mono ?_
          rintro e w7 ⟨tv, pp, s2, rfl, hE2, hT7, hW7⟩
          have HE2 : Hid _ := hE2
          have hU4 := hU3.on hW7
          have hT7' := hT7.mono (B' := B + 1) hU3.sz
          clear hE2 hU2 hU3 hW7 c0 c1 c2 c3 c4 f1
          obtain ⟨c0, c1, c2, c3, c4, f1⟩ := hU4.cells
          obtain ⟨aot, capt, htv, _⟩ := hT7
          rw [List.length_map] at htv
          subst htv
          have hU5 := hU4.setTerms hT7' pp.2
          go_upto_region 10 with fail
          generalize (w7.setCell ⟨B, 2, none⟩ (.slice aot pp.1.length capt)).setCell ⟨B, 3, none⟩ (.int .i64 pp.2) = w8 at *
          clear c0 c1 c2 c3 c4 f1 hU4 hT7'
          obtain ⟨c0, c1, c2, c3, c4, f1⟩ := hU5.cells
          have HTX := Text_any R T en s2 w8 hU5.went.2
          go_cut [53] (fun v wx => v = .bool (Rd.goesOn pp.2 s2) ∧ ∃ k, wx = w8.drewN k)
          case first =>
            have HG : Hid (Rd.goesOn pp.2 s2 = (decide (0 < pp.2) || !(Rd.text s2 == [46]))) := rfl
            generalize Rd.goesOn pp.2 s2 = G at *
            generalize Rd.text s2 = ty at *
            by_cases hf : 0 < pp.2
            · have hd : decide ((0 : Int) < pp.2) = true := decide_eq_true hf
              have hG := HG.out
              rw [hd] at hG
              subst hG
              clear HG hf
              go_wp2_with fail
              go_meet
              exact ⟨rfl, 0, rfl⟩
            · have hd : decide ((0 : Int) < pp.2) = false := decide_eq_false hf
              have hG := HG.out
              rw [hd] at hG
              clear HG hf
              go_wp2_with fail
              refine HTX.mono ?_
              rintro e w9 ⟨rfl, k9, rfl⟩
              go_wp2_with fail
              go_meet
              refine ⟨?_, k9, rfl⟩
              rw [hG]
              simp
          case rest =>
            obtain ⟨rfl, k9, rfl⟩ := hcut
            have hU6 := hU5.drew k9
            clear c0 c1 c2 c3 c4 f1 hU5 HTX
            generalize w8.drewN k9 = w9 at *
            go_upto_if 53 with fail
            go_cut [] (fun wx => ∃ bv bq s3, Rd.Ends (Rd.body pp.2 en s2) (bq.map (·.1)) s3 ∧ RU wo wx B R T en s3 at_ nm (.slice aot pp.1.length capt) pp.1 pp.2 bv bq)
            case first =>
              cases hG : Rd.goesOn pp.2 s2
              · have HE3 : Hid (Rd.Ends (Rd.body pp.2 en s2) (([] : List (Tr.Lit × Value)).map (·.1)) s2) := by
                  show Rd.Ends _ _ _
                  unfold Rd.body
                  rw [hG]
                  simp only [Bool.false_eq_true, if_false]
                  cases s2 with
                  | inl a => exact rfl
                  | inr r => exact ⟨rfl, rfl⟩
                go_wp2_with fail
                go_meet
                exact ⟨_, [], s2, HE3.out, hU6⟩
              · have HEB : Hid (∀ X, Rd.on (Pr.lits en (Rd.lenS (Rd.need [58, 45] en s2) + 1) []) (Rd.need [58, 45] en s2) = X → Rd.body pp.2 en s2 = X) := by
                  intro X hX
                  unfold Rd.body
                  rw [hG, ← hX]
                  simp only [if_true]
                  cases Rd.need [58, 45] en s2 <;> rfl
                have HN := Need_any [58, 45] (by simp) R T en s2 w9 hU6.went.2
                clear hG
                go_wp2_with fail
                refine HN.mono ?_
                rintro e w10 ⟨rfl, hA10, hg10⟩
                have hU7 := hU6.on ⟨hg10, hA10⟩
                clear hU6 HN hg10
                generalize Rd.need [58, 45] en s2 = s3 at *
                have hlen3 : Rd.lenS s3 ≤ T.length := by
                  cases s3 with
                  | inl a => exact Nat.zero_le _
                  | inr r => exact hA10.len.1
                clear hA10
                generalize hLX : Rd.on (Pr.lits en (Rd.lenS s3 + 1) []) s3 = LX at *
                have HEB2 : Hid (Rd.body pp.2 en s2 = LX) := HEB.out LX rfl
                clear HEB
                go_wp2_with fail
                go_loopw [11] (fun c wx => ∃ (bv : Value) (bq : List (Tr.Lit × Value)) (s4 : Int ⊕ List Tk.Tok), RU wo wx B R T en s4 at_ nm (.slice aot pp.1.length capt) pp.1 pp.2 bv bq ∧ bq.length ≤ 5001 ∧
                    ((c = .bool true ∧ bq.length + Rd.lenS s4 ≤ T.length ∧ ∃ f, Rd.lenS s4 < f ∧ Rd.on (Pr.lits en f (bq.map (·.1))) s4 = LX) ∨ (c = .bool false ∧ Rd.Ends LX (bq.map (·.1)) s4)))
                  (fun c wx => Rd.left c (T.length - nxOf wx R))
                case atStart => exact ⟨_, [], s3, hU7, by simp, .inl ⟨rfl, by simpa using hlen3, _, Nat.lt_succ_self _, hLX⟩⟩
                case round =>
                  obtain ⟨bv, bq, s4, hUr, hbq, hc⟩ := hrel
                  clear hU7 hlen3 hLX
                  obtain ⟨aob, capb, rfl⟩ := own_slice hUr.own
                  obtain ⟨nx4, ao4, cap4, hnx4, q0, q1, q2, q3, g1, g3⟩ := hUr.went.2.cells
                  rcases hc with ⟨rfl, hlen4, f4, hf4, hX4⟩ | ⟨rfl, hE4⟩
                  · cases s4 with
                    | inl a =>
                      have HE4 : Hid (Rd.Ends (Rd.body pp.2 en s2) (bq.map (·.1)) (.inl a)) := by show Rd.Ends _ _ _; rw [HEB2.out, ← hX4]; exact rfl
                      replace q3 : wr.cell? ⟨R, 3, none⟩ = some (.bool true) := q3
                      clear hX4
                      go_wp2_with fail
                      go_meet
                      exact ⟨_, bq, _, HE4.out, hUr⟩
                    | inr r4 =>
                      replace q3 : wr.cell? ⟨R, 3, none⟩ = some (.bool false) := q3
                      obtain ⟨f4, rfl⟩ : ∃ f', f4 = f' + 1 := ⟨f4 - 1, by omega⟩
                      have HX4 : Hid (Pr.lits en (f4 + 1) (bq.map (·.1)) r4 = LX) := hX4
                      have hms := hUr.went.2.meas
                      have HLT : Hid (∀ w1, RAt w1 R T en (.inr r4) → _) := fun w1 h => Lit_any R T en (.inr r4) w1 h
                      unfold RLitEnd at HLT
                      obtain ⟨c0, c1, c2, c3, c4, f1⟩ := hUr.cells
                      have hRB : R < B + 1 := by have := hUr.lt; have := hUr.ltB; omega
                      clear hX4
                      go_upto_region 14 with fail
                      go_cut [] (fun wx => ∃ bv l1 lv s5, Rd.Ends (Pr.lit en r4) l1 s5 ∧ RU wo wx B R T en s5 at_ nm (.slice aot pp.1.length capt) pp.1 pp.2 bv (bq ++ [(l1, lv)]))
                      case first =>
                        go_region_law (first
                          | (go_simp; go_at_call 55; refine Calls.mono (HLT.out _ (RAt.keep hUr.went.2 (fun _ _ => rfl))) ?_; rintro e y2 ⟨l1, lv, s5, rfl, hE5, hTl, hW5⟩; have HE5 : Hid _ := hE5; have hU8 := RU.on2 hUr hW5 ⟨rfl, rfl, rfl, Nat.le_refl _, fun _ _ => rfl⟩; have hTl2 := TermsP.mono (B' := B + 1) hTl hUr.sz; obtain ⟨aol, capl, hlv, hTl'⟩ := hTl; simp only [List.length_map] at hlv; subst hlv; obtain ⟨d0, d1, d2, d3, d4, g1⟩ := hU8.cells; have hsz := hU8.sz; clear hE5; dsimp only)
                          | (refine step_append_lies _ rfl (.tmp 62) (.tmp 64) 55 rfl (B + 1) 61 i0 _ 5 64 Tryz.underlying55 hi hz0 hz1 hz2 rfl (by decide) (.slice aob bq.length capb) bq.length _ ?hs (RU.below hU8 ((Below.refl _ _).alloc (Nat.le_refl _) _)).own ⟨y2.heap.size, 0, none⟩ 1 1 (litCells (l1, .slice aol l1.terms.length capl)) ?hx rfl ?hn ?ho ?hm ?h6 ?hb ?hB _ rfl ?_
                             case hs => simp [Act.eval]
                             case hx => simp [Act.eval]
                             case hn => exact news_lit _ _ _
                             case ho => exact one_lit _ _ _ _
                             case hm => decide
                             case h6 => (unfold maxLen; omega)
                             case hb => omega
                             case hB => (simp; omega)
                             intro g cap y3 hown hgrow hat hlt
                             have hU9 := RU.put (RU.below hU8 ((Below.refl _ _).alloc (Nat.le_refl _) _)) hgrow (hTl2.keep (keeps_below _ ((Below.refl _ _).alloc (Nat.le_refl _) _))) hown
                             obtain ⟨_, e4, ef⟩ := RU.app (RU.below hU8 ((Below.refl _ _).alloc (Nat.le_refl _) _)) hgrow))
                        all_goals (go_wp2_with fail; go_meet)
                        all_goals exact ⟨_, l1, _, s5, HE5.out, hU9⟩
                      case rest =>
                        obtain ⟨bv, l1, lv, s5, hE5, hU9⟩ := hcut
                        have HE5 : Hid (Rd.Ends (Pr.lit en r4) l1 s5) := hE5
                        generalize wc = w14 at *
                        clear hE5 hUr HLT c0 c1 c2 c3 c4 f1 q0 q1 q2 q3 g1 g3
                        have HT9 := Text_any R T en s5 w14 hU9.went.2
                        have hlen4' : bq.length + r4.length ≤ T.length := hlen4
                        have hf4' : r4.length < f4 + 1 := hf4
                        have hbl : ∀ lv' : Value, (bq ++ [(l1, lv')]).length = bq.length + 1 := fun lv' => by simp
                        have hbm : ∀ lv' : Value, (bq ++ [(l1, lv')]).map (fun (x : Tr.Lit × Value) => x.1) = bq.map (fun (x : Tr.Lit × Value) => x.1) ++ [l1] := fun lv' => by simp
                        cases hq : (Rd.text s5 == [44])
                        · have HE7 : Hid (Rd.Ends LX ((bq ++ [(l1, lv)]).map (·.1)) s5) := by
                            show Rd.Ends _ _ _
                            rw [hbm]
                            have h := HE5.out
                            have hx := HX4.out
                            cases hT : Pr.lit en r4 with
                            | inl a => rw [lits_no hT] at hx; rw [hT] at h; rw [← hx]; exact h
                            | inr y =>
                              rw [lits_yes hT] at hx
                              rw [hT] at h
                              obtain ⟨h1, h2⟩ := (h : l1 = y.1 ∧ s5 = .inr y.2)
                              subst h1 h2
                              unfold Pr.after at hx
                              rw [Rd.text_no hq] at hx
                              rw [← hx]
                              exact ⟨rfl, rfl⟩
                          clear HX4 HE5
                          generalize Rd.text s5 = tq at *
                          go_wp2_with fail
                          refine HT9.mono ?_
                          rintro e w15 ⟨rfl, k15, rfl⟩
                          go_wp2_with fail
                          go_roundw
                          case rel => exact ⟨_, bq ++ [(l1, lv)], s5, hU9.drew k15, by rw [hbl]; omega, .inr ⟨rfl, HE7.out⟩⟩
                          case measure => exact Nat.succ_pos _
                        · obtain ⟨r6, rfl, hy⟩ := Rd.text_yes (en := en) (by simp) hq
                          have hT : Pr.lit en r4 = .inr (l1, r6) := by
                            have h := HE5.out
                            cases hT : Pr.lit en r4 with
                            | inl a => rw [hT] at h; exact absurd h (by simp [Rd.Ends])
                            | inr y =>
                              rw [hT] at h
                              obtain ⟨h1, h2⟩ := (h : l1 = y.1 ∧ Sum.inr r6 = Sum.inr y.2)
                              injection h2 with h2
                              rw [h1, h2]
                          have hl6 : r6.length < r4.length := lit_len hT
                          have HX8 : Hid (Rd.on (Pr.lits en f4 ((bq ++ [(l1, lv)]).map (·.1))) (.inr r6.tail) = LX) := by
                            show Pr.lits en f4 _ r6.tail = LX
                            have hx := HX4.out
                            rw [lits_yes hT] at hx
                            unfold Pr.after at hx
                            rw [hbm, ← hx]
                            simp only [hy, if_true]
                          have hlt6 : r6.tail.length ≤ r6.length := by simp
                          clear HX4 HE5 hT
                          generalize Rd.text (.inr r6) = tq at *
                          go_wp2_with fail
                          refine HT9.mono ?_
                          rintro e w15 ⟨rfl, k15, rfl⟩
                          have hU10 := hU9.drew k15
                          have HN := Need_any [44] (by simp) R T en (.inr r6) _ hU10.went.2
                          rw [Rd.need_yes hy] at HN
                          go_wp2_with fail
                          refine HN.mono ?_
                          rintro e w16 ⟨rfl, hA16, hg16⟩
                          go_wp2_with fail
                          go_roundw
                          case rel => exact ⟨_, bq ++ [(l1, lv)], .inr r6.tail, hU10.on ⟨hg16, hA16⟩, by rw [hbl]; omega, .inl ⟨rfl, by rw [hbl]; show bq.length + 1 + r6.tail.length ≤ T.length; omega, f4, by show r6.tail.length < f4; omega, HX8.out⟩⟩
                          case measure =>
                            show (T.length - nxOf w16 R) + 1 < (T.length - nxOf wr R) + 1
                            rw [hA16.meas, hms]
                            omega
                  · have HE4 : Hid (Rd.Ends (Rd.body pp.2 en s2) (bq.map (·.1)) s4) := by show Rd.Ends _ _ _; rw [HEB2.out]; exact hE4
                    clear hE4
                    go_wp2_with fail
                    go_meet
                    exact ⟨_, bq, _, HE4.out, hUr⟩
            case rest =>
              obtain ⟨bv, bq, s3, hE3, hU7⟩ := hcut
              have HE3 : Hid _ := HER.out _ _ _ _ _ _ HE1.out HE2.out hE3
              generalize wc = w12 at *
              clear hE3 hU6 HE1 HE2 HER
              obtain ⟨aob, capb, rfl⟩ := own_slice hU7.own
              have HN := Need_any [46] (by simp) R T en s3 w12 hU7.went.2
              go_wp2_with fail
              refine HN.mono ?_
              rintro e w13 ⟨rfl, hA13, hg13⟩
              have hU8 := hU7.on ⟨hg13, hA13⟩
              have hI8 := hI.on hU8.went
              have hTrm := hU8.trm.mono (B' := TB + 1) (by have := hU8.ltB; have := hI.sz; omega)
              have hLts := hU8.lits.mono (B' := TB + 1) (by have := hU8.ltB; have := hI.sz; omega)
              obtain ⟨c0, c1, c2, c3, c4, f1⟩ := hU8.cells
              obtain ⟨t0, t1, x0, x1⟩ := hI8.cells
              have hszT := hI8.sz
              clear HN hU7 hA13 hg13
              generalize Rd.need [46] en s3 = s5 at *
              go_wp2_with (at_builtin; refine wpList_append_own _ rfl (.tmp 73) (.tmp 75) 34 rfl (TB + 1) 57 j0 _ 5 80 Tryz.underlying34 hj hy0 hy1 hy2 rfl (by decide) _ _ _ rfl (ownsRow_below hI8.own ((Below.refl _ _).alloc (Nat.le_refl _) _)) ⟨w13.heap.size, 0, none⟩ 1 1 (ruleCells (⟨at_, nm, pp.1, pp.2, bq.map (·.1)⟩, .slice aot pp.1.length capt, .slice aob bq.length capb)) rfl rfl ?c1 ?c2 ?c3 ?c4 ?c5 ?_)
              case c1 => exact news_rule _ ⟨at_, nm, pp.1, pp.2, bq.map (·.1)⟩ _ _
              case c2 => exact one_rule _ _ _ _ _ _ _
              case c3 => unfold maxLen; omega
              case c4 => omega
              case c5 => simp; omega
              intro v' w14 hown14 hgrow _
              have hI9 := TInv.put (v' := v') (p := (⟨at_, nm, pp.1, pp.2, bq.map (·.1)⟩, .slice aot pp.1.length capt, .slice aob bq.length capb)) (hI8.below ((Below.refl _ _).alloc (Nat.le_refl _) _)) hgrow (hTrm.keep (keeps_below _ ((Below.refl _ _).alloc (Nat.le_refl _) _))) (hLts.keep (keeps_below _ ((Below.refl _ _).alloc (Nat.le_refl _) _))) hown14
              obtain ⟨_, e4, ef⟩ := TInv.app (hI8.below ((Below.refl _ _).alloc (Nat.le_refl _) _)) hgrow
              obtain ⟨ao9, cap9, rfl⟩ := own_slice hown14
              clear c0 c1 c2 c3 c4 f1 t0 t1 x0 x1 hTrm hLts hU8 hI8
              go_wp2_with fail
              go_roundw
              case rel =>
                refine ⟨_, _, s5, hI9, by rw [List.length_append]; show q.length + 1 ≤ 5001; omega, ?_⟩
                have hr := (rel_rule HE3.out HXR.out hlen hrf).1
                rcases hr with ⟨a, h1, h2⟩ | ⟨r', f', h1, h2, h3, h4⟩
                · exact .inl ⟨a, h1, h2⟩
                · exact .inr ⟨r', f', h1, by rw [List.length_append]; exact h2, h3, by rw [List.map_append]; exact h4⟩
              case measure =>
                rw [hI9.rd.left, hI.rd.left]
                exact (rel_rule HE3.out HXR.out hlen hrf).2

end Go.Proofs.YtgpaleifhcdjnaaGreatDoor

/- The document's ProgramOf; Resolve and Program without a condition. -/
namespace Go.Proofs.YtgpaleifhcdjnaaGreatDoor
open Go.RowKit


set_option maxRecDepth 100000 in
set_option maxHeartbeats 2000000 in
theorem ProgramOf_any (s : ByteArray) (w : World) :
    Calls Tryz.prog 16 #[.string s] w fun e w' => ∃ va vn vr, e = .returned (.tuple #[progVal va vn vr, .int .i64 (Sc.programOf (Pr.parse s.data.toList)).2.1, .int .i64 (Sc.programOf (Pr.parse s.data.toList)).2.2]) ∧ ProgV w' va vn vr (Sc.programOf (Pr.parse s.data.toList)).1 ∧ Below w.heap.size w w' := by
  have HP : Hid (∀ y, Calls Tryz.prog 20 #[.string s] y (ParseTop (Pr.parse s.data.toList) y)) := ParseOf_any s
  generalize Pr.parse s.data.toList = X at *
  obtain ⟨t, a, c⟩ := X
  go_enter Tryz.func16, Tryz.ntmps16
  go_wp2_with fail
  refine Calls.mono (HP.out _) ?_
  rintro e w1 ⟨ao, cap, rfl, hR, hb⟩
  have hM := heap_alloc_new w (.cells #[.slice none 0 0, .slice none 0 0, .slice none 0 0] 26)
  have hba : Below w.heap.size w (w.alloc (.cells #[.slice none 0 0, .slice none 0 0, .slice none 0 0] 26)) := (Below.refl _ _).alloc (Nat.le_refl _) _
  have hM1 := (hb.block _ (heap_lt hM)).trans hM
  have hb1 := hba.trans (hb.mono hba.size)
  have hsz1 := heap_lt hM1
  have HRV : Hid (RulesV w1 (.slice ao t.length cap) t) := hR.toV
  clear hM hba hb hR HP
  have hbt : Below w1.heap.size w1 (w1.alloc (.cells #[.slice ao t.length cap] 36)) := (Below.refl _ _).alloc (Nat.le_refl _) _
  have hM2 := (hbt.block _ hsz1).trans hM1
  have hb2 := hb1.trans (hbt.mono hb1.size)
  have hsz2 := heap_lt hM2
  have HRV2 : Hid (RulesV (w1.alloc (.cells #[.slice ao t.length cap] 36)) (.slice ao t.length cap) t) := rulesV_below HRV.out hbt
  have o0 : (w1.alloc (.cells #[.slice ao t.length cap] 36)).cell? ⟨w.heap.size, 0, none⟩ = some (.slice none 0 0) := by rw [Lib.cell_of_heap hM2]; rfl
  have o1 : (w1.alloc (.cells #[.slice ao t.length cap] 36)).cell? ⟨w.heap.size, 1, none⟩ = some (.slice none 0 0) := by rw [Lib.cell_of_heap hM2]; rfl
  have o2 : (w1.alloc (.cells #[.slice ao t.length cap] 36)).cell? ⟨w.heap.size, 2, none⟩ = some (.slice none 0 0) := by rw [Lib.cell_of_heap hM2]; rfl
  have of0 : (w1.alloc (.cells #[.slice ao t.length cap] 36)).frozen? ⟨w.heap.size, 0, none⟩ = false := Lib.frozen_of_heap hM2 0
  have of1 : (w1.alloc (.cells #[.slice ao t.length cap] 36)).frozen? ⟨w.heap.size, 1, none⟩ = false := Lib.frozen_of_heap hM2 1
  have of2 : (w1.alloc (.cells #[.slice ao t.length cap] 36)).frozen? ⟨w.heap.size, 2, none⟩ = false := Lib.frozen_of_heap hM2 2
  clear hbt HRV hM1 hb1 hsz1
  by_cases hc : c = 0
  · subst hc
    have HV : Hid (Sc.programOf (t, a, 0) = Sc.resolveOf t) := if_pos rfl
    go_wp2_with fail
    clear o0 o1 o2 of0 of1 of2
    generalize w1.alloc (.cells #[.slice ao t.length cap] 36) = w2 at *
    refine Calls.mono (ResolveOf_any t _ _ HRV2.out) ?_
    rintro e w3 ⟨va, vn, vr, rfl, hPV, hb3⟩
    have hM3 := (hb3.block _ hsz2).trans hM2
    have hb4 := hb2.trans (hb3.mono hb2.size)
    obtain ⟨a0, n0, rfl, _⟩ := id (hPV w3 (Agree.refl _ _)).ar
    obtain ⟨a1, n1, rfl, _⟩ := id (hPV w3 (Agree.refl _ _)).nm
    obtain ⟨a2, n2, rfl, _⟩ := id (hPV w3 (Agree.refl _ _)).rl
    have HFin : Hid (∀ w9, SetB w.heap.size w3 w9 → ProgV w9 (.slice a0 (Sc.resolveOf t).1.arity.length n0) (.slice a1 (Sc.resolveOf t).1.names.length n1) (.slice a2 (Sc.resolveOf t).1.rules.length n2) (Sc.resolveOf t).1 ∧ Below w.heap.size w w9) := by
      intro w9 h9
      exact ⟨hPV w9 (fun k h1 h2 => h9.block k (by omega)), h9.os.trans hb4.os, h9.tape.trans hb4.tape, h9.output.trans hb4.output, by rw [h9.size]; exact hb4.size, fun k hk => (h9.block k (by omega)).trans (hb4.block k hk)⟩
    have o0 : w3.cell? ⟨w.heap.size, 0, none⟩ = some (.slice none 0 0) := by rw [Lib.cell_of_heap hM3]; rfl
    have o1 : w3.cell? ⟨w.heap.size, 1, none⟩ = some (.slice none 0 0) := by rw [Lib.cell_of_heap hM3]; rfl
    have o2 : w3.cell? ⟨w.heap.size, 2, none⟩ = some (.slice none 0 0) := by rw [Lib.cell_of_heap hM3]; rfl
    have of0 : w3.frozen? ⟨w.heap.size, 0, none⟩ = false := Lib.frozen_of_heap hM3 0
    have of1 : w3.frozen? ⟨w.heap.size, 1, none⟩ = false := Lib.frozen_of_heap hM3 1
    have of2 : w3.frozen? ⟨w.heap.size, 2, none⟩ = false := Lib.frozen_of_heap hM3 2
    clear hPV hM3 hM2 hb3 hb4 hb2 HRV2
    generalize Sc.resolveOf t = Y at *
    obtain ⟨p, pa, pc⟩ := Y
    go_wp2_with fail
    refine bodyPost_ret (v := .tuple #[progVal (.slice a0 p.arity.length n0) (.slice a1 p.names.length n1) (.slice a2 p.rules.length n2), .int .i64 pa, .int .i64 pc]) (by simp [results, Tryz.results16, go_sem, o0, o1, o2]) rfl ⟨_, _, _, by rw [HV.out], by rw [HV.out]; exact (HFin.out _ (((SetB.one _ _ _ _).trans (SetB.one _ _ _ _)).trans (SetB.one _ _ _ _))).1, (HFin.out _ (((SetB.one _ _ _ _).trans (SetB.one _ _ _ _)).trans (SetB.one _ _ _ _))).2⟩
  · have hc' : (c != 0) = true := by simpa using hc
    have HV : Hid (Sc.programOf (t, a, c) = (⟨[], [], []⟩, a, c)) := if_neg hc
    have HFin : Hid (∀ w9, SetB w.heap.size (w1.alloc (.cells #[.slice ao t.length cap] 36)) w9 → Below w.heap.size w w9) := fun w9 h9 => ⟨h9.os.trans hb2.os, h9.tape.trans hb2.tape, h9.output.trans hb2.output, by rw [h9.size]; exact hb2.size, fun k hk => (h9.block k (by omega)).trans (hb2.block k hk)⟩
    clear HRV2 hb2 hM2
    go_wp2_with fail
    refine bodyPost_ret (v := .tuple #[progVal (.slice none 0 0) (.slice none 0 0) (.slice none 0 0), .int .i64 a, .int .i64 c]) (by simp [results, Tryz.results16, go_sem, o0, o1, o2]) rfl ⟨_, _, _, by rw [HV.out], by rw [HV.out]; exact progV_nil _, HFin.out _ (((SetB.one _ _ _ _).trans (SetB.one _ _ _ _)).trans (SetB.one _ _ _ _))⟩

end Go.Proofs.YtgpaleifhcdjnaaGreatDoor

/- What must be in any case: the statements' own small text. -/
namespace Go.Proofs.YtgpaleifhcdjnaaGreatDoor
open Go.RowKit

def smallL : List UInt8 := [113, 40, 49, 44, 32, 50, 41, 46, 10, 112, 40, 88, 44, 32, 99, 111, 117, 110, 116, 32, 89, 41, 32, 58, 45, 32, 113, 40, 88, 44, 32, 89, 41, 44, 32, 110, 111, 116, 32, 114, 40, 89, 41, 44, 32, 88, 32, 60, 32, 89, 46, 10]
def smallB : ByteArray := ⟨#[113, 40, 49, 44, 32, 50, 41, 46, 10, 112, 40, 88, 44, 32, 99, 111, 117, 110, 116, 32, 89, 41, 32, 58, 45, 32, 113, 40, 88, 44, 32, 89, 41, 44, 32, 110, 111, 116, 32, 114, 40, 89, 41, 44, 32, 88, 32, 60, 32, 89, 46, 10]⟩
def smallT : List Tr.Rule := (Pr.parse smallL).1
set_option maxRecDepth 100000 in
theorem small_ok : (Pr.parse smallL).2 = (0, 0) := by kernel_rfl
theorem small_parse : Pr.parse smallL = (smallT, 0, 0) := by unfold smallT; rw [← small_ok]
theorem small_len : smallT.length = 2 := by kernel_rfl
theorem small_fold : (Tr.ruleD smallT 1).fold = 1 := by kernel_rfl
theorem small_body : (Tr.ruleD smallT 1).body.length = 3 := by kernel_rfl
theorem small_kind : (Tr.litD (Tr.ruleD smallT 1).body 1).kind = 2 := by kernel_rfl
theorem small_check : Tr.check smallT = 0 := by kernel_rfl

set_option maxRecDepth 100000 in
set_option maxHeartbeats 1000000 in
theorem treeBegun_any (w : World) : Calls Tryz.prog 18 #[] w fun e w' => e = .returned (.bool true) ∧ Below w.heap.size w w' := by
  have HP : Hid (∀ w, Calls Tryz.prog 22 #[.string smallB] w fun e w' => ∃ ao cap, e = .returned (.tuple #[.agg #[.slice ao 2 cap], .int .i64 0, .int .i64 0]) ∧ RulesV w' (.slice ao 2 cap) smallT ∧ Below w.heap.size w w') := by
    intro w
    have h := Parse_any smallB w
    rw [show smallB.data.toList = smallL from rfl, small_parse] at h
    refine h.mono ?_
    rintro e w' ⟨ao, cap, he, hR, hb⟩
    simp only [small_len] at he hR
    exact ⟨ao, cap, he, hR.toV, hb⟩
  have HC : Hid (∀ w ao cap, RulesV w (.slice ao 2 cap) smallT → Calls Tryz.prog 41 #[.agg #[.slice ao 2 cap]] w fun e w' => e = .returned (.int .i64 0) ∧ Below w.heap.size w w') := by
    intro w ao cap h
    have := Check_any smallT _ w h
    rw [small_check] at this
    exact this
  unfold smallB at HP
  go_enter Tryz.func18, Tryz.ntmps18
  go_wp2_with fail
  refine Calls.mono (HP.out _) ?_
  rintro e w1 ⟨ao, cap, rfl, hR, hb⟩
  have hR1 := rulesV_below hR ((Below.refl _ _).alloc (Nat.le_refl _) (.cells #[.slice ao 2 cap] 36))
  obtain ⟨aor, capr, hv, hRA⟩ := hR
  rcases hRA with h | ⟨b, off, hao, hc⟩
  · exact absurd (congrArg List.length h) (by rw [small_len]; decide)
  obtain ⟨r0, r1, r2, r3, lv, r4, hL⟩ := hc 1 (by rw [small_len]; decide)
  rw [small_fold] at r3
  obtain ⟨aol, capl, rfl, hLA⟩ := hL
  rw [small_body] at r4
  rcases hLA with h | ⟨b2, off2, rfl, hc2⟩
  · exact absurd (congrArg List.length h) (by rw [small_body]; decide)
  have l0 := (hc2 1 (by rw [small_body]; decide)).1
  rw [small_kind] at l0
  rw [small_len] at hv
  injection hv with e1 e2 e3
  subst e1
  subst e3
  subst hao
  clear hc hc2 r0 r1 r2 HP
  have hb1 : b < w1.heap.size := World.block_lt_of_cell? w1 _ r3
  have hb2 : b2 < w1.heap.size := World.block_lt_of_cell? w1 _ l0
  go_wp2_with fail
  refine Calls.mono (HC.out _ _ _ hR1) ?_
  rintro e w2 ⟨rfl, hb3⟩
  have hbel := (hb.alloc hb.size (.cells #[.slice (some ⟨b, off, none⟩) 2 cap] 36)).trans (hb3.mono (by simp; exact Nat.le_succ_of_le hb.size))
  clear HC hR1 r3 r4 l0 hb hb3
  go_wp2_with fail
  go_ret
  exact ⟨rfl, hbel⟩

end Go.Proofs.YtgpaleifhcdjnaaGreatDoor

/- The document's comparison of two lists of terms. -/
namespace Go.Proofs.YtgpaleifhcdjnaaGreatDoor
open Go.RowKit

namespace Tr
/-- Two lists, thing by thing. -/
def listEq {α : Type} (f : α → α → Bool) : List α → List α → Bool
  | [], [] => true
  | a :: l, b :: m => f a b && listEq f l m
  | _, _ => false
theorem listEq_len {α : Type} (f : α → α → Bool) : ∀ (l m : List α), ¬ l.length = m.length → listEq f l m = false := by
  intro l
  induction l with
  | nil =>
    intro m h
    cases m with
    | nil => exact absurd rfl h
    | cons y b => rfl
  | cons x a ih =>
    intro m h
    cases m with
    | nil => rfl
    | cons y b => rw [listEq, ih b (by simpa using h), Bool.and_false]
theorem listEq_drop {α : Type} (f : α → α → Bool) (d : α) (l m : List α) (i : Nat) (h : i < l.length) (h2 : i < m.length) :
    listEq f (l.drop i) (m.drop i) = (f (l.getD i d) (m.getD i d) && listEq f (l.drop (i + 1)) (m.drop (i + 1))) := by
  rw [List.drop_eq_getElem_cons h, List.drop_eq_getElem_cons h2, listEq]
  simp [List.getD_eq_getElem?_getD, List.getElem?_eq_getElem h, List.getElem?_eq_getElem h2]
def termEq (a b : Term) : Bool := (a.var == b.var) && (a.n == b.n)
def termsEq (l m : List Term) : Bool := listEq termEq l m
end Tr

set_option maxRecDepth 100000 in
set_option maxHeartbeats 1000000 in
theorem sameTerms_loop (la lb : List Tr.Term) (w : World) (n ca cb ba oa bb ob : Nat) (hna : la.length = n) (hnb : lb.length = n) (hmax : n ≤ 9223372036854775807)
    (hA : ∀ i, i < n → TermIn w ba (oa + i * 2) (Tr.termD la i)) (hB : ∀ i, i < n → TermIn w bb (ob + i * 2) (Tr.termD lb i)) :
    Calls Tryz.prog 58 #[.slice (some ⟨ba, oa, none⟩) n ca, .slice (some ⟨bb, ob, none⟩) n cb] w fun e w' => e = .returned (.bool (Tr.termsEq la lb)) ∧ ∃ k, w' = w.drewN k := by
  have HA : Hid (la.length = n) := hna
  have HB : Hid (lb.length = n) := hnb
  clear hna hnb
  have hne : ((n : Int) != (n : Int)) = false := by simp
  go_enter Tryz.func58, Tryz.ntmps58
  go_wp2
  go_loopw [5] (fun i wr => ∃ k nq : Nat, k ≤ n ∧ i = .int .i64 k ∧ Tr.termsEq la lb = Tr.termsEq (la.drop k) (lb.drop k) ∧ wr = w.drewN nq) (fun i _ => n - (intOf i).toNat)
  case atStart => exact ⟨0, 0, Nat.zero_le _, rfl, rfl, rfl⟩
  case round =>
    obtain ⟨k, nq, hk, rfl, hsame, rfl⟩ := hrel
    have HS : Hid (Tr.termsEq la lb = Tr.termsEq (la.drop k) (lb.drop k)) := hsame
    clear hsame
    by_cases hlt : k < n
    · obtain ⟨a0, a1⟩ := hA k hlt
      obtain ⟨b0, b1⟩ := hB k hlt
      have HD : Hid (Tr.termsEq la lb = (Tr.termEq (Tr.termD la k) (Tr.termD lb k) && Tr.termsEq (la.drop (k + 1)) (lb.drop (k + 1)))) := by
        show _ = _
        rw [HS.out]
        exact Tr.listEq_drop _ _ _ _ _ (by rw [HA.out]; exact hlt) (by rw [HB.out]; exact hlt)
      clear hA hB HS
      generalize Tr.termD la k = x at *
      generalize Tr.termD lb k = y at *
      cases h1 : (x.var == y.var)
      · have HV : Hid (Tr.termsEq la lb = false) := by show _ = _; rw [HD.out, Tr.termEq, h1]; rfl
        clear HD
        go_wp2_with fail
        go_quiet (fail)
        go_wp2
        go_ret
        exact ⟨ret_bool HV.out.symm, _, drewN_two _ _ _⟩
      · cases h2 : (x.n == y.n)
        · have HV : Hid (Tr.termsEq la lb = false) := by show _ = _; rw [HD.out, Tr.termEq, h1, h2]; rfl
          clear HD
          go_wp2_with fail
          go_quiet (fail)
          go_wp2
          go_ret
          exact ⟨ret_bool HV.out.symm, _, drewN_two _ _ _⟩
        · have HV : Hid (Tr.termsEq la lb = Tr.termsEq (la.drop (k + 1)) (lb.drop (k + 1))) := by show _ = _; rw [HD.out, Tr.termEq, h1, h2]; rfl
          clear HD
          go_wp2_with fail
          go_quiet (fail)
          go_wp2
          go_roundw
          case rel => exact ⟨k + 1, _, by omega, by go_num, HV.out, rfl⟩
          case measure => simp [intOf]; omega
    · have HV : Hid (Tr.termsEq la lb = true) := by
        show _ = _
        rw [HS.out, List.drop_of_length_le (by rw [HA.out]; omega), List.drop_of_length_le (by rw [HB.out]; omega)]
        rfl
      clear HS hA hB
      go_wp2_with fail
      go_ret
      exact ⟨ret_bool HV.out.symm, _, rfl⟩

set_option maxRecDepth 100000 in
set_option maxHeartbeats 400000 in
theorem sameTerms_diff (w : World) (ao bo : Option Addr) (n m ca cb : Nat) (h : ¬ n = m) :
    Calls Tryz.prog 58 #[.slice ao n ca, .slice bo m cb] w fun e w' => e = .returned (.bool false) ∧ ∃ k, w' = w.drewN k := by
  have hne : ((n : Int) != (m : Int)) = true := bne_iff_ne.2 (by omega)
  go_enter Tryz.func58, Tryz.ntmps58
  go_wp2
  go_ret
  exact ⟨rfl, 0, rfl⟩

set_option maxRecDepth 100000 in
set_option maxHeartbeats 400000 in
theorem sameTerms_none (w : World) (ao bo : Option Addr) (ca cb : Nat) :
    Calls Tryz.prog 58 #[.slice ao 0 ca, .slice bo 0 cb] w fun e w' => e = .returned (.bool true) ∧ ∃ k, w' = w.drewN k := by
  go_enter Tryz.func58, Tryz.ntmps58
  go_wp2
  refine wp_loop_rounds 1 ?_
  rw [rounds_succ]
  go_wp2
  go_ret
  exact ⟨rfl, 0, rfl⟩

/-- sameTerms, whatever lists it is handed. -/
theorem sameTerms_any (la lb : List Tr.Term) (w : World) (va vb : Value) (hA : TermsV w va la) (hB : TermsV w vb lb) (hmax : la.length ≤ 9223372036854775807) :
    Calls Tryz.prog 58 #[va, vb] w fun e w' => e = .returned (.bool (Tr.termsEq la lb)) ∧ ∃ k, w' = w.drewN k := by
  obtain ⟨ao, ca, rfl, hA⟩ := hA
  obtain ⟨bo, cb, rfl, hB⟩ := hB
  by_cases h : la.length = lb.length
  · rcases hA with rfl | ⟨b, off, rfl, hA⟩
    · have hl : lb = [] := List.eq_nil_of_length_eq_zero h.symm
      subst hl
      exact sameTerms_none w ao bo ca cb
    · rcases hB with rfl | ⟨b', off', rfl, hB⟩
      · have hl : la = [] := List.eq_nil_of_length_eq_zero h
        subst hl
        exact sameTerms_none w _ bo ca cb
      · rw [← h]
        exact sameTerms_loop la lb w la.length ca cb b off b' off' rfl h.symm hmax hA (by rw [h]; exact hB)
  · rw [show Tr.termsEq la lb = false from Tr.listEq_len _ la lb h]
    exact sameTerms_diff w ao bo _ _ ca cb h

end Go.Proofs.YtgpaleifhcdjnaaGreatDoor

/- The document's comparison of two trees. -/
namespace Go.Proofs.YtgpaleifhcdjnaaGreatDoor
open Go.RowKit

namespace Tr
def headEq (q : Bool) (a b : Rule) : Bool := !((q && (a.at_ != b.at_)) || !(a.name == b.name) || (a.fold != b.fold) || !(termsEq a.terms b.terms) || ((a.body.length : Int) != (b.body.length : Int)))
def litEq (q : Bool) (x y : Lit) : Bool := !((q && (x.at_ != y.at_)) || (x.kind != y.kind) || (x.op != y.op) || !(x.name == y.name) || !(termsEq x.terms y.terms))
def ruleEq (q : Bool) (a b : Rule) : Bool := headEq q a b && listEq (litEq q) a.body b.body
def treeEq (q : Bool) (l m : List Rule) : Bool := listEq (ruleEq q) l m
end Tr

theorem Tr.headEq_len {q : Bool} {a b : Tr.Rule} (h : Tr.headEq q a b = true) : a.body.length = b.body.length := by
  unfold Tr.headEq at h
  simp only [Bool.not_eq_true', Bool.or_eq_false_iff, bne_eq_false_iff_eq] at h
  have := h.2
  omega

/-- Lists of terms that an int can count. -/
def FitsB (l : List Tr.Lit) : Prop := ∀ i, i < l.length → (Tr.litD l i).terms.length ≤ 9223372036854775807
abbrev rulObj (r : Tr.Rule) (v u : Value) : Obj := .cells #[.int .i64 r.at_, .string ⟨r.name.toArray⟩, v, .int .i64 r.fold, u] 57
theorem rul_cells {w : World} {b : Nat} {r : Tr.Rule} {v u : Value} (h : w.heap[b]? = some (rulObj r v u)) :
    w.cell? ⟨b, 0, none⟩ = some (.int .i64 r.at_) ∧ w.cell? ⟨b, 1, none⟩ = some (.string ⟨r.name.toArray⟩) ∧ w.cell? ⟨b, 2, none⟩ = some v ∧ w.cell? ⟨b, 3, none⟩ = some (.int .i64 r.fold) ∧ w.cell? ⟨b, 4, none⟩ = some u :=
  ⟨by rw [Lib.cell_of_heap h]; rfl, by rw [Lib.cell_of_heap h]; rfl, by rw [Lib.cell_of_heap h]; rfl, by rw [Lib.cell_of_heap h]; rfl, by rw [Lib.cell_of_heap h]; rfl⟩

theorem heap_two (u : World) (o1 o2 : Obj) : ((u.alloc o1).alloc o2).drew.heap[u.heap.size]? = some o1 ∧ ((u.alloc o1).alloc o2).drew.heap[u.heap.size + 1]? = some o2 ∧ Below u.heap.size u ((u.alloc o1).alloc o2).drew := by
  refine ⟨?_, ?_, (((Below.refl _ _).alloc (Nat.le_refl _) _).alloc (by simp) _).drew⟩
  · exact (((Below.refl _ (u.alloc o1)).alloc (Nat.le_refl _) o2).block _ (by simp)).trans (heap_alloc_new u o1)
  · have := heap_alloc_new (u.alloc o1) o2
    simpa [World.drew] using this
theorem lit_cells {w : World} {b : Nat} {x : Tr.Lit} {v : Value} (h : w.heap[b]? = some (litObj x v)) :
    w.cell? ⟨b, 0, none⟩ = some (.int .i64 x.kind) ∧ w.cell? ⟨b, 1, none⟩ = some (.int .i64 x.at_) ∧ w.cell? ⟨b, 2, none⟩ = some (.int .i64 x.op) ∧ w.cell? ⟨b, 3, none⟩ = some (.string ⟨x.name.toArray⟩) ∧ w.cell? ⟨b, 4, none⟩ = some v :=
  ⟨by rw [Lib.cell_of_heap h]; rfl, by rw [Lib.cell_of_heap h]; rfl, by rw [Lib.cell_of_heap h]; rfl, by rw [Lib.cell_of_heap h]; rfl, by rw [Lib.cell_of_heap h]; rfl⟩

set_option maxRecDepth 100000 in
set_option maxHeartbeats 4000000 in
theorem sameTree_loop (l m : List Tr.Rule) (q : Bool) (w : World) (n ca cb ba oa bb ob : Nat) (hna : l.length = n) (hnb : m.length = n) (hmax : n ≤ 9223372036854775807) (hF : ∀ i, i < n → (Tr.ruleD l i).terms.length ≤ 9223372036854775807 ∧ (Tr.ruleD l i).body.length ≤ 9223372036854775807 ∧ FitsB (Tr.ruleD l i).body)
    (hA : ∀ i, i < n → RuleIn w ba (oa + i * 5) (Tr.ruleD l i)) (hB : ∀ i, i < n → RuleIn w bb (ob + i * 5) (Tr.ruleD m i)) :
    Calls Tryz.prog 23 #[.agg #[.slice (some ⟨ba, oa, none⟩) n ca], .agg #[.slice (some ⟨bb, ob, none⟩) n cb], .bool q] w fun e w' => e = .returned (.bool (Tr.treeEq q l m)) ∧ Below w.heap.size w w' := by
  have HA : Hid (l.length = n) := hna
  have HB : Hid (m.length = n) := hnb
  clear hna hnb
  have hne : ((n : Int) != (n : Int)) = false := by simp
  have hbel0 : Below w.heap.size w ((w.alloc (.cells #[.slice (some ⟨ba, oa, none⟩) n ca] 36)).alloc (.cells #[.slice (some ⟨bb, ob, none⟩) n cb] 36)) := ((Below.refl _ _).alloc (Nat.le_refl _) _).alloc (by simp) _
  have ht0 : ((w.alloc (.cells #[.slice (some ⟨ba, oa, none⟩) n ca] 36)).alloc (.cells #[.slice (some ⟨bb, ob, none⟩) n cb] 36)).cell? ⟨w.heap.size, 0, none⟩ = some (.slice (some ⟨ba, oa, none⟩) n ca) := by simp [go_sem]
  have hu0 : ((w.alloc (.cells #[.slice (some ⟨ba, oa, none⟩) n ca] 36)).alloc (.cells #[.slice (some ⟨bb, ob, none⟩) n cb] 36)).cell? ⟨w.heap.size + 1, 0, none⟩ = some (.slice (some ⟨bb, ob, none⟩) n cb) := by simp [go_sem]
  go_enter Tryz.func23, Tryz.ntmps23
  go_wp2_with fail
  generalize hw0 : ((w.alloc (.cells #[.slice (some ⟨ba, oa, none⟩) n ca] 36)).alloc (.cells #[.slice (some ⟨bb, ob, none⟩) n cb] 36)) = w0 at *
  go_loopw [7] (fun i wr => ∃ k : Nat, k ≤ n ∧ i = .int .i64 k ∧ Tr.treeEq q l m = Tr.treeEq q (l.drop k) (m.drop k) ∧ Below w0.heap.size w0 wr) (fun i _ => n - (intOf i).toNat)
  case atStart => exact ⟨0, Nat.zero_le _, rfl, rfl, Below.refl _ _⟩
  case round =>
    obtain ⟨k, hk, rfl, hsame, hbr⟩ := hrel
    have HS : Hid (Tr.treeEq q l m = Tr.treeEq q (l.drop k) (m.drop k)) := hsame
    have ht := cell_below hbr ht0
    have hu := cell_below hbr hu0
    have hbw := hbel0.trans (hbr.mono hbel0.size)
    clear hsame
    by_cases hlt : k < n
    · have HD : Hid (Tr.treeEq q l m = (Tr.ruleEq q (Tr.ruleD l k) (Tr.ruleD m k) && Tr.treeEq q (l.drop (k + 1)) (m.drop (k + 1)))) := by
        show _ = _
        rw [HS.out]
        exact Tr.listEq_drop _ _ _ _ _ (by rw [HA.out]; exact hlt) (by rw [HB.out]; exact hlt)
      obtain ⟨a0, a1, ⟨va, a2, hTa⟩, a3, ua, a4, hLa⟩ := hA k hlt
      obtain ⟨b0, b1, ⟨vb, b2, hTb⟩, b3, ub, b4, hLb⟩ := hB k hlt
      replace a0 := cell_below hbw a0
      replace a1 := cell_below hbw a1
      replace a2 := cell_below hbw a2
      replace a3 := cell_below hbw a3
      replace a4 := cell_below hbw a4
      replace b0 := cell_below hbw b0
      replace b1 := cell_below hbw b1
      replace b2 := cell_below hbw b2
      replace b3 := cell_below hbw b3
      replace b4 := cell_below hbw b4
      replace hTa := termsV_below hTa hbw
      replace hTb := termsV_below hTb hbw
      replace hLa := litsV_below hLa hbw
      replace hLb := litsV_below hLb hbw
      obtain ⟨hmaxT, hmaxB, hmaxL⟩ := hF k hlt
      clear HS hA hB hF
      generalize Tr.ruleD l k = a at *
      generalize Tr.ruleD m k = b at *
      obtain ⟨aota, capta, rfl, hTa'⟩ := hTa
      obtain ⟨aotb, captb, rfl, hTb'⟩ := hTb
      obtain ⟨aola, capla, rfl, hLa'⟩ := hLa
      obtain ⟨aolb, caplb, rfl, hLb'⟩ := hLb
      go_upto_region 6 with fail
      go_cut [8, 9] (fun v8 v9 wx => ∃ pa pb : Nat, v8 = .pointer (some ⟨pa, 0, none⟩) ∧ v9 = .pointer (some ⟨pb, 0, none⟩) ∧ wx.heap[pa]? = some (rulObj a (.slice aota a.terms.length capta) (.slice aola a.body.length capla)) ∧ wx.heap[pb]? = some (rulObj b (.slice aotb b.terms.length captb) (.slice aolb b.body.length caplb)) ∧ Below wr.heap.size wr wx)
      case first =>
        go_region_held3 (fun w' => w'.cell? ⟨w.heap.size, 0, none⟩ = some (.slice (some ⟨ba, oa, none⟩) n ca) ∧ w'.cell? ⟨w.heap.size + 1, 0, none⟩ = some (.slice (some ⟨bb, ob, none⟩) n cb) ∧ w'.cell? ⟨ba, oa + k * 5, none⟩ = some (.int .i64 a.at_) ∧ w'.cell? ⟨ba, oa + k * 5 + 1, none⟩ = some (.string ⟨a.name.toArray⟩) ∧ w'.cell? ⟨ba, oa + k * 5 + 2, none⟩ = some (.slice aota a.terms.length capta) ∧ w'.cell? ⟨ba, oa + k * 5 + 3, none⟩ = some (.int .i64 a.fold) ∧ w'.cell? ⟨ba, oa + k * 5 + 4, none⟩ = some (.slice aola a.body.length capla) ∧
          w'.cell? ⟨bb, ob + k * 5, none⟩ = some (.int .i64 b.at_) ∧ w'.cell? ⟨bb, ob + k * 5 + 1, none⟩ = some (.string ⟨b.name.toArray⟩) ∧ w'.cell? ⟨bb, ob + k * 5 + 2, none⟩ = some (.slice aotb b.terms.length captb) ∧ w'.cell? ⟨bb, ob + k * 5 + 3, none⟩ = some (.int .i64 b.fold) ∧ w'.cell? ⟨bb, ob + k * 5 + 4, none⟩ = some (.slice aolb b.body.length caplb)) (go_keep) (fail)
        all_goals (go_wp2_with fail; go_meet)
        · exact ⟨_, _, rfl, rfl, (heap_two wr _ _).1, (heap_two wr _ _).2.1, (heap_two wr _ _).2.2⟩
        · exact ⟨_, _, rfl, rfl, (heap_two wr _ _).2.1, (heap_two wr _ _).1, (heap_two wr _ _).2.2⟩
      case rest =>
        obtain ⟨pa, pb, rfl, rfl, hpa, hpb, hbx⟩ := hcut
        generalize wc = wx at *
        have hTa : TermsV wx (.slice aota a.terms.length capta) a.terms := termsV_below ⟨aota, capta, rfl, hTa'⟩ hbx
        have hTb : TermsV wx (.slice aotb b.terms.length captb) b.terms := termsV_below ⟨aotb, captb, rfl, hTb'⟩ hbx
        have hLa : LitsV wx (.slice aola a.body.length capla) a.body := litsV_below ⟨aola, capla, rfl, hLa'⟩ hbx
        have hLb : LitsV wx (.slice aolb b.body.length caplb) b.body := litsV_below ⟨aolb, caplb, rfl, hLb'⟩ hbx
        have hbw2 := hbw.trans (hbx.mono hbw.size)
        have hbr2 := hbr.trans (hbx.mono hbr.size)
        have HC : Hid (Calls Tryz.prog 58 #[.slice aota a.terms.length capta, .slice aotb b.terms.length captb] wx fun e w' => e = .returned (.bool (Tr.termsEq a.terms b.terms)) ∧ ∃ k', w' = wx.drewN k') := sameTerms_any a.terms b.terms wx _ _ hTa hTb hmaxT
        clear hTa' hTb' hLa' hLb' hTa hTb ht hu a0 a1 a2 a3 a4 b0 b1 b2 b3 b4
        obtain ⟨c0, c1, c2, c3, c4⟩ := rul_cells hpa
        obtain ⟨d0, d1, d2, d3, d4⟩ := rul_cells hpb
        go_upto_region 7 with fail
        go_cut [75] (fun v75 wz => v75 = .bool (!(Tr.headEq q a b)) ∧ ∃ nz, wz = wx.drewN nz)
        case first =>
          cases q
          · skip
            cases h1 : (a.name == b.name)
            · skip
              go_wp2_with (go_at_call 58; refine Calls.mono HC.out ?_; rintro e y1 ⟨rfl, kq, rfl⟩)
              go_meet
              exact ⟨by simp [Tr.headEq, *], 0, rfl⟩
            · cases h2 : (a.fold != b.fold)
              rotate_left
              · skip
                go_wp2_with (go_at_call 58; refine Calls.mono HC.out ?_; rintro e y1 ⟨rfl, kq, rfl⟩)
                go_meet
                exact ⟨by simp [Tr.headEq, *], 0, rfl⟩
              · cases h3 : Tr.termsEq a.terms b.terms
                · skip
                  go_wp2_with (go_at_call 58; refine Calls.mono HC.out ?_; rintro e y1 ⟨rfl, kq, rfl⟩)
                  go_meet
                  exact ⟨by simp [Tr.headEq, *], kq, rfl⟩
                · cases h4 : ((a.body.length : Int) != (b.body.length : Int))
                  all_goals skip
                  · skip
                    go_wp2_with (go_at_call 58; refine Calls.mono HC.out ?_; rintro e y1 ⟨rfl, kq, rfl⟩)
                    go_meet
                    exact ⟨by simp [Tr.headEq, *], kq, rfl⟩
                  · skip
                    go_wp2_with (go_at_call 58; refine Calls.mono HC.out ?_; rintro e y1 ⟨rfl, kq, rfl⟩)
                    go_meet
                    exact ⟨by simp [Tr.headEq, *], kq, rfl⟩
          · cases h0 : (a.at_ != b.at_)
            · skip
              cases h1 : (a.name == b.name)
              · skip
                go_wp2_with (go_at_call 58; refine Calls.mono HC.out ?_; rintro e y1 ⟨rfl, kq, rfl⟩)
                go_meet
                exact ⟨by simp [Tr.headEq, *], 0, rfl⟩
              · cases h2 : (a.fold != b.fold)
                rotate_left
                · skip
                  go_wp2_with (go_at_call 58; refine Calls.mono HC.out ?_; rintro e y1 ⟨rfl, kq, rfl⟩)
                  go_meet
                  exact ⟨by simp [Tr.headEq, *], 0, rfl⟩
                · cases h3 : Tr.termsEq a.terms b.terms
                  · skip
                    go_wp2_with (go_at_call 58; refine Calls.mono HC.out ?_; rintro e y1 ⟨rfl, kq, rfl⟩)
                    go_meet
                    exact ⟨by simp [Tr.headEq, *], kq, rfl⟩
                  · cases h4 : ((a.body.length : Int) != (b.body.length : Int))
                    all_goals skip
                    · skip
                      go_wp2_with (go_at_call 58; refine Calls.mono HC.out ?_; rintro e y1 ⟨rfl, kq, rfl⟩)
                      go_meet
                      exact ⟨by simp [Tr.headEq, *], kq, rfl⟩
                    · skip
                      go_wp2_with (go_at_call 58; refine Calls.mono HC.out ?_; rintro e y1 ⟨rfl, kq, rfl⟩)
                      go_meet
                      exact ⟨by simp [Tr.headEq, *], kq, rfl⟩
            · skip
              go_wp2_with (go_at_call 58; refine Calls.mono HC.out ?_; rintro e y1 ⟨rfl, kq, rfl⟩)
              go_meet
              exact ⟨by simp [Tr.headEq, *], 0, rfl⟩
        case rest =>
          obtain ⟨rfl, nz, rfl⟩ := hcut
          replace hLa : LitsV (wx.drewN nz) (.slice aola a.body.length capla) a.body := hLa
          replace hLb : LitsV (wx.drewN nz) (.slice aolb b.body.length caplb) b.body := hLb
          replace hpa : (wx.drewN nz).heap[pa]? = some (rulObj a (.slice aota a.terms.length capta) (.slice aola a.body.length capla)) := hpa
          replace hpb : (wx.drewN nz).heap[pb]? = some (rulObj b (.slice aotb b.terms.length captb) (.slice aolb b.body.length caplb)) := hpb
          replace hbw2 : Below w.heap.size w (wx.drewN nz) := below_drewN hbw2 nz
          replace hbr2 : Below w0.heap.size w0 (wx.drewN nz) := below_drewN hbr2 nz
          clear hbx HC c0 c1 c2 c3 c4 d0 d1 d2 d3 d4
          generalize wx.drewN nz = wy at *
          cases hh : Tr.headEq q a b
          · have HV : Hid (Tr.treeEq q l m = false) := by show _ = _; rw [HD.out, Tr.ruleEq, hh]; rfl
            clear HD hLa hLb
            go_wp2_with fail
            go_ret
            exact ⟨ret_bool HV.out.symm, hbw2⟩
          · have hlen : a.body.length = b.body.length := Tr.headEq_len hh
            have HE0 : Hid (Tr.ruleEq q a b = Tr.listEq (Tr.litEq q) a.body b.body) := by show _ = _; rw [Tr.ruleEq, hh]; rfl
            clear hh
            go_wp2_with fail
            go_loopw [10] (fun i wz => ∃ j : Nat, j ≤ a.body.length ∧ i = .int .i64 j ∧ Tr.ruleEq q a b = Tr.listEq (Tr.litEq q) (a.body.drop j) (b.body.drop j) ∧ Below wy.heap.size wy wz) (fun i _ => a.body.length - (intOf i).toNat)
            case atStart => exact ⟨0, Nat.zero_le _, rfl, HE0.out, Below.refl _ _⟩
            case round =>
              obtain ⟨j, hj, rfl, hse, hbz⟩ := hrel
              have HSE : Hid _ := hse
              clear hse HE0
              have hLa2 := litsV_below hLa hbz
              have hLb2 := litsV_below hLb hbz
              have hpa2 := (hbz.block _ (heap_lt hpa)).trans hpa
              have hpb2 := (hbz.block _ (heap_lt hpb)).trans hpb
              have hbw3 := hbw2.trans (hbz.mono hbw2.size)
              have hbr3 := hbr2.trans (hbz.mono hbr2.size)
              obtain ⟨_, _, _, _, c4⟩ := rul_cells hpa2
              obtain ⟨_, _, _, _, d4⟩ := rul_cells hpb2
              have hpal := heap_lt hpa2
              have hpbl := heap_lt hpb2
              generalize hwz : wr = wz at *
              clear hwz
              by_cases hltj : j < a.body.length
              · have HDL : Hid (Tr.ruleEq q a b = (Tr.litEq q (Tr.litD a.body j) (Tr.litD b.body j) && Tr.listEq (Tr.litEq q) (a.body.drop (j + 1)) (b.body.drop (j + 1)))) := by
                  show _ = _
                  rw [HSE.out]
                  exact Tr.listEq_drop _ _ _ _ _ hltj (by omega)
                have hmaxX := hmaxL j hltj
                have hltjb : j < b.body.length := by omega
                obtain ⟨_, _, hv, hLA⟩ := hLa2
                rcases hLA with h | ⟨ba2, oa2, rfl, hcA⟩
                · rw [h] at hltj; exact absurd hltj (by simp)
                injection hv with e1 _ e3
                subst e1 e3
                obtain ⟨_, _, hv, hLB⟩ := hLb2
                rcases hLB with h | ⟨bb2, ob2, rfl, hcB⟩
                · rw [h] at hltjb; exact absurd hltjb (by simp)
                injection hv with e1 _ e3
                subst e1 e3
                obtain ⟨x0, x1, x2, x3, xv, x4, hTx⟩ := hcA j hltj
                obtain ⟨y0, y1, y2, y3, yv, y4, hTy⟩ := hcB j hltjb
                clear hcA hcB HSE
                generalize Tr.litD a.body j = x at *
                generalize Tr.litD b.body j = y at *
                obtain ⟨aotx, captx, rfl, hTx'⟩ := hTx
                obtain ⟨aoty, capty, rfl, hTy'⟩ := hTy
                go_upto_region 12 with fail
                go_cut [11, 12] (fun v8 v9 wq => ∃ px py : Nat, v8 = .pointer (some ⟨px, 0, none⟩) ∧ v9 = .pointer (some ⟨py, 0, none⟩) ∧ wq.heap[px]? = some (litObj x (.slice aotx x.terms.length captx)) ∧ wq.heap[py]? = some (litObj y (.slice aoty y.terms.length capty)) ∧ Below wz.heap.size wz wq)
                case first =>
                  go_region_held3 (fun w' => w'.cell? ⟨pa, 4, none⟩ = some (.slice (some ⟨ba2, oa2, none⟩) a.body.length capla) ∧ w'.cell? ⟨pb, 4, none⟩ = some (.slice (some ⟨bb2, ob2, none⟩) b.body.length caplb) ∧ w'.cell? ⟨ba2, oa2 + j * 5, none⟩ = some (.int .i64 x.kind) ∧ w'.cell? ⟨ba2, oa2 + j * 5 + 1, none⟩ = some (.int .i64 x.at_) ∧ w'.cell? ⟨ba2, oa2 + j * 5 + 2, none⟩ = some (.int .i64 x.op) ∧ w'.cell? ⟨ba2, oa2 + j * 5 + 3, none⟩ = some (.string ⟨x.name.toArray⟩) ∧ w'.cell? ⟨ba2, oa2 + j * 5 + 4, none⟩ = some (.slice aotx x.terms.length captx) ∧
                    w'.cell? ⟨bb2, ob2 + j * 5, none⟩ = some (.int .i64 y.kind) ∧ w'.cell? ⟨bb2, ob2 + j * 5 + 1, none⟩ = some (.int .i64 y.at_) ∧ w'.cell? ⟨bb2, ob2 + j * 5 + 2, none⟩ = some (.int .i64 y.op) ∧ w'.cell? ⟨bb2, ob2 + j * 5 + 3, none⟩ = some (.string ⟨y.name.toArray⟩) ∧ w'.cell? ⟨bb2, ob2 + j * 5 + 4, none⟩ = some (.slice aoty y.terms.length capty)) (go_keep) (fail)
                  all_goals (go_wp2_with fail; go_meet)
                  · exact ⟨_, _, rfl, rfl, (heap_two wz _ _).1, (heap_two wz _ _).2.1, (heap_two wz _ _).2.2⟩
                  · exact ⟨_, _, rfl, rfl, (heap_two wz _ _).2.1, (heap_two wz _ _).1, (heap_two wz _ _).2.2⟩
                case rest =>
                  obtain ⟨px, py, rfl, rfl, hpx, hpy, hbq⟩ := hcut
                  generalize wc = wq at *
                  have hTx : TermsV wq (.slice aotx x.terms.length captx) x.terms := termsV_below ⟨aotx, captx, rfl, hTx'⟩ hbq
                  have hTy : TermsV wq (.slice aoty y.terms.length capty) y.terms := termsV_below ⟨aoty, capty, rfl, hTy'⟩ hbq
                  have HE : Hid (Calls Tryz.prog 58 #[.slice aotx x.terms.length captx, .slice aoty y.terms.length capty] wq fun e w' => e = .returned (.bool (Tr.termsEq x.terms y.terms)) ∧ ∃ k', w' = wq.drewN k') := sameTerms_any x.terms y.terms wq _ _ hTx hTy hmaxX
                  have hbw4 := hbw3.trans (hbq.mono hbw3.size)
                  have hbz4 := hbz.trans (hbq.mono hbz.size)
                  clear hTx hTy hTx' hTy' x0 x1 x2 x3 x4 y0 y1 y2 y3 y4 c4 d4 hpa2 hpb2 hbr3
                  obtain ⟨x0, x1, x2, x3, x4⟩ := lit_cells hpx
                  obtain ⟨y0, y1, y2, y3, y4⟩ := lit_cells hpy
                  go_upto_region 13 with fail
                  go_cut [129] (fun v wk => v = .bool (!(Tr.litEq q x y)) ∧ ∃ nz, wk = wq.drewN nz)
                  case first =>
                    cases q
                    · skip
                      cases h1 : (x.kind != y.kind)
                      rotate_left
                      · skip
                        go_wp2_with (go_at_call 58; refine Calls.mono HE.out ?_; rintro e y1 ⟨rfl, kq, rfl⟩)
                        go_meet
                        exact ⟨by simp [Tr.litEq, *], 0, rfl⟩
                      · cases h2 : (x.op != y.op)
                        rotate_left
                        · skip
                          go_wp2_with (go_at_call 58; refine Calls.mono HE.out ?_; rintro e y1 ⟨rfl, kq, rfl⟩)
                          go_meet
                          exact ⟨by simp [Tr.litEq, *], 0, rfl⟩
                        · cases h3 : (x.name == y.name)
                          · skip
                            go_wp2_with (go_at_call 58; refine Calls.mono HE.out ?_; rintro e y1 ⟨rfl, kq, rfl⟩)
                            go_meet
                            exact ⟨by simp [Tr.litEq, *], 0, rfl⟩
                          · cases h4 : Tr.termsEq x.terms y.terms
                            · skip
                              go_wp2_with (go_at_call 58; refine Calls.mono HE.out ?_; rintro e y1 ⟨rfl, kq, rfl⟩)
                              go_meet
                              exact ⟨by simp [Tr.litEq, *], kq, rfl⟩
                            · skip
                              go_wp2_with (go_at_call 58; refine Calls.mono HE.out ?_; rintro e y1 ⟨rfl, kq, rfl⟩)
                              go_meet
                              exact ⟨by simp [Tr.litEq, *], kq, rfl⟩
                    · cases h0 : (x.at_ != y.at_)
                      · skip
                        cases h1 : (x.kind != y.kind)
                        rotate_left
                        · skip
                          go_wp2_with (go_at_call 58; refine Calls.mono HE.out ?_; rintro e y1 ⟨rfl, kq, rfl⟩)
                          go_meet
                          exact ⟨by simp [Tr.litEq, *], 0, rfl⟩
                        · cases h2 : (x.op != y.op)
                          rotate_left
                          · skip
                            go_wp2_with (go_at_call 58; refine Calls.mono HE.out ?_; rintro e y1 ⟨rfl, kq, rfl⟩)
                            go_meet
                            exact ⟨by simp [Tr.litEq, *], 0, rfl⟩
                          · cases h3 : (x.name == y.name)
                            · skip
                              go_wp2_with (go_at_call 58; refine Calls.mono HE.out ?_; rintro e y1 ⟨rfl, kq, rfl⟩)
                              go_meet
                              exact ⟨by simp [Tr.litEq, *], 0, rfl⟩
                            · cases h4 : Tr.termsEq x.terms y.terms
                              · skip
                                go_wp2_with (go_at_call 58; refine Calls.mono HE.out ?_; rintro e y1 ⟨rfl, kq, rfl⟩)
                                go_meet
                                exact ⟨by simp [Tr.litEq, *], kq, rfl⟩
                              · skip
                                go_wp2_with (go_at_call 58; refine Calls.mono HE.out ?_; rintro e y1 ⟨rfl, kq, rfl⟩)
                                go_meet
                                exact ⟨by simp [Tr.litEq, *], kq, rfl⟩
                      · skip
                        go_wp2_with (go_at_call 58; refine Calls.mono HE.out ?_; rintro e y1 ⟨rfl, kq, rfl⟩)
                        go_meet
                        exact ⟨by simp [Tr.litEq, *], 0, rfl⟩
                  case rest =>
                    obtain ⟨rfl, nz2, rfl⟩ := hcut
                    cases hh2 : Tr.litEq q x y
                    · have HV : Hid (Tr.treeEq q l m = false) := by show _ = _; rw [HD.out, HDL.out, hh2]; rfl
                      clear HD HDL
                      go_wp2_with fail
                      go_ret
                      exact ⟨ret_bool HV.out.symm, below_drewN hbw4 _⟩
                    · have HV : Hid (Tr.ruleEq q a b = Tr.listEq (Tr.litEq q) (a.body.drop (j + 1)) (b.body.drop (j + 1))) := by show _ = _; rw [HDL.out, hh2]; rfl
                      clear HDL
                      go_wp2_with fail
                      go_roundw
                      case rel => exact ⟨j + 1, by omega, by go_num, HV.out, below_drewN hbz4 _⟩
                      case measure => simp [intOf]; omega
              · have HV : Hid (Tr.ruleEq q a b = true) := by
                  show _ = _
                  rw [HSE.out, List.drop_of_length_le (by omega), List.drop_of_length_le (by omega)]
                  rfl
                have HV2 : Hid (Tr.treeEq q l m = Tr.treeEq q (l.drop (k + 1)) (m.drop (k + 1))) := by show _ = _; rw [HD.out, HV.out]; rfl
                clear HD HV HSE
                go_wp2_with fail
                go_roundw
                case rel => exact ⟨k + 1, by omega, by go_num, HV2.out, hbr3⟩
                case measure => simp [intOf]; omega
    · have HV : Hid (Tr.treeEq q l m = true) := by
        show _ = _
        rw [HS.out, List.drop_of_length_le (by rw [HA.out]; omega), List.drop_of_length_le (by rw [HB.out]; omega)]
        rfl
      clear HS hA hB
      go_wp2_with fail
      go_ret
      exact ⟨ret_bool HV.out.symm, hbw⟩

set_option maxRecDepth 100000 in
set_option maxHeartbeats 400000 in
theorem sameTree_diff (q : Bool) (w : World) (ao bo : Option Addr) (n m ca cb : Nat) (h : ¬ n = m) :
    Calls Tryz.prog 23 #[.agg #[.slice ao n ca], .agg #[.slice bo m cb], .bool q] w fun e w' => e = .returned (.bool false) ∧ Below w.heap.size w w' := by
  have hne : ((n : Int) != (m : Int)) = true := bne_iff_ne.2 (by omega)
  have hbel0 : Below w.heap.size w ((w.alloc (.cells #[.slice ao n ca] 36)).alloc (.cells #[.slice bo m cb] 36)) := ((Below.refl _ _).alloc (Nat.le_refl _) _).alloc (by simp) _
  go_enter Tryz.func23, Tryz.ntmps23
  go_wp2_with fail
  go_ret
  exact ⟨rfl, hbel0⟩

set_option maxRecDepth 100000 in
set_option maxHeartbeats 400000 in
theorem sameTree_none (q : Bool) (w : World) (ao bo : Option Addr) (ca cb : Nat) :
    Calls Tryz.prog 23 #[.agg #[.slice ao 0 ca], .agg #[.slice bo 0 cb], .bool q] w fun e w' => e = .returned (.bool true) ∧ Below w.heap.size w w' := by
  have hbel0 : Below w.heap.size w ((w.alloc (.cells #[.slice ao 0 ca] 36)).alloc (.cells #[.slice bo 0 cb] 36)) := ((Below.refl _ _).alloc (Nat.le_refl _) _).alloc (by simp) _
  go_enter Tryz.func23, Tryz.ntmps23
  go_wp2_with fail
  refine wp_loop_rounds 1 ?_
  rw [rounds_succ]
  go_wp2_with fail
  go_ret
  exact ⟨rfl, hbel0⟩

/-- Trees that are not too great for the machine's counters. -/
def Fine (l : List Tr.Rule) : Prop := l.length ≤ 9223372036854775807 ∧ ∀ i, i < l.length → (Tr.ruleD l i).terms.length ≤ 9223372036854775807 ∧ (Tr.ruleD l i).body.length ≤ 9223372036854775807 ∧ FitsB (Tr.ruleD l i).body

/-- SameTree, whatever trees it is handed. -/
theorem sameTree_any (l m : List Tr.Rule) (q : Bool) (w : World) (va vb : Value) (hA : RulesV w va l) (hB : RulesV w vb m) (hF : Fine l) :
    Calls Tryz.prog 23 #[.agg #[va], .agg #[vb], .bool q] w fun e w' => e = .returned (.bool (Tr.treeEq q l m)) ∧ Below w.heap.size w w' := by
  obtain ⟨ao, ca, rfl, hA⟩ := hA
  obtain ⟨bo, cb, rfl, hB⟩ := hB
  by_cases h : l.length = m.length
  · rcases hA with rfl | ⟨b, off, rfl, hA⟩
    · have hl : m = [] := List.eq_nil_of_length_eq_zero h.symm
      subst hl
      exact sameTree_none q w ao bo ca cb
    · rcases hB with rfl | ⟨b', off', rfl, hB⟩
      · have hl : l = [] := List.eq_nil_of_length_eq_zero h
        subst hl
        exact sameTree_none q w _ bo ca cb
      · rw [← h]
        exact sameTree_loop l m q w l.length ca cb b off b' off' rfl h.symm hF.1 hF.2 hA (by rw [h]; exact hB)
  · rw [show Tr.treeEq q l m = false from Tr.listEq_len _ l m h]
    exact sameTree_diff q w ao bo _ _ ca cb h

end Go.Proofs.YtgpaleifhcdjnaaGreatDoor

/- The document's SameProgram, of what is the same. -/
namespace Go.Proofs.YtgpaleifhcdjnaaGreatDoor
open Go.RowKit

set_option maxRecDepth 100000 in
set_option maxHeartbeats 1000000 in
theorem sameInts_some (l : List Int) (w : World) (n ca cb ba oa bb ob : Nat) (hmax : n ≤ 9223372036854775807)
    (hA : ∀ i, i < n → w.cell? ⟨ba, oa + i, none⟩ = some (.int .i64 (Sc.intD l i))) (hB : ∀ i, i < n → w.cell? ⟨bb, ob + i, none⟩ = some (.int .i64 (Sc.intD l i))) :
    Calls Tryz.prog 30 #[.slice (some ⟨ba, oa, none⟩) n ca, .slice (some ⟨bb, ob, none⟩) n cb] w fun e w' => e = .returned (.bool true) ∧ Below w.heap.size w w' := by
  have hne : ((n : Int) != (n : Int)) = false := by simp
  go_enter Tryz.func30, Tryz.ntmps30
  go_wp2_with fail
  go_loopw [5] (fun i wr => ∃ k nq : Nat, k ≤ n ∧ i = .int .i64 k ∧ wr = w.drewN nq) (fun i _ => n - (intOf i).toNat)
  case atStart => exact ⟨0, 0, Nat.zero_le _, rfl, rfl⟩
  case round =>
    obtain ⟨k, nq, hk, rfl, rfl⟩ := hrel
    by_cases hlt : k < n
    · have a0 := hA k hlt; have b0 := hB k hlt
      clear hA hB
      generalize Sc.intD l k = x at *
      go_wp2_with fail
      go_quiet (fail)
      go_wp2_with fail
      go_roundw
      case rel => exact ⟨k + 1, _, by omega, by go_num, rfl⟩
      case measure => simp [intOf]; omega
    · clear hA hB
      go_wp2_with fail
      go_ret
      exact ⟨rfl, below_drewN (Below.refl _ _) _⟩

set_option maxRecDepth 100000 in
set_option maxHeartbeats 400000 in
theorem sameInts_none (w : World) (a b : Option Addr) (ca cb : Nat) : Calls Tryz.prog 30 #[.slice a 0 ca, .slice b 0 cb] w fun e w' => e = .returned (.bool true) ∧ Below w.heap.size w w' := by
  go_enter Tryz.func30, Tryz.ntmps30
  go_wp2_with fail
  refine wp_loop_rounds 1 ?_
  rw [rounds_succ]
  go_wp2_with fail
  go_ret
  exact ⟨rfl, Below.refl _ _⟩
theorem sameInts_refl (l : List Int) (w : World) (va vb : Value) (hmax : l.length ≤ 9223372036854775807) (hA : IntsV w va l) (hB : IntsV w vb l) :
    Calls Tryz.prog 30 #[va, vb] w fun e w' => e = .returned (.bool true) ∧ Below w.heap.size w w' := by
  obtain ⟨ao, ca, rfl, hA⟩ := hA
  obtain ⟨bo, cb, rfl, hB⟩ := hB
  rcases hA with rfl | ⟨ba, oa, rfl, hA⟩
  · exact sameInts_none w ao bo ca cb
  · rcases hB with rfl | ⟨bb, ob, rfl, hB⟩
    · exact sameInts_none w _ bo ca cb
    · exact sameInts_some l w l.length ca cb ba oa bb ob hmax hA hB

set_option maxRecDepth 100000 in
set_option maxHeartbeats 1000000 in
theorem sameOwn_some (l : List Sc.Term) (w : World) (n ca cb ba oa bb ob : Nat) (hmax : n ≤ 9223372036854775807)
    (hA : ∀ i, i < n → PTermIn w ba (oa + i * 2) (Sc.termD l i)) (hB : ∀ i, i < n → PTermIn w bb (ob + i * 2) (Sc.termD l i)) :
    Calls Tryz.prog 46 #[.slice (some ⟨ba, oa, none⟩) n ca, .slice (some ⟨bb, ob, none⟩) n cb] w fun e w' => e = .returned (.bool true) ∧ Below w.heap.size w w' := by
  have hne : ((n : Int) != (n : Int)) = false := by simp
  go_enter Tryz.func46, Tryz.ntmps46
  go_wp2_with fail
  go_loopw [5] (fun i wr => ∃ k nq : Nat, k ≤ n ∧ i = .int .i64 k ∧ wr = w.drewN nq) (fun i _ => n - (intOf i).toNat)
  case atStart => exact ⟨0, 0, Nat.zero_le _, rfl, rfl⟩
  case round =>
    obtain ⟨k, nq, hk, rfl, rfl⟩ := hrel
    by_cases hlt : k < n
    · obtain ⟨a0, a1⟩ := hA k hlt; obtain ⟨b0, b1⟩ := hB k hlt
      clear hA hB
      generalize Sc.termD l k = x at *
      go_wp2_with fail
      go_quiet (fail)
      go_wp2_with fail
      go_roundw
      case rel => exact ⟨k + 1, _, by omega, by go_num, rfl⟩
      case measure => simp [intOf]; omega
    · clear hA hB
      go_wp2_with fail
      go_ret
      exact ⟨rfl, below_drewN (Below.refl _ _) _⟩

set_option maxRecDepth 100000 in
set_option maxHeartbeats 400000 in
theorem sameOwn_none (w : World) (a b : Option Addr) (ca cb : Nat) : Calls Tryz.prog 46 #[.slice a 0 ca, .slice b 0 cb] w fun e w' => e = .returned (.bool true) ∧ Below w.heap.size w w' := by
  go_enter Tryz.func46, Tryz.ntmps46
  go_wp2_with fail
  refine wp_loop_rounds 1 ?_
  rw [rounds_succ]
  go_wp2_with fail
  go_ret
  exact ⟨rfl, Below.refl _ _⟩
theorem sameOwn_refl (l : List Sc.Term) (w : World) (va vb : Value) (hmax : l.length ≤ 9223372036854775807) (hA : PTermsV w va l) (hB : PTermsV w vb l) :
    Calls Tryz.prog 46 #[va, vb] w fun e w' => e = .returned (.bool true) ∧ Below w.heap.size w w' := by
  obtain ⟨ao, ca, rfl, _, hA⟩ := hA
  obtain ⟨bo, cb, rfl, _, hB⟩ := hB
  rcases hA with rfl | ⟨ba, oa, rfl, hA⟩
  · exact sameOwn_none w ao bo ca cb
  · rcases hB with rfl | ⟨bb, ob, rfl, hB⟩
    · exact sameOwn_none w _ bo ca cb
    · exact sameOwn_some l w l.length ca cb ba oa bb ob hmax hA hB

abbrev pruObj (r : Sc.Rule) (v u : Value) : Obj := .cells #[.int .i64 r.pred, v, .int .i64 r.fold, u, .int .i64 r.vars] 67
abbrev pliObj (x : Sc.Lit) (v : Value) : Obj := .cells #[.int .i64 x.kind, .int .i64 x.op, .int .i64 x.pred, v] 84
set_option maxRecDepth 100000 in
set_option maxHeartbeats 4000000 in
theorem sameProg_refl (p : Sc.Prog) (va vn vr ua un ur : Value) (w : World) (hP : ProgV w va vn vr p) (hQ : ProgV w ua un ur p) (hF : ProgFit p) :
    Calls Tryz.prog 14 #[progVal va vn vr, progVal ua un ur] w fun e w' => e = .returned (.bool true) ∧ Below w.heap.size w w' := by
  obtain ⟨ar, ns, rs⟩ := p
  have HA1 : Hid (IntsV w va ar) := hP.ar
  have HA2 : Hid (IntsV w ua ar) := hQ.ar
  obtain ⟨a0, n0, rfl, _⟩ := id hP.ar
  obtain ⟨a1, n1, rfl, hN1⟩ := id hP.nm
  obtain ⟨a2, n2, rfl, hL1⟩ := id hP.rl
  obtain ⟨b0, m0, rfl, _⟩ := id hQ.ar
  obtain ⟨b1, m1, rfl, hN2⟩ := id hQ.nm
  obtain ⟨b2, m2, rfl, hL2⟩ := id hQ.rl
  have hN1 : StrsAt w a1 ns := hN1
  have hN2 : StrsAt w b1 ns := hN2
  have hL1 : PRulesAt w a2 rs := hL1
  have hL2 : PRulesAt w b2 rs := hL2
  have HFR : Hid (∀ i, i < rs.length → RuleFit (Sc.ruleD rs i)) := hF.rs
  have HFA : Hid (ar.length ≤ 9223372036854775807) := hF.ar
  have hfn : ns.length ≤ 9223372036854775807 := hF.nm
  have hfr : rs.length ≤ 9223372036854775807 := hF.rl
  clear hP hQ hF
  have hR := RB.start w (.cells #[.slice a0 ar.length n0, .slice a1 ns.length n1, .slice a2 rs.length n2] 26) (.cells #[.slice b0 ar.length m0, .slice b1 ns.length m1, .slice b2 rs.length m2] 26)
  have hne1 : ((ns.length : Int) != (ns.length : Int)) = false := by simp
  have hne2 : ((rs.length : Int) != (rs.length : Int)) = false := by simp
  go_enter Tryz.func14, Tryz.ntmps14
  go_wp2_with fail
  refine Calls.mono (sameInts_refl ar _ _ _ HFA.out (intsV_below HA1.out hR.bel) (intsV_below HA2.out hR.bel)) ?_
  rintro e w2 ⟨rfl, hb2⟩
  have hR := hR.below hb2
  have c1 : w2.cell? ⟨w.heap.size, 1, none⟩ = some (.slice a1 ns.length n1) := by rw [Lib.cell_of_heap hR.b1]; rfl
  have c2 : w2.cell? ⟨w.heap.size, 2, none⟩ = some (.slice a2 rs.length n2) := by rw [Lib.cell_of_heap hR.b1]; rfl
  have d1 : w2.cell? ⟨w.heap.size + 1, 1, none⟩ = some (.slice b1 ns.length m1) := by rw [Lib.cell_of_heap hR.b2]; rfl
  have d2 : w2.cell? ⟨w.heap.size + 1, 2, none⟩ = some (.slice b2 rs.length m2) := by rw [Lib.cell_of_heap hR.b2]; rfl
  go_wp2_with fail
  clear c1 c2 d1 d2 hb2
  go_loopw [5] (fun i wr => ∃ j : Nat, j ≤ ns.length ∧ i = .int .i64 j ∧ RB w (.cells #[.slice a0 ar.length n0, .slice a1 ns.length n1, .slice a2 rs.length n2] 26) (.cells #[.slice b0 ar.length m0, .slice b1 ns.length m1, .slice b2 rs.length m2] 26) wr) (fun i _ => ns.length - (intOf i).toNat)
  case atStart => exact ⟨0, Nat.zero_le _, rfl, hR⟩
  case round =>
    clear hR
    obtain ⟨j, hj, rfl, hR⟩ := hrel
    have c1 : wr.cell? ⟨w.heap.size, 1, none⟩ = some (.slice a1 ns.length n1) := by rw [Lib.cell_of_heap hR.b1]; rfl
    have d1 : wr.cell? ⟨w.heap.size + 1, 1, none⟩ = some (.slice b1 ns.length m1) := by rw [Lib.cell_of_heap hR.b2]; rfl
    by_cases hjl : j < ns.length
    · obtain ⟨xb, xo, rfl, p0⟩ := strs_at hN1 j hjl
      obtain ⟨yb, yo, rfl, p1⟩ := strs_at hN2 j hjl
      have q0 := cell_below hR.bel p0
      have q1 := cell_below hR.bel p1
      have hRd := hR.drew
      clear p0 p1 hN1 hN2 hL1 hL2 hR
      generalize Sc.strD ns j = s at *
      go_upto_region 6 with fail
      go_region_held3 (fun y => y.cell? ⟨w.heap.size, 1, none⟩ = some (.slice (some ⟨xb, xo, none⟩) ns.length n1) ∧ y.cell? ⟨w.heap.size + 1, 1, none⟩ = some (.slice (some ⟨yb, yo, none⟩) ns.length m1) ∧ y.cell? ⟨xb, xo + j, none⟩ = some (.string ⟨s.toArray⟩) ∧ y.cell? ⟨yb, yo + j, none⟩ = some (.string ⟨s.toArray⟩)) (go_keep) (fail)
      go_wp2_with fail
      go_roundw
      case rel => exact ⟨j + 1, by omega, by go_num, hRd⟩
      case measure => simp [intOf]; omega
    · clear hN1 hN2
      have c2 : wr.cell? ⟨w.heap.size, 2, none⟩ = some (.slice a2 rs.length n2) := by rw [Lib.cell_of_heap hR.b1]; rfl
      go_wp2_with fail
      clear c1 d1 c2
      go_loopw [6] (fun i wr => ∃ j : Nat, j ≤ rs.length ∧ i = .int .i64 j ∧ RB w (.cells #[.slice a0 ar.length n0, .slice a1 ns.length n1, .slice a2 rs.length n2] 26) (.cells #[.slice b0 ar.length m0, .slice b1 ns.length m1, .slice b2 rs.length m2] 26) wr) (fun i _ => rs.length - (intOf i).toNat)
      case atStart => exact ⟨0, Nat.zero_le _, rfl, hR⟩
      case round =>
        clear hR
        obtain ⟨i, hi, rfl, hR⟩ := hrel
        have c2 : wr.cell? ⟨w.heap.size, 2, none⟩ = some (.slice a2 rs.length n2) := by rw [Lib.cell_of_heap hR.b1]; rfl
        have d2 : wr.cell? ⟨w.heap.size + 1, 2, none⟩ = some (.slice b2 rs.length m2) := by rw [Lib.cell_of_heap hR.b2]; rfl
        by_cases hil : i < rs.length
        · obtain ⟨xb, xo, rfl, p0, ⟨vt, p1, hT1⟩, p2, ⟨vb, p3, hB1⟩, p4⟩ := prules_at hL1 i hil
          obtain ⟨yb, yo, rfl, r0, ⟨ut, r1, hT2⟩, r2, ⟨ub, r3, hB2⟩, r4⟩ := prules_at hL2 i hil
          have HT1 : Hid (PTermsV w vt (Sc.ruleD rs i).terms) := hT1
          have HT2 : Hid (PTermsV w ut (Sc.ruleD rs i).terms) := hT2
          have HFI : Hid (RuleFit (Sc.ruleD rs i)) := HFR.out i hil
          obtain ⟨at1, ct1, rfl, _, _⟩ := hT1
          obtain ⟨at2, ct2, rfl, _, _⟩ := hT2
          obtain ⟨ab1, cb1, rfl, hLA1⟩ := hB1
          obtain ⟨ab2, cb2, rfl, hLA2⟩ := hB2
          have q0 := cell_below hR.bel p0
          have q1 := cell_below hR.bel p1
          have q2 := cell_below hR.bel p2
          have q3 := cell_below hR.bel p3
          have q4 := cell_below hR.bel p4
          have s0 := cell_below hR.bel r0
          have s1 := cell_below hR.bel r1
          have s2 := cell_below hR.bel r2
          have s3 := cell_below hR.bel r3
          have s4 := cell_below hR.bel r4
          clear p0 p1 p2 p3 p4 r0 r1 r2 r3 r4 hL1 hL2
          generalize hx : Sc.ruleD rs i = x at *
          clear hx
          go_upto_region 11 with fail
          go_cut [7, 8] (fun v8 v9 wx => ∃ pa pb : Nat, v8 = .pointer (some ⟨pa, 0, none⟩) ∧ v9 = .pointer (some ⟨pb, 0, none⟩) ∧ wx.heap[pa]? = some (pruObj x (.slice at1 x.terms.length ct1) (.slice ab1 x.body.length cb1)) ∧ wx.heap[pb]? = some (pruObj x (.slice at2 x.terms.length ct2) (.slice ab2 x.body.length cb2)) ∧ Below wr.heap.size wr wx)
          case first =>
            go_region_held3 (fun w' => w'.cell? ⟨w.heap.size, 2, none⟩ = some (.slice (some ⟨xb, xo, none⟩) rs.length n2) ∧ w'.cell? ⟨w.heap.size + 1, 2, none⟩ = some (.slice (some ⟨yb, yo, none⟩) rs.length m2) ∧ w'.cell? ⟨xb, xo + i * 5, none⟩ = some (.int .i64 x.pred) ∧ w'.cell? ⟨xb, xo + i * 5 + 1, none⟩ = some (.slice at1 x.terms.length ct1) ∧ w'.cell? ⟨xb, xo + i * 5 + 2, none⟩ = some (.int .i64 x.fold) ∧ w'.cell? ⟨xb, xo + i * 5 + 3, none⟩ = some (.slice ab1 x.body.length cb1) ∧ w'.cell? ⟨xb, xo + i * 5 + 4, none⟩ = some (.int .i64 x.vars) ∧
              w'.cell? ⟨yb, yo + i * 5, none⟩ = some (.int .i64 x.pred) ∧ w'.cell? ⟨yb, yo + i * 5 + 1, none⟩ = some (.slice at2 x.terms.length ct2) ∧ w'.cell? ⟨yb, yo + i * 5 + 2, none⟩ = some (.int .i64 x.fold) ∧ w'.cell? ⟨yb, yo + i * 5 + 3, none⟩ = some (.slice ab2 x.body.length cb2) ∧ w'.cell? ⟨yb, yo + i * 5 + 4, none⟩ = some (.int .i64 x.vars)) (go_keep) (fail)
            all_goals (go_wp2_with fail; go_meet)
            · exact ⟨_, _, rfl, rfl, (heap_two wr _ _).1, (heap_two wr _ _).2.1, (heap_two wr _ _).2.2⟩
            · exact ⟨_, _, rfl, rfl, (heap_two wr _ _).2.1, (heap_two wr _ _).1, (heap_two wr _ _).2.2⟩
          case rest =>
            obtain ⟨pa, pb, rfl, rfl, hpa, hpb, hbx⟩ := hcut
            generalize wc = wx at *
            have hRx := hR.below hbx
            clear c2 d2 q0 q1 q2 q3 q4 s0 s1 s2 s3 s4 hR hbx
            have k0 : wx.cell? ⟨pa, 0, none⟩ = some (.int .i64 x.pred) := by rw [Lib.cell_of_heap hpa]; rfl
            have k1 : wx.cell? ⟨pa, 1, none⟩ = some (.slice at1 x.terms.length ct1) := by rw [Lib.cell_of_heap hpa]; rfl
            have k2 : wx.cell? ⟨pa, 2, none⟩ = some (.int .i64 x.fold) := by rw [Lib.cell_of_heap hpa]; rfl
            have k3 : wx.cell? ⟨pa, 3, none⟩ = some (.slice ab1 x.body.length cb1) := by rw [Lib.cell_of_heap hpa]; rfl
            have k4 : wx.cell? ⟨pa, 4, none⟩ = some (.int .i64 x.vars) := by rw [Lib.cell_of_heap hpa]; rfl
            have t0 : wx.cell? ⟨pb, 0, none⟩ = some (.int .i64 x.pred) := by rw [Lib.cell_of_heap hpb]; rfl
            have t1 : wx.cell? ⟨pb, 1, none⟩ = some (.slice at2 x.terms.length ct2) := by rw [Lib.cell_of_heap hpb]; rfl
            have t2 : wx.cell? ⟨pb, 2, none⟩ = some (.int .i64 x.fold) := by rw [Lib.cell_of_heap hpb]; rfl
            have t3 : wx.cell? ⟨pb, 3, none⟩ = some (.slice ab2 x.body.length cb2) := by rw [Lib.cell_of_heap hpb]; rfl
            have t4 : wx.cell? ⟨pb, 4, none⟩ = some (.int .i64 x.vars) := by rw [Lib.cell_of_heap hpb]; rfl
            have e0 : (x.pred != x.pred) = false := by simp
            have e1 : (x.fold != x.fold) = false := by simp
            have e2 : (x.vars != x.vars) = false := by simp
            have e3 : ((x.body.length : Int) != (x.body.length : Int)) = false := by simp
            go_wp2_with fail
            refine Calls.mono (sameOwn_refl x.terms _ _ _ HFI.out.1 (ptermsV_below HT1.out hRx.bel) (ptermsV_below HT2.out hRx.bel)) ?_
            rintro e w3 ⟨rfl, hb3⟩
            have hR3 := hRx.below hb3
            have hpa3 := (hb3.block _ (heap_lt hpa)).trans hpa
            have hpb3 := (hb3.block _ (heap_lt hpb)).trans hpb
            clear k0 k1 k2 k3 k4 t0 t1 t2 t3 t4 hRx hb3 hpa hpb
            have k3 : w3.cell? ⟨pa, 3, none⟩ = some (.slice ab1 x.body.length cb1) := by rw [Lib.cell_of_heap hpa3]; rfl
            have t3 : w3.cell? ⟨pb, 3, none⟩ = some (.slice ab2 x.body.length cb2) := by rw [Lib.cell_of_heap hpb3]; rfl
            have hfb := HFI.out.2.1
            go_wp2_with fail
            clear k3 t3
            go_loopw [9] (fun v wq => ∃ m : Nat, m ≤ x.body.length ∧ v = .int .i64 m ∧ RB w (.cells #[.slice a0 ar.length n0, .slice a1 ns.length n1, .slice (some ⟨xb, xo, none⟩) rs.length n2] 26) (.cells #[.slice b0 ar.length m0, .slice b1 ns.length m1, .slice (some ⟨yb, yo, none⟩) rs.length m2] 26) wq ∧ wq.heap[pa]? = some (pruObj x (.slice at1 x.terms.length ct1) (.slice ab1 x.body.length cb1)) ∧ wq.heap[pb]? = some (pruObj x (.slice at2 x.terms.length ct2) (.slice ab2 x.body.length cb2))) (fun v _ => x.body.length - (intOf v).toNat)
            case atStart => exact ⟨0, Nat.zero_le _, rfl, hR3, hpa3, hpb3⟩
            case round =>
              clear hR3 hpa3 hpb3
              obtain ⟨m, hm, rfl, hR, hpa, hpb⟩ := hrel
              have k3 : wr.cell? ⟨pa, 3, none⟩ = some (.slice ab1 x.body.length cb1) := by rw [Lib.cell_of_heap hpa]; rfl
              have t3 : wr.cell? ⟨pb, 3, none⟩ = some (.slice ab2 x.body.length cb2) := by rw [Lib.cell_of_heap hpb]; rfl
              by_cases hml : m < x.body.length
              · obtain ⟨xb2, xo2, rfl, p0, p1, p2, vt, p3, hT1⟩ := plits_at hLA1 m hml
                obtain ⟨yb2, yo2, rfl, r0, r1, r2, ut, r3, hT2⟩ := plits_at hLA2 m hml
                have HT3 : Hid (PTermsV w vt (Sc.litD x.body m).terms) := hT1
                have HT4 : Hid (PTermsV w ut (Sc.litD x.body m).terms) := hT2
                have HFL : Hid (LitFit (Sc.litD x.body m)) := HFI.out.2.2 m hml
                obtain ⟨at3, ct3, rfl, _, _⟩ := hT1
                obtain ⟨at4, ct4, rfl, _, _⟩ := hT2
                have q0 := cell_below hR.bel p0
                have q1 := cell_below hR.bel p1
                have q2 := cell_below hR.bel p2
                have q3 := cell_below hR.bel p3
                have s0 := cell_below hR.bel r0
                have s1 := cell_below hR.bel r1
                have s2 := cell_below hR.bel r2
                have s3 := cell_below hR.bel r3
                clear p0 p1 p2 p3 r0 r1 r2 r3 hLA1 hLA2 HT1 HT2
                generalize hy : Sc.litD x.body m = y at *
                clear hy
                go_upto_region 17 with fail
                go_cut [10, 11] (fun v8 v9 wx => ∃ pc pd : Nat, v8 = .pointer (some ⟨pc, 0, none⟩) ∧ v9 = .pointer (some ⟨pd, 0, none⟩) ∧ wx.heap[pc]? = some (pliObj y (.slice at3 y.terms.length ct3)) ∧ wx.heap[pd]? = some (pliObj y (.slice at4 y.terms.length ct4)) ∧ Below wr.heap.size wr wx)
                case first =>
                  go_region_held3 (fun w' => w'.cell? ⟨pa, 3, none⟩ = some (.slice (some ⟨xb2, xo2, none⟩) x.body.length cb1) ∧ w'.cell? ⟨pb, 3, none⟩ = some (.slice (some ⟨yb2, yo2, none⟩) x.body.length cb2) ∧ w'.cell? ⟨xb2, xo2 + m * 4, none⟩ = some (.int .i64 y.kind) ∧ w'.cell? ⟨xb2, xo2 + m * 4 + 1, none⟩ = some (.int .i64 y.op) ∧ w'.cell? ⟨xb2, xo2 + m * 4 + 2, none⟩ = some (.int .i64 y.pred) ∧ w'.cell? ⟨xb2, xo2 + m * 4 + 3, none⟩ = some (.slice at3 y.terms.length ct3) ∧
                    w'.cell? ⟨yb2, yo2 + m * 4, none⟩ = some (.int .i64 y.kind) ∧ w'.cell? ⟨yb2, yo2 + m * 4 + 1, none⟩ = some (.int .i64 y.op) ∧ w'.cell? ⟨yb2, yo2 + m * 4 + 2, none⟩ = some (.int .i64 y.pred) ∧ w'.cell? ⟨yb2, yo2 + m * 4 + 3, none⟩ = some (.slice at4 y.terms.length ct4)) (go_keep) (fail)
                  all_goals (go_wp2_with fail; go_meet)
                  · exact ⟨_, _, rfl, rfl, (heap_two wr _ _).1, (heap_two wr _ _).2.1, (heap_two wr _ _).2.2⟩
                  · exact ⟨_, _, rfl, rfl, (heap_two wr _ _).2.1, (heap_two wr _ _).1, (heap_two wr _ _).2.2⟩
                case rest =>
                  obtain ⟨pc, pd, rfl, rfl, hpc, hpd, hbx⟩ := hcut
                  generalize wc = wx2 at *
                  have hRx := hR.below hbx
                  have hpax := (hbx.block _ (heap_lt hpa)).trans hpa
                  have hpbx := (hbx.block _ (heap_lt hpb)).trans hpb
                  clear k3 t3 q0 q1 q2 q3 s0 s1 s2 s3 hR hbx hpa hpb
                  have k0 : wx2.cell? ⟨pc, 0, none⟩ = some (.int .i64 y.kind) := by rw [Lib.cell_of_heap hpc]; rfl
                  have k1 : wx2.cell? ⟨pc, 1, none⟩ = some (.int .i64 y.op) := by rw [Lib.cell_of_heap hpc]; rfl
                  have k2 : wx2.cell? ⟨pc, 2, none⟩ = some (.int .i64 y.pred) := by rw [Lib.cell_of_heap hpc]; rfl
                  have k3 : wx2.cell? ⟨pc, 3, none⟩ = some (.slice at3 y.terms.length ct3) := by rw [Lib.cell_of_heap hpc]; rfl
                  have t0 : wx2.cell? ⟨pd, 0, none⟩ = some (.int .i64 y.kind) := by rw [Lib.cell_of_heap hpd]; rfl
                  have t1 : wx2.cell? ⟨pd, 1, none⟩ = some (.int .i64 y.op) := by rw [Lib.cell_of_heap hpd]; rfl
                  have t2 : wx2.cell? ⟨pd, 2, none⟩ = some (.int .i64 y.pred) := by rw [Lib.cell_of_heap hpd]; rfl
                  have t3 : wx2.cell? ⟨pd, 3, none⟩ = some (.slice at4 y.terms.length ct4) := by rw [Lib.cell_of_heap hpd]; rfl
                  have f0 : (y.kind != y.kind) = false := by simp
                  have f1 : (y.op != y.op) = false := by simp
                  have f2 : (y.pred != y.pred) = false := by simp
                  go_wp2_with fail
                  refine Calls.mono (sameOwn_refl y.terms _ _ _ HFL.out (ptermsV_below HT3.out hRx.bel) (ptermsV_below HT4.out hRx.bel)) ?_
                  rintro e w3 ⟨rfl, hb3⟩
                  have hR3 := hRx.below hb3
                  have hpa3 := (hb3.block _ (heap_lt hpax)).trans hpax
                  have hpb3 := (hb3.block _ (heap_lt hpbx)).trans hpbx
                  clear k0 k1 k2 k3 t0 t1 t2 t3 hRx hb3 hpax hpbx hpc hpd
                  go_wp2_with fail
                  go_roundw
                  case rel => exact ⟨m + 1, by omega, by go_num, hR3, hpa3, hpb3⟩
                  case measure => simp [intOf]; omega
              · go_wp2_with fail
                go_roundw
                case rel => exact ⟨i + 1, by omega, by go_num, hR⟩
                case measure => simp [intOf]; omega
        · have hbb := hR.bel
          clear hL1 hL2
          go_wp2_with fail
          go_ret
          exact ⟨rfl, hbb⟩

end Go.Proofs.YtgpaleifhcdjnaaGreatDoor

/- Package scope: facts. -/
namespace Go.Proofs.YtgpaleifhcdjnaaGreatDoor
open Go.RowKit

theorem enters38 : Enters 38 := enters_of Tryz.func38 (by kernel_rfl) rfl
set_option maxRecDepth 100000 in
set_option maxHeartbeats 400000 in
theorem notNum_any (n : Int) (w : World) : Calls Tryz.prog 38 #[.int .i64 n] w fun e w' => e = .returned (.bool (!Sc.isNum n)) ∧ w' = w := by
  go_enter Tryz.func38, Tryz.ntmps38
  go_wp2_with fail
  refine (isNumber_any n _).mono ?_
  rintro e w1 ⟨rfl, rfl⟩
  go_wp2_with fail
  go_ret
  exact ⟨rfl, rfl⟩

set_option maxRecDepth 100000 in
set_option maxHeartbeats 400000 in
theorem indexF_none (w : World) (ao : Option Addr) (cap : Nat) : Calls Tryz.prog 72 #[.slice ao 0 cap, .func (.func 38) #[] #[]] w fun e w' => e = .returned (.int .i64 (-1)) ∧ Below w.heap.size w w' := by
  go_enter Tryz.func72, Tryz.ntmps72
  go_wp2_with fail
  refine wp_loop_rounds 1 ?_
  rw [rounds_succ]
  go_wp2_with fail
  go_ret
  exact ⟨rfl, Below.refl _ _⟩

set_option maxRecDepth 100000 in
set_option maxHeartbeats 400000 in
theorem indexF_some (l : List Int) (n b off cap : Nat) (w : World) (hn : l.length = n) (hmax : n ≤ 9223372036854775807) (hB : ∀ i, i < n → w.cell? ⟨b, off + i, none⟩ = some (.int .i64 (Sc.intD l i))) :
    Calls Tryz.prog 72 #[.slice (some ⟨b, off, none⟩) n cap, .func (.func 38) #[] #[]] w fun e w' => ∃ r : Int, e = .returned (.int .i64 r) ∧ decide (0 ≤ r) = !(l.all Sc.isNum) ∧ Below w.heap.size w w' := by
  have HN : Hid (l.length = n) := hn
  have he := enters38
  unfold Enters at he
  clear hn
  go_enter Tryz.func72, Tryz.ntmps72
  go_wp2_with fail
  go_loopw [8] (fun i wr => ∃ k : Nat, k ≤ n ∧ i = .int .i64 k ∧ l.all Sc.isNum = (l.drop k).all Sc.isNum ∧ Below w.heap.size w wr) (fun i _ => n - (intOf i).toNat)
  case atStart => exact ⟨0, Nat.zero_le _, rfl, rfl, Below.refl _ _⟩
  case round =>
    obtain ⟨k, hk, rfl, hall, hbel⟩ := hrel
    have HA : Hid (l.all Sc.isNum = (l.drop k).all Sc.isNum) := hall
    clear hall
    by_cases hlt : k < n
    · have hc := cell_below hbel (hB k hlt)
      have HD : Hid (l.all Sc.isNum = (Sc.isNum (Sc.intD l k) && (l.drop (k + 1)).all Sc.isNum)) := HA.out.trans (all_drop _ _ _ k (by rw [HN.out]; exact hlt))
      clear hB HA
      generalize Sc.intD l k = x at *
      go_wp2_with fail
      refine (notNum_any x _).mono ?_
      rintro e w1 ⟨he1, rfl⟩
      cases hx : Sc.isNum x
      · rw [hx] at he1
        subst he1
        have HV : Hid (l.all Sc.isNum = false) := by show _ = _; rw [HD.out, hx]; rfl
        clear HD
        go_wp2_with fail
        go_ret
        exact ⟨k, rfl, by rw [HV.out]; simp, hbel⟩
      · rw [hx] at he1
        subst he1
        have HV : Hid (l.all Sc.isNum = (l.drop (k + 1)).all Sc.isNum) := by show _ = _; rw [HD.out, hx]; rfl
        clear HD
        go_wp2_with fail
        go_roundw
        case rel => exact ⟨k + 1, by omega, by go_num, HV.out, hbel⟩
        case measure => simp [intOf]; omega
    · have HV : Hid (l.all Sc.isNum = true) := by show _ = _; rw [HA.out, List.drop_of_length_le (by rw [HN.out]; omega)]; rfl
      clear hB
      go_wp2_with fail
      go_ret
      exact ⟨-1, rfl, by rw [HV.out]; rfl, hbel⟩

set_option maxRecDepth 100000 in
set_option maxHeartbeats 400000 in
theorem containsF_any (l : List Int) (v : Value) (w : World) (hV : IntsV w v l) (hmax : l.length ≤ 9223372036854775807) :
    Calls Tryz.prog 37 #[v, .func (.func 38) #[] #[]] w fun e w' => e = .returned (.bool (!(l.all Sc.isNum))) ∧ Below w.heap.size w w' := by
  obtain ⟨ao, cap, rfl, h⟩ := hV
  have HI : Hid (Calls Tryz.prog 72 #[.slice ao l.length cap, .func (.func 38) #[] #[]] w fun e w' => ∃ r : Int, e = .returned (.int .i64 r) ∧ decide (0 ≤ r) = !(l.all Sc.isNum) ∧ Below w.heap.size w w') := by
    rcases h with rfl | ⟨b, off, rfl, h⟩
    · exact (indexF_none w ao cap).mono fun e w' ⟨h1, h2⟩ => ⟨-1, h1, rfl, h2⟩
    · exact indexF_some l l.length b off cap w rfl hmax h
  go_enter Tryz.func37, Tryz.ntmps37
  go_wp2_with fail
  refine Calls.mono HI.out ?_
  rintro e w1 ⟨r, rfl, hr, hb⟩
  go_wp2_with fail
  go_ret
  exact ⟨rfl, hb⟩

/-- A fact's value. -/
abbrev factVal (pred : Int) (v : Value) : Value := .agg #[.int .i64 pred, v]

set_option maxRecDepth 100000 in
set_option maxHeartbeats 2000000 in
theorem fact1_any (p : Sc.Prog) (va vn vr : Value) (X Y : Nat) (pred : Int) (args : List Int) (v : Value) (w : World) (hX : w.heap[X]? = some (.cells #[va, vn, vr] 26)) (hY : w.heap[Y]? = some (.cells #[.int .i64 pred, v] 28)) (hP : ProgV w va vn vr p) (hF : ProgFit p) (hV : IntsV w v args) (hmax : args.length ≤ 9223372036854775807) :
    Calls Tryz.prog 34 #[.pointer (some ⟨X, 0, none⟩), .pointer (some ⟨Y, 0, none⟩)] w fun e w' => e = finE (Sc.fact p pred args) ∧ Below w.heap.size w w' := by
  have HPV : Hid (ProgV w va vn vr p) := hP
  have HV0 : Hid (IntsV w v args) := hV
  obtain ⟨ao, cap, rfl, hA⟩ := hP.ar
  obtain ⟨ag, cg, rfl, _⟩ := hV
  have c0 : w.cell? ⟨X, 0, none⟩ = some (.slice ao p.arity.length cap) := by rw [Lib.cell_of_heap hX]; rfl
  have c1 : w.cell? ⟨X, 1, none⟩ = some vn := by rw [Lib.cell_of_heap hX]; rfl
  have c2 : w.cell? ⟨X, 2, none⟩ = some vr := by rw [Lib.cell_of_heap hX]; rfl
  have HE : Hid (Sc.fact p pred args = Sc.thn (Sc.check p) (Sc.factErr p pred args)) := rfl
  clear hP
  go_enter Tryz.func34, Tryz.ntmps34
  go_wp2_with fail
  refine Calls.mono (scCheck_any p _ _ _ _ HPV.out hF) ?_
  rintro e w1 ⟨he, hb1⟩
  by_cases h : Sc.check p = 0
  rotate_left
  · rw [finE_ne h] at he
    subst he
    have HV : Hid (Sc.fact p pred args = Sc.check p) := by show _ = _; rw [HE.out, Sc.thn_ne _ h]
    go_wp2_with fail
    exact ⟨rfl, by rw [HV.out, finE_ne h], hb1⟩
  rw [h, finE_zero] at he
  subst he
  rw [h, Sc.thn_zero] at HE
  have hX1 := (hb1.block _ (heap_lt hX)).trans hX
  have hY1 := (hb1.block _ (heap_lt hY)).trans hY
  clear c0 c1 c2
  have c0 : w1.cell? ⟨X, 0, none⟩ = some (.slice ao p.arity.length cap) := by rw [Lib.cell_of_heap hX1]; rfl
  have c1 : w1.cell? ⟨X, 1, none⟩ = some vn := by rw [Lib.cell_of_heap hX1]; rfl
  have c2 : w1.cell? ⟨X, 2, none⟩ = some vr := by rw [Lib.cell_of_heap hX1]; rfl
  have d0 : w1.cell? ⟨Y, 0, none⟩ = some (.int .i64 pred) := by rw [Lib.cell_of_heap hY1]; rfl
  have d1 : w1.cell? ⟨Y, 1, none⟩ = some (.slice ag args.length cg) := by rw [Lib.cell_of_heap hY1]; rfl
  clear hX hY h hF HPV
  unfold Sc.factErr at HE
  go_wp2_with fail
  refine Calls.mono (isPred_any p.arity ao cap vn vr pred _) ?_
  rintro e w2 ⟨he, hb2⟩
  have hb12 := hb1.trans (hb2.mono hb1.size)
  have hX2 := (hb2.block _ (heap_lt hX1)).trans hX1
  have hY2 := (hb2.block _ (heap_lt hY1)).trans hY1
  cases g1 : Sc.isPred p.arity pred
  · rw [g1] at he
    subst he
    have HV : Hid (Sc.fact p pred args = 5) := by show _ = _; rw [HE.out, g1]; rfl
    go_wp2_with fail
    refine (refuse_yes 5 _).mono ?_
    rintro e w3 ⟨rfl, hb3⟩
    go_wp2_with fail
    exact ⟨rfl, by rw [HV.out]; rfl, hb12.trans (hb3.mono hb12.size)⟩
  rw [g1] at he
  subst he
  obtain ⟨k, rfl, hk⟩ := nat_of g1
  obtain ⟨b, off, rfl, hc⟩ := ints_at hA k hk
  have hq := cell_below hb12 hc
  rw [g1, if_pos rfl, Int.toNat_natCast] at HE
  clear c0 c1 c2 d0 d1
  have c0 : w2.cell? ⟨X, 0, none⟩ = some (.slice (some ⟨b, off, none⟩) p.arity.length cap) := by rw [Lib.cell_of_heap hX2]; rfl
  have d0 : w2.cell? ⟨Y, 0, none⟩ = some (.int .i64 k) := by rw [Lib.cell_of_heap hY2]; rfl
  have d1 : w2.cell? ⟨Y, 1, none⟩ = some (.slice ag args.length cg) := by rw [Lib.cell_of_heap hY2]; rfl
  clear hc hA hX1 hY1 hb1 hb2
  go_wp2_with fail
  refine (refuse_no 5 _).mono ?_
  rintro e w3 ⟨rfl, rfl⟩
  go_upto_region 3 with fail
  cases g2 : ((args.length : Int) != Sc.intD p.arity k)
  · have h2 : (args.length : Int) = Sc.intD p.arity k := by simpa using g2
    rw [if_neg (by simp [h2]), Sc.thn_zero] at HE
    clear h2
    go_region_held3 (fun y => y.cell? ⟨X, 0, none⟩ = some (.slice (some ⟨b, off, none⟩) p.arity.length cap) ∧ y.cell? ⟨Y, 0, none⟩ = some (.int .i64 k) ∧ y.cell? ⟨Y, 1, none⟩ = some (.slice ag args.length cg) ∧ y.cell? ⟨b, off + k, none⟩ = some (.int .i64 (Sc.intD p.arity k))) (go_keep) ((go_at_call 35; refine Calls.mono (refuse_no 1 _) ?_; rintro e y ⟨rfl, rfl⟩))
    have hY3 : w3.drew.heap[Y]? = some (.cells #[.int .i64 k, .slice ag args.length cg] 28) := hY2
    have hb3 := hb12.drew
    clear hq c0 d0 d1 hX2 hY2 hb12
    generalize w3.drew = w4 at *
    have d1 : w4.cell? ⟨Y, 1, none⟩ = some (.slice ag args.length cg) := by rw [Lib.cell_of_heap hY3]; rfl
    have hmf : ∀ (fn : Fn) (first cap : Array Value) (w : World), (Instr.makeFunc fn first cap).run Tryz.prog w = .ok (.func fn first cap) w := fun _ _ _ _ => rfl
    go_wp2_with fail
    refine Calls.mono (containsF_any args _ _ (intsV_below HV0.out hb3) hmax) ?_
    rintro e w5 ⟨he, hb5⟩
    have hb35 := hb3.trans (hb5.mono hb3.size)
    cases g3 : args.all Sc.isNum
    · rw [g3] at he HE
      subst he
      have HV : Hid (Sc.fact p k args = 3) := by show _ = _; rw [HE.out]; rfl
      go_wp2_with fail
      refine (refuse_yes 3 _).mono ?_
      rintro e w6 ⟨rfl, hb6⟩
      go_wp2_with fail
      exact ⟨rfl, by rw [HV.out]; rfl, hb35.trans (hb6.mono hb35.size)⟩
    · rw [g3] at he HE
      subst he
      have HV : Hid (Sc.fact p k args = 0) := by show _ = _; rw [HE.out]; rfl
      go_wp2_with fail
      refine (refuse_no 3 _).mono ?_
      rintro e w6 ⟨rfl, rfl⟩
      go_wp2_with fail
      exact ⟨rfl, .tuple #[], by simp [results, Tryz.results34], by rw [HV.out]; rfl, hb35⟩
  · have h2 : ¬ (args.length : Int) = Sc.intD p.arity k := by simpa using g2
    have HV : Hid (Sc.fact p k args = 1) := by show _ = _; rw [HE.out, if_pos h2]; rfl
    clear HE h2
    refine wp_region_held_drew (S := (fun y => y.cell? ⟨X, 0, none⟩ = some (.slice (some ⟨b, off, none⟩) p.arity.length cap) ∧ y.cell? ⟨Y, 0, none⟩ = some (.int .i64 k) ∧ y.cell? ⟨Y, 1, none⟩ = some (.slice ag args.length cg) ∧ y.cell? ⟨b, off + k, none⟩ = some (.int .i64 (Sc.intD p.arity k)))) (by kernel_rfl) (by go_keep) (fun hHeld => ?_)
    refine wpAnyH_take (i := 0) (v := ?v0x0) rfl (by kernel_rfl) (by kernel_rfl) (by kernel_rfl) (fun _ _ _ h => h) (Or.inl ⟨by rfl, ?hy0x0⟩) (by assumption) ?_
    case hy0x0 =>
      intro w hSw
      (try dsimp only at hSw)
      go_simp
      try with_reducible rfl
    try simp only [Act.put, List.setIfInBounds_toArray]
    refine wpAnyH_take (i := 1) (v := ?v1x1) rfl (by kernel_rfl) (by kernel_rfl) (by kernel_rfl) (fun _ _ _ h => h) (Or.inl ⟨by rfl, ?hy1x1⟩) (by assumption) ?_
    case hy1x1 =>
      intro w hSw
      (try dsimp only at hSw)
      go_simp
      try with_reducible rfl
    try simp only [Act.put]
    refine wpAnyH_take (i := 2) (v := ?v2x2) rfl (by kernel_rfl) (by kernel_rfl) (by kernel_rfl) (fun _ _ _ h => h) (Or.inl ⟨by rfl, ?hy2x2⟩) (by assumption) ?_
    case hy2x2 =>
      intro w hSw
      (try dsimp only at hSw)
      go_simp
      try with_reducible rfl
    try simp only [Act.put]
    refine wpAnyH_take (i := 3) (v := ?v3x3) rfl (by kernel_rfl) (by kernel_rfl) (by kernel_rfl) (fun _ _ _ h => h) (Or.inl ⟨by rfl, ?hy3x3⟩) (by assumption) ?_
    case hy3x3 =>
      intro w hSw
      (try dsimp only at hSw)
      go_simp
      try with_reducible rfl
    try simp only [Act.put]
    refine wpAnyH_take (i := 4) (v := ?v4x4) rfl (by kernel_rfl) (by kernel_rfl) (by kernel_rfl) (fun _ _ _ h => h) (Or.inl ⟨by rfl, ?hy4x4⟩) (by assumption) ?_
    case hy4x4 =>
      intro w hSw
      (try dsimp only at hSw)
      go_simp
      try with_reducible rfl
    try simp only [Act.put]
    refine wpAnyH_take (i := 5) (v := ?v5x5) rfl (by kernel_rfl) (by kernel_rfl) (by kernel_rfl) (fun _ _ _ h => h) (Or.inl ⟨by rfl, ?hy5x5⟩) (by assumption) ?_
    case hy5x5 =>
      intro w hSw
      (try dsimp only at hSw)
      go_simp
      try with_reducible rfl
    try simp only [Act.put]
    refine wpAnyH_take (i := 6) (v := ?v6x6) rfl (by kernel_rfl) (by kernel_rfl) (by kernel_rfl) (fun _ _ _ h => h) (Or.inl ⟨by rfl, ?hy6x6⟩) (by assumption) ?_
    case hy6x6 =>
      intro w hSw
      (try dsimp only at hSw)
      go_simp
      try with_reducible rfl
    try simp only [Act.put]
    refine wpAnyH_take (i := 7) (v := ?v7x7) rfl (by kernel_rfl) (by kernel_rfl) (by kernel_rfl) (fun _ _ _ h => h) (Or.inl ⟨by rfl, ?hy7x7⟩) (by assumption) ?_
    case hy7x7 =>
      intro w hSw
      (try dsimp only at hSw)
      go_simp
      try with_reducible rfl
    try simp only [Act.put]
    refine wpAnyH_take (i := 8) (v := ?v8x8) rfl (by kernel_rfl) (by kernel_rfl) (by kernel_rfl) (fun _ _ _ h => h) (Or.inl ⟨by rfl, ?hy8x8⟩) (by assumption) ?_
    case hy8x8 =>
      intro w hSw
      (try dsimp only at hSw)
      go_simp
      try with_reducible rfl
    try simp only [Act.put]
    refine wpAnyH_take (i := 9) (v := ?v9x9) rfl (by kernel_rfl) (by kernel_rfl) (by kernel_rfl) (fun _ _ _ h => h) (Or.inl ⟨by rfl, ?hy9x9⟩) (by assumption) ?_
    case hy9x9 =>
      intro w hSw
      (try dsimp only at hSw)
      go_simp
      try with_reducible rfl
    try simp only [Act.put]
    refine wpAnyH_ready (rs := [10]) (by kernel_rfl) (by simp) ?_
    refine AllReadyH.cons rfl (fun K hK => ?_) AllReadyH.nil
    go_simp
    go_at_call 35
    refine Calls.mono (refuse_yes 1 _) ?_
    rintro e y2 ⟨rfl, hb4⟩
    exact ⟨rfl, by rw [HV.out]; rfl, hb12.drew.trans (hb4.mono hb12.size)⟩

set_option maxRecDepth 100000 in
set_option maxHeartbeats 400000 in
theorem ScFact_any (p : Sc.Prog) (va vn vr : Value) (pred : Int) (args : List Int) (v : Value) (w : World) (hP : ProgV w va vn vr p) (hF : ProgFit p) (hV : IntsV w v args) (hmax : args.length ≤ 9223372036854775807) :
    Calls Tryz.prog 11 #[progVal va vn vr, factVal pred v] w fun e w' => e = .returned (.int .i64 (Sc.fact p pred args)) ∧ Below w.heap.size w w' := by
  obtain ⟨a0, n0, rfl, _⟩ := id hP.ar
  obtain ⟨a1, n1, rfl, _⟩ := id hP.nm
  obtain ⟨a2, n2, rfl, _⟩ := id hP.rl
  obtain ⟨a3, n3, rfl, _⟩ := id hV
  have hmf : ∀ (fn : Fn) (first cap : Array Value) (w : World), (Instr.makeFunc fn first cap).run Tryz.prog w = .ok (.func fn first cap) w := fun _ _ _ _ => rfl
  have hb0 : ∀ (u : World) (o : Obj), Below u.heap.size u (u.alloc o) := fun u o => (Below.refl _ _).alloc (Nat.le_refl _) o
  have hR := RB.start w (.cells #[.slice a0 p.arity.length n0, .slice a1 p.names.length n1, .slice a2 p.rules.length n2] 26) (.cells #[.int .i64 pred, .slice a3 args.length n3] 28)
  go_enter Tryz.func11, Tryz.ntmps11
  go_wp2_with fail
  generalize (w.alloc (.cells #[.slice a0 p.arity.length n0, .slice a1 p.names.length n1, .slice a2 p.rules.length n2] 26)).alloc (.cells #[.int .i64 pred, .slice a3 args.length n3] 28) = w1 at *
  refine Calls.mono (caught_any 34 _ none 0 (Sc.fact p pred args) (fun _ => True) w1 enters34 (fun _ e => by cases e) (fun _ _ _ _ _ => trivial) ?_) ?_
  · have hR1 := hR.below (hb0 w1 (.cells #[.int .i64 0, .int .i64 0] 71))
    refine Calls.mono (fact1_any p _ _ _ w.heap.size (w.heap.size + 1) pred args _ _ hR1.b1 hR1.b2 (hP.below hR1.bel) hF (intsV_below hV hR1.bel) hmax) ?_
    rintro e w2 ⟨rfl, hb⟩
    exact ⟨rfl, grownBy_of_below hb _, trivial⟩
  · rintro e w2 ⟨rfl, hg, _⟩
    have hbb := hR.bel.trans ((below_of_grown hg).mono hR.bel.size)
    go_wp2_with fail
    simp only [fldF]
    go_wp2_with fail
    go_ret
    exact ⟨rfl, hbb⟩

end Go.Proofs.YtgpaleifhcdjnaaGreatDoor

/- What must be in any case: the small text's program. -/
namespace Go.Proofs.YtgpaleifhcdjnaaGreatDoor
open Go.RowKit

def smallP : Sc.Prog := (Sc.resolveOf smallT).1
set_option maxRecDepth 100000 in
theorem smallP_ok : (Sc.resolveOf smallT).2 = (0, 0) := by kernel_rfl
theorem smallP_res : Sc.resolveOf smallT = (smallP, 0, 0) := by unfold smallP; rw [← smallP_ok]
theorem smallP_prog : Sc.programOf (Pr.parse smallL) = (smallP, 0, 0) := by rw [small_parse, ← smallP_res]; rfl
theorem smallP_ar : smallP.arity = [2, 2, 1] := by kernel_rfl
theorem smallP_nm : smallP.names.length = 3 := by kernel_rfl
theorem smallP_rl : smallP.rules.length = 2 := by kernel_rfl
theorem smallP_vars : (Sc.ruleD smallP.rules 1).vars = 2 := by kernel_rfl
theorem smallP_check : Sc.check smallP = 0 := by kernel_rfl
theorem smallP_fact : Sc.fact smallP 2 [7] = 0 := by kernel_rfl
theorem smallP_resolve : Sc.resolve smallT = .inr smallP := by
  have h := smallP_res
  unfold Sc.resolveOf at h
  rw [if_pos small_check] at h
  rcases hr : Sc.resolve smallT with e | p
  · rw [hr] at h
    simp only at h
    injection h with _ h
    injection h with _ h
    exact absurd h (resolve_bad hr)
  · rw [hr] at h
    simp only at h
    split at h
    · injection h with h _
      rw [h]
    · rename_i hc
      injection h with _ h
      injection h with _ h
      exact absurd h hc
theorem smallP_fit : ProgFit smallP := resolve_fit smallP_resolve small_check (by rw [smallP_ar, smallP_nm]; rfl)

/-- Two programs in their boxes. -/
structure BG (w : World) (PB QB : Nat) (a0 a1 a2 b0 b1 b2 : Option Addr) (n0 n1 n2 m0 m1 m2 : Nat) (z : World) : Prop where
  pb : z.heap[PB]? = some (.cells #[.slice a0 3 n0, .slice a1 3 n1, .slice a2 2 n2] 26)
  qb : z.heap[QB]? = some (.cells #[.slice b0 3 m0, .slice b1 3 m1, .slice b2 2 m2] 26)
  pv : ProgV z (.slice a0 3 n0) (.slice a1 3 n1) (.slice a2 2 n2) smallP
  qv : ProgV z (.slice b0 3 m0) (.slice b1 3 m1) (.slice b2 2 m2) smallP
  bw : Below w.heap.size w z
section
variable {w : World} {PB QB : Nat} {a0 a1 a2 b0 b1 b2 : Option Addr} {n0 n1 n2 m0 m1 m2 : Nat} {z z2 : World}
theorem BG.below (h : BG w PB QB a0 a1 a2 b0 b1 b2 n0 n1 n2 m0 m1 m2 z) (hb : Below z.heap.size z z2) : BG w PB QB a0 a1 a2 b0 b1 b2 n0 n1 n2 m0 m1 m2 z2 :=
  ⟨(hb.block _ (heap_lt h.pb)).trans h.pb, (hb.block _ (heap_lt h.qb)).trans h.qb, h.pv.below hb, h.qv.below hb, h.bw.trans (hb.mono h.bw.size)⟩
theorem BG.cells (h : BG w PB QB a0 a1 a2 b0 b1 b2 n0 n1 n2 m0 m1 m2 z) : z.cell? ⟨PB, 0, none⟩ = some (.slice a0 3 n0) ∧ z.cell? ⟨PB, 1, none⟩ = some (.slice a1 3 n1) ∧ z.cell? ⟨PB, 2, none⟩ = some (.slice a2 2 n2) ∧ z.cell? ⟨QB, 0, none⟩ = some (.slice b0 3 m0) ∧ z.cell? ⟨QB, 1, none⟩ = some (.slice b1 3 m1) ∧ z.cell? ⟨QB, 2, none⟩ = some (.slice b2 2 m2) :=
  ⟨by rw [Lib.cell_of_heap h.pb]; rfl, by rw [Lib.cell_of_heap h.pb]; rfl, by rw [Lib.cell_of_heap h.pb]; rfl, by rw [Lib.cell_of_heap h.qb]; rfl, by rw [Lib.cell_of_heap h.qb]; rfl, by rw [Lib.cell_of_heap h.qb]; rfl⟩
theorem BG.vars (h : BG w PB QB a0 a1 a2 b0 b1 b2 n0 n1 n2 m0 m1 m2 z) : ∃ b off, a2 = some ⟨b, off, none⟩ ∧ z.cell? ⟨b, off + 9, none⟩ = some (.int .i64 2) := by
  obtain ⟨ao, cap, hv, hA⟩ := h.pv.rl
  rcases hA with h0 | ⟨b, off, rfl, hc⟩
  · exact absurd (congrArg List.length h0) (by rw [smallP_rl]; decide)
  · have h4 := (hc 1 (by rw [smallP_rl]; decide)).2.2.2.2
    rw [smallP_vars] at h4
    injection hv with e1 _ _
    exact ⟨b, off, e1, h4⟩
end
theorem ints_new3 (w : World) (o : Obj) (h : o = .cells #[.int .i64 2, .int .i64 2, .int .i64 1] 3) : IntsV (w.alloc o) (.slice (some ⟨w.heap.size, 0, none⟩) 3 3) [2, 2, 1] := by
  subst h
  refine ⟨_, _, rfl, .inr ⟨_, 0, rfl, fun i hi => ?_⟩⟩
  match i, hi with
  | 0, _ => rw [Lib.cell_of_heap (heap_alloc_new w _)]; rfl
  | 1, _ => rw [Lib.cell_of_heap (heap_alloc_new w _)]; rfl
  | 2, _ => rw [Lib.cell_of_heap (heap_alloc_new w _)]; rfl
theorem ints_new1 (w : World) (o : Obj) (h : o = .cells #[.int .i64 7] 3) : IntsV (w.alloc o) (.slice (some ⟨w.heap.size, 0, none⟩) 1 1) [7] := by
  subst h
  refine ⟨_, _, rfl, .inr ⟨_, 0, rfl, fun i hi => ?_⟩⟩
  match i, hi with
  | 0, _ => rw [Lib.cell_of_heap (heap_alloc_new w _)]; rfl

set_option maxRecDepth 100000 in
set_option maxHeartbeats 2000000 in
theorem scopeBegun_any (w : World) : Calls Tryz.prog 9 #[] w fun e w' => e = .returned (.bool true) ∧ Below w.heap.size w w' := by
  have HP : Hid (∀ w, Calls Tryz.prog 15 #[.string smallB] w fun e w' => ∃ a0 n0 a1 n1 a2 n2, e = .returned (.tuple #[progVal (.slice a0 3 n0) (.slice a1 3 n1) (.slice a2 2 n2), .int .i64 0, .int .i64 0]) ∧ ProgV w' (.slice a0 3 n0) (.slice a1 3 n1) (.slice a2 2 n2) smallP ∧ Below w.heap.size w w') := by
    intro w
    have h := Program_any smallB w names_of_check
    rw [show smallB.data.toList = smallL from rfl, smallP_prog] at h
    refine h.mono ?_
    rintro e w' ⟨va, vn, vr, he, hR, hb⟩
    obtain ⟨a0, n0, rfl, _⟩ := id hR.ar
    obtain ⟨a1, n1, rfl, _⟩ := id hR.nm
    obtain ⟨a2, n2, rfl, _⟩ := id hR.rl
    simp only [smallP_nm, smallP_rl, smallP_ar] at he hR
    exact ⟨a0, n0, a1, n1, a2, n2, he, hR, hb⟩
  have HT : Hid (∀ w, Calls Tryz.prog 20 #[.string smallB] w fun e w' => ∃ ao cap, e = .returned (.tuple #[.agg #[.slice ao 2 cap], .int .i64 0, .int .i64 0]) ∧ RulesV w' (.slice ao 2 cap) smallT ∧ Below w.heap.size w w') := by
    intro w
    have h := ParseOf_any smallB w
    rw [show smallB.data.toList = smallL from rfl, small_parse] at h
    refine h.mono ?_
    rintro e w' ⟨ao, cap, he, hR, hb⟩
    simp only [small_len] at he hR
    exact ⟨ao, cap, he, hR.toV, hb⟩
  have HR : Hid (∀ w ao cap, RulesV w (.slice ao 2 cap) smallT → Calls Tryz.prog 12 #[.agg #[.slice ao 2 cap]] w fun e w' => ∃ a0 n0 a1 n1 a2 n2, e = .returned (.tuple #[progVal (.slice a0 3 n0) (.slice a1 3 n1) (.slice a2 2 n2), .int .i64 0, .int .i64 0]) ∧ ProgV w' (.slice a0 3 n0) (.slice a1 3 n1) (.slice a2 2 n2) smallP ∧ Below w.heap.size w w') := by
    intro w ao cap hV
    have h := Resolve_any smallT _ w hV names_of_check
    rw [smallP_res] at h
    refine h.mono ?_
    rintro e w' ⟨va, vn, vr, he, hR, hb⟩
    have hR := hR w' (Agree.refl _ _)
    obtain ⟨a0, n0, rfl, _⟩ := id hR.ar
    obtain ⟨a1, n1, rfl, _⟩ := id hR.nm
    obtain ⟨a2, n2, rfl, _⟩ := id hR.rl
    simp only [smallP_nm, smallP_rl, smallP_ar] at he hR
    exact ⟨a0, n0, a1, n1, a2, n2, he, hR, hb⟩
  unfold smallB at HP HT
  go_enter Tryz.func9, Tryz.ntmps9
  go_wp2_with fail
  refine Calls.mono (HP.out _) ?_
  rintro e w1 ⟨a0, n0, a1, n1, a2, n2, rfl, hP1, hb1⟩
  have bA : Below w1.heap.size w1 (w1.alloc (.cells #[.slice a0 3 n0, .slice a1 3 n1, .slice a2 2 n2] 26)) := (Below.refl _ _).alloc (Nat.le_refl _) _
  have hPb := heap_alloc_new w1 (.cells #[.slice a0 3 n0, .slice a1 3 n1, .slice a2 2 n2] 26)
  have hP2 := hP1.below bA
  have hb2 := hb1.trans (bA.mono hb1.size)
  go_wp2_with fail
  clear hP1 hb1 bA HP
  generalize hPB : w1.heap.size = PB at *
  generalize w1.alloc (.cells #[.slice a0 3 n0, .slice a1 3 n1, .slice a2 2 n2] 26) = w2 at *
  clear hPB
  refine Calls.mono (HT.out _) ?_
  rintro e w3 ⟨ao, cap, rfl, hR3, hb3⟩
  have bB : Below w3.heap.size w3 (w3.alloc (.cells #[.slice ao 2 cap] 36)) := (Below.refl _ _).alloc (Nat.le_refl _) _
  have hb4 := hb3.trans (bB.mono hb3.size)
  have hPb4 := (hb4.block _ (heap_lt hPb)).trans hPb
  have hP4 := hP2.below hb4
  have hbw4 := hb2.trans (hb4.mono hb2.size)
  have hR4 := rulesV_below hR3 bB
  have t0 : (w3.alloc (.cells #[.slice ao 2 cap] 36)).cell? ⟨w3.heap.size, 0, none⟩ = some (.slice ao 2 cap) := by rw [Lib.cell_of_heap (heap_alloc_new w3 _)]; rfl
  clear hR3 hb3 bB hb4 hPb hP2 hb2 HT
  go_wp2_with fail
  generalize hTB : w3.heap.size = TB at *
  generalize w3.alloc (.cells #[.slice ao 2 cap] 36) = w4 at *
  clear hTB t0
  refine Calls.mono (HR.out _ _ _ hR4) ?_
  rintro e w5 ⟨b0, m0, b1, m1, b2, m2, rfl, hQ5, hb5⟩
  have bC : Below w5.heap.size w5 (w5.alloc (.cells #[.slice b0 3 m0, .slice b1 3 m1, .slice b2 2 m2] 26)) := (Below.refl _ _).alloc (Nat.le_refl _) _
  have hb6 := hb5.trans (bC.mono hb5.size)
  have hPb6 := (hb6.block _ (heap_lt hPb4)).trans hPb4
  have hQb6 := heap_alloc_new w5 (.cells #[.slice b0 3 m0, .slice b1 3 m1, .slice b2 2 m2] 26)
  have hP6 := hP4.below hb6
  have hQ6 := hQ5.below bC
  have hbw6 := hbw4.trans (hb6.mono hbw4.size)
  clear hQ5 hb5 bC hb6 hPb4 hP4 hbw4 hR4 HR
  have hB : BG w PB w5.heap.size a0 a1 a2 b0 b1 b2 n0 n1 n2 m0 m1 m2 (w5.alloc (.cells #[.slice b0 3 m0, .slice b1 3 m1, .slice b2 2 m2] 26)) := ⟨hPb6, hQb6, hP6, hQ6, hbw6⟩
  clear hPb6 hQb6 hP6 hQ6 hbw6
  obtain ⟨p0, p1, p2, q0, q1, q2⟩ := hB.cells
  go_wp2_with fail
  generalize hQB : w5.heap.size = QB at *
  generalize w5.alloc (.cells #[.slice b0 3 m0, .slice b1 3 m1, .slice b2 2 m2] 26) = w6 at *
  clear hQB p0 p1 p2 q0 q1 q2
  refine Calls.mono (ScCheck_any smallP _ _ _ _ hB.pv smallP_fit) ?_
  rintro e w7 ⟨he, hb7⟩
  rw [smallP_check] at he
  subst he
  have hB7 := hB.below hb7
  obtain ⟨p0, p1, p2, q0, q1, q2⟩ := hB7.cells
  clear hB hb7
  go_wp2_with fail
  clear p0 p1 p2 q0 q1 q2
  refine Calls.mono (sameProg_refl smallP _ _ _ _ _ _ _ hB7.pv hB7.qv smallP_fit) ?_
  rintro e w8 ⟨rfl, hb8⟩
  have hB8 := hB7.below hb8
  obtain ⟨p0, p1, p2, q0, q1, q2⟩ := hB8.cells
  clear hB7 hb8
  go_wp2_with fail
  clear p0 p1 p2 q0 q1 q2
  have bD : Below w8.heap.size w8 (w8.alloc (.cells #[.int .i64 2, .int .i64 2, .int .i64 1] 3)) := (Below.refl _ _).alloc (Nat.le_refl _) _
  have hI9 := ints_new3 w8 _ rfl
  have hB9 := hB8.below bD
  have hA9 := hB9.pv.ar
  rw [smallP_ar] at hA9
  clear bD hB8
  generalize hIB : w8.heap.size = IB at *
  generalize w8.alloc (.cells #[.int .i64 2, .int .i64 2, .int .i64 1] 3) = w9 at *
  clear hIB
  refine Calls.mono (sameInts_refl [2, 2, 1] _ _ _ (by decide) hA9 hI9) ?_
  rintro e w10 ⟨rfl, hb10⟩
  have hB10 := hB9.below hb10
  obtain ⟨p0, p1, p2, q0, q1, q2⟩ := hB10.cells
  obtain ⟨vb, vo, rfl, v4⟩ := hB10.vars
  clear hB9 hb10 hI9 hA9
  go_wp2_with fail
  clear p0 p1 p2 q0 q1 q2 v4
  have bE : Below w10.heap.size w10 (w10.alloc (.cells #[.int .i64 7] 3)) := (Below.refl _ _).alloc (Nat.le_refl _) _
  have hI11 := ints_new1 w10 _ rfl
  have hB11 := hB10.below bE
  refine Calls.mono (ScFact_any smallP _ _ _ 2 [7] _ _ hB11.pv smallP_fit hI11 (by decide)) ?_
  rintro e w12 ⟨he, hb12⟩
  rw [smallP_fact] at he
  subst he
  have hbw := (hB11.below hb12).bw
  clear hB11 hB10 hb12 bE hI11
  go_wp2_with fail
  go_ret
  exact ⟨rfl, hbw⟩

end Go.Proofs.YtgpaleifhcdjnaaGreatDoor

