/- Own texts, one behind the other (part 5). -/
import Derived.Test.YtgpaleifhcdjnaaGreatDoorBundleD
import Derived.Test.YtgpaleifhcdjnaaGreatDoorRows
import Derived.Test.YtgpaleifhcdjnaaGreatDoorCards
import Derived.Test.YtgpaleifhcdjnaaGreatDoorTie
import Derived.Shelf.LaysM
import Derived.Shelf.Strconv.Itoa3
import Derived.Test.YtgpaleifhcdjnaaGreatDoorProg
import Derived.Lib.AppendIntMem
import Derived.Lib.LaidTab
import Derived.OneCell
import Derived.Deep.RegionLaw
import Derived.Deep.RegionHeld3
import Derived.Deep.DeepCutAuto
import Derived.Laws.BytesArg
import Derived.Laws.OwnMore
/- Tokens alone say what is parsed: joined they are parsed alike, but for where all begins. -/
namespace Go.Proofs.YtgpaleifhcdjnaaGreatDoor
open Pr

theorem litOk_er (x : Tr.Lit) : Tr.litOk (erL x) = Tr.litOk x := rfl
theorem litsOk_er (l : List Tr.Lit) : Tr.litsOk (l.map erL) = Tr.litsOk l := by
  unfold Tr.litsOk; rw [List.all_map]; rfl
theorem litsMany_er (l : List Tr.Lit) : Tr.litsMany (l.map erL) = Tr.litsMany l := by
  unfold Tr.litsMany; rw [List.any_map]; rfl
theorem ruleOk_er (r : Tr.Rule) : Tr.ruleOk (erR r) = Tr.ruleOk r := by
  unfold Tr.ruleOk
  show (Tr.isName r.name && Tr.termsOk r.terms && Tr.foldOk r.fold r.terms.length (r.body.map erL).length && Tr.litsOk (r.body.map erL)) = _
  rw [litsOk_er, List.length_map]
theorem ruleMany_er (r : Tr.Rule) : Tr.ruleMany (erR r) = Tr.ruleMany r := by
  unfold Tr.ruleMany
  show (decide (4 < (r.body.map erL).length) || decide (3 < r.terms.length) || Tr.litsMany (r.body.map erL)) = _
  rw [litsMany_er, List.length_map]
theorem check_er (t : List Tr.Rule) : Tr.check (t.map erR) = Tr.check t := by
  have h1 : (t.map erR).any Tr.ruleMany = t.any Tr.ruleMany := by rw [List.any_map]; congr 1; funext r; exact ruleMany_er r
  have h2 : (t.map erR).all Tr.ruleOk = t.all Tr.ruleOk := by rw [List.all_map]; congr 1; funext r; exact ruleOk_er r
  unfold Tr.check Tr.many
  rw [h1, h2, List.length_map]

theorem termsEq_refl (l : List Tr.Term) : Tr.termsEq l l = true := by
  unfold Tr.termsEq
  induction l with
  | nil => rfl
  | cons a l ih => rw [Tr.listEq, ih]; simp [Tr.termEq]
theorem litEq_er {x y : Tr.Lit} (h : erL x = erL y) : Tr.litEq false x y = true := by
  unfold erL at h
  injection h with h1 _ h2 h3 h4
  unfold Tr.litEq
  rw [h1, h2, h3, h4, termsEq_refl]
  simp
theorem litsEq_er : ∀ {l m : List Tr.Lit}, l.map erL = m.map erL → Tr.listEq (Tr.litEq false) l m = true
  | [], [], _ => rfl
  | [], _ :: _, h => by simp at h
  | _ :: _, [], h => by simp at h
  | x :: l, y :: m, h => by
    rw [List.map_cons, List.map_cons] at h
    injection h with h1 h2
    rw [Tr.listEq, litEq_er h1, litsEq_er h2]; rfl
theorem ruleEq_er {x y : Tr.Rule} (h : erR x = erR y) : Tr.ruleEq false x y = true := by
  unfold erR at h
  injection h with _ h1 h2 h3 h4
  have hl : x.body.length = y.body.length := by have := congrArg List.length h4; simpa using this
  unfold Tr.ruleEq Tr.headEq
  rw [h1, h2, h3, hl, termsEq_refl, litsEq_er h4]
  simp
theorem treeEq_er : ∀ {l m : List Tr.Rule}, l.map erR = m.map erR → Tr.treeEq false l m = true
  | [], [], _ => rfl
  | [], _ :: _, h => by simp at h
  | _ :: _, [], h => by simp at h
  | x :: l, y :: m, h => by
    rw [List.map_cons, List.map_cons] at h
    injection h with h1 h2
    unfold Tr.treeEq
    rw [Tr.listEq, ruleEq_er h1]
    exact treeEq_er h2

theorem same_er : ∀ {l m : List Tk.Tok}, Tk.same false l m = true → l.map er = m.map er
  | [], [], _ => rfl
  | [], _ :: _, h => by simp [Tk.same] at h
  | _ :: _, [], h => by simp [Tk.same] at h
  | x :: l, y :: m, h => by
    rw [Tk.same, Bool.and_eq_true] at h
    have h1 := h.1
    unfold Tk.sameOne at h1
    simp at h1
    rw [List.map_cons, List.map_cons, same_er h.2]
    unfold er
    rw [h1.1, h1.2]

/-- What comes of tokens with the same kinds and texts. -/
theorem parseOf_alike (n n' : Int) (T T' : List Tk.Tok) (p p' : Nat) (h : T.map er = T'.map er) :
    (parseOf n (T, p, 0)).2.2 = (parseOf n' (T', p', 0)).2.2 ∧ Tr.treeEq false (parseOf n (T, p, 0)).1 (parseOf n' (T', p', 0)).1 = true := by
  have hl : T.length = T'.length := by have := congrArg List.length h; simpa using this
  have h1 := rules_er n T.length [] T
  have h2 := rules_er n' T'.length [] T'
  rw [List.map_nil] at h1 h2
  rw [h, hl] at h1
  rw [h1] at h2
  unfold parseOf
  simp only [if_true]
  rw [hl]
  cases hA : rules n T'.length [] T with
  | inl a =>
    cases hB : rules n' T'.length [] T' with
    | inl b => exact ⟨rfl, rfl⟩
    | inr b => rw [hA, hB] at h2; simp at h2
  | inr a =>
    cases hB : rules n' T'.length [] T' with
    | inl b => rw [hA, hB] at h2; simp at h2
    | inr b =>
      rw [hA, hB] at h2
      simp only [Sum.inr.injEq] at h2
      have hc : Tr.check a = Tr.check b := by rw [← check_er a, h2, check_er b]
      simp only
      rw [hc]
      by_cases h0 : Tr.check b = 0
      · rw [if_pos h0, if_pos h0]; exact ⟨rfl, treeEq_er h2⟩
      · rw [if_neg h0, if_neg h0]; exact ⟨rfl, rfl⟩

theorem fine_of_check {t : List Tr.Rule} (h : Tr.check t = 0) : Fine t := by
  have hm : Tr.many t = false := by
    cases hm : Tr.many t
    · rfl
    · unfold Tr.check at h; rw [hm] at h; simp at h
  unfold Tr.many at hm
  rw [Bool.or_eq_false_iff] at hm
  have h12 := of_decide_eq_false hm.1
  refine ⟨by omega, fun i hi => ?_⟩
  have hr : Tr.ruleMany (Tr.ruleD t i) = false := by
    have := hm.2
    rw [List.any_eq_false] at this
    have hh := this (Tr.ruleD t i) (by unfold Tr.ruleD; rw [List.getD_eq_getElem?_getD, List.getElem?_eq_getElem hi]; exact List.getElem_mem hi)
    simpa using hh
  obtain ⟨g1, g2, g3⟩ := ruleMany_no hr
  exact ⟨by omega, by omega, fun i hi => Nat.le_trans (g3 i hi) (by decide)⟩
theorem fine_nil : Fine [] := ⟨by simp, fun i hi => absurd hi (by simp)⟩
theorem fine_parse (s : ByteArray) : Fine (Pr.parse s.data.toList).1 := by
  rw [parse_eq]
  unfold parseOf
  split
  · split
    · exact fine_nil
    · split
      · exact fine_of_check (by assumption)
      · exact fine_nil
  · exact fine_nil

theorem parse_checked (L : List UInt8) (h : (Pr.parse L).2.2 = 0) : Tr.check (Pr.parse L).1 = 0 := by
  revert h
  unfold Pr.parse
  split
  · split
    · intro h; simp at h
    · split
      · intro _; assumption
      · rename_i hc
        intro h; exact absurd h hc
  · rename_i hc
    intro h; exact absurd h hc
theorem parse_wrong (L : List UInt8) (h : ¬ (Tk.scan L).2.2 = 0) : Pr.parse L = ([], ((Tk.scan L).2.1 : Int), (Tk.scan L).2.2) := by
  unfold Pr.parse
  rw [if_neg h]

/-- Joined tokens are parsed alike. -/
theorem parse_join (s : ByteArray) (h : (Tk.scan s.data.toList).2.2 = 0) (hj : (Tk.join (Tk.scan s.data.toList).1).2 = 0) :
    (Pr.parse s.data.toList).2.2 = (Pr.parse (Tk.join (Tk.scan s.data.toList).1).1).2.2 ∧ Tr.treeEq false (Pr.parse s.data.toList).1 (Pr.parse (Tk.join (Tk.scan s.data.toList).1).1).1 = true := by
  obtain ⟨h1, h2⟩ := join_scan _ hj
  have e1 := parse_eq s
  have e2 := parse_eq ⟨(Tk.join (Tk.scan s.data.toList).1).1.toArray⟩
  rw [show (⟨(Tk.join (Tk.scan s.data.toList).1).1.toArray⟩ : ByteArray).data.toList = (Tk.join (Tk.scan s.data.toList).1).1 from rfl] at e2
  rw [e1, e2]
  rcases hS : Tk.scan s.data.toList with ⟨T, p, E⟩
  rw [hS] at h h1 h2
  rcases hS2 : Tk.scan (Tk.join T).1 with ⟨T', p', E'⟩
  simp only at h h1 h2 ⊢
  rw [hS2] at h1 h2
  simp only at h1 h2
  subst h
  subst h1
  exact parseOf_alike _ _ T T' p p' (same_er h2)

end Go.Proofs.YtgpaleifhcdjnaaGreatDoor

/- Rows that came back are written: what stands. -/
namespace Go.Proofs.YtgpaleifhcdjnaaGreatDoor
open Go.RowKit

theorem cell_set (w : World) (b o : Nat) (u : Value) (b' o' : Nat) : (w.setCell ⟨b, o, none⟩ u).cell? ⟨b', o', none⟩ = if b' = b ∧ o' = o then (w.cell? ⟨b, o, none⟩).map (fun _ => u) else w.cell? ⟨b', o', none⟩ := by
  by_cases hb : b' = b
  · subst hb
    simp only [World.cell?, World.setCell, Array.getElem?_modify, if_true, true_and]
    cases h : w.heap[b']? with
    | none => simp
    | some x =>
      cases x with
      | cells c e fz =>
        simp only [Option.map_some, Option.isSome_none, Bool.false_eq_true, if_false]
        by_cases ho : o' = o
        · subst ho
          rw [if_pos rfl]
          by_cases hl : o' < c.size
          · simp [hl]
          · simp [hl]
        · rw [if_neg ho]
          rw [Array.getElem?_setIfInBounds_ne (fun h => ho h.symm)]
      | _ => simp
  · rw [if_neg (fun h => hb h.1)]
    exact World.cell?_of_block (a := ⟨b', o', none⟩) (Below.heap_setCell _ _ _ _ hb)
theorem frozen_set (w : World) (b o : Nat) (u : Value) (b' o' : Nat) : (w.setCell ⟨b, o, none⟩ u).frozen? ⟨b', o', none⟩ = w.frozen? ⟨b', o', none⟩ := by
  simp only [World.frozen?, World.setCell, Array.getElem?_modify]
  by_cases hb : b = b'
  · subst hb
    rw [if_pos rfl]
    cases h : w.heap[b]? with
    | none => simp
    | some x => cases x <;> simp
  · rw [if_neg hb]

/-- Blocks below B stand; what was a slice behind it stands, too. -/
structure Sl (B : Nat) (w0 w : World) : Prop where
  bel : Below B w0 w
  cell : ∀ b o v, w0.cell? ⟨b, o, none⟩ = some v → ∃ v', w.cell? ⟨b, o, none⟩ = some v' ∧ (∀ a n c, v = .slice a n c → v' = v)
  fro : ∀ b o v, w0.cell? ⟨b, o, none⟩ = some v → w.frozen? ⟨b, o, none⟩ = w0.frozen? ⟨b, o, none⟩
theorem Sl.refl (B : Nat) (w : World) : Sl B w w := ⟨Below.refl _ _, fun _ _ v h => ⟨v, h, fun _ _ _ _ => rfl⟩, fun _ _ _ _ => rfl⟩
theorem Sl.drewN {B : Nat} {w0 w : World} (h : Sl B w0 w) (n : Nat) : Sl B w0 (w.drewN n) := ⟨below_drewN h.bel n, h.cell, h.fro⟩
theorem Sl.set {B : Nat} {w0 w : World} (h : Sl B w0 w) {b o : Nat} (hb : B ≤ b) {v : Value} (hc : w0.cell? ⟨b, o, none⟩ = some v) (hn : ∀ a n c, ¬ v = .slice a n c) (u : Value) : Sl B w0 (w.setCell ⟨b, o, none⟩ u) := by
  refine ⟨h.bel.setCell (p := ⟨b, o, none⟩) hb u, fun b' o' v' hv' => ?_, fun b' o' v' hv' => by rw [frozen_set]; exact h.fro b' o' v' hv'⟩
  obtain ⟨x, hx, hx2⟩ := h.cell b' o' v' hv'
  rw [cell_set]
  by_cases he : b' = b ∧ o' = o
  · obtain ⟨rfl, rfl⟩ := he
    rw [if_pos ⟨rfl, rfl⟩, hx]
    refine ⟨u, rfl, fun a n c e => ?_⟩
    rw [hc] at hv'
    injection hv' with hv'
    exact absurd (hv'.trans e) (hn a n c)
  · rw [if_neg he]
    exact ⟨x, hx, hx2⟩
theorem Sl.slice {B : Nat} {w0 w : World} (h : Sl B w0 w) {b o : Nat} {a : Option Addr} {n c : Nat} (hc : w0.cell? ⟨b, o, none⟩ = some (.slice a n c)) : w.cell? ⟨b, o, none⟩ = some (.slice a n c) := by
  obtain ⟨v', h1, h2⟩ := h.cell _ _ _ hc
  rw [h1, h2 a n c rfl]
theorem Sl.trans {B : Nat} {a b c : World} (h : Sl B a b) (k : Sl B b c) : Sl B a c := by
  refine ⟨h.bel.trans k.bel, fun bb o v hv => ?_, fun bb o v hv => ?_⟩
  · obtain ⟨x, hx, hx2⟩ := h.cell bb o v hv
    obtain ⟨y, hy, hy2⟩ := k.cell bb o x hx
    refine ⟨y, hy, fun p n q e => ?_⟩
    have := hx2 p n q e
    subst this
    exact hy2 p n q e
  · obtain ⟨x, hx, _⟩ := h.cell bb o v hv
    rw [k.fro bb o x hx, h.fro bb o v hv]

/-- A row of n things of k cells each, whose cell j may be written. -/
def Wr (B : Nat) (w : World) (ao : Option Addr) (n k j : Nat) : Prop :=
  n = 0 ∨ ∃ b, ao = some ⟨b, 0, none⟩ ∧ B ≤ b ∧ ∀ i, i < n → ∃ v, w.cell? ⟨b, i * k + j, none⟩ = some v ∧ (∀ a n c, ¬ v = .slice a n c) ∧ w.frozen? ⟨b, i * k + j, none⟩ = false
theorem Wr.at {B : Nat} {w0 w : World} {ao : Option Addr} {n k j : Nat} (h : Wr B w0 ao n k j) (hs : Sl B w0 w) (i : Nat) (hi : i < n) :
    ∃ b, ao = some ⟨b, 0, none⟩ ∧ (∃ v, w.cell? ⟨b, i * k + j, none⟩ = some v) ∧ w.frozen? ⟨b, i * k + j, none⟩ = false ∧ b < w.heap.size ∧ ∀ u, Sl B w0 (w.setCell ⟨b, i * k + j, none⟩ u) := by
  rcases h with h | ⟨b, ha, hb, h⟩
  · omega
  · obtain ⟨v, h1, h2, h3⟩ := h i hi
    obtain ⟨v', h4, _⟩ := hs.cell _ _ _ h1
    exact ⟨b, ha, ⟨v', h4⟩, by rw [hs.fro _ _ _ h1, h3], World.block_lt_of_cell? w _ h4, fun u => hs.set hb h1 h2 u⟩

theorem Wr.below {B : Nat} {w w' : World} {ao : Option Addr} {n k j : Nat} (h : Wr B w ao n k j) (hb : Below w.heap.size w w') : Wr B w' ao n k j := by
  rcases h with h | ⟨b, ha, hB, h⟩
  · exact .inl h
  · refine .inr ⟨b, ha, hB, fun i hi => ?_⟩
    obtain ⟨v, h1, h2, h3⟩ := h i hi
    have hlt := World.block_lt_of_cell? w _ h1
    refine ⟨v, cell_below hb h1, h2, ?_⟩
    have := hb.block b hlt
    simp only [World.frozen?, this]
    exact h3
/-- Rules that may be written: their names, their terms' names, their literals' kinds. -/
def RW (B : Nat) (w : World) (ao : Option Addr) (n : Nat) : Prop :=
  n = 0 ∨ ∃ b, ao = some ⟨b, 0, none⟩ ∧ B ≤ b ∧ ∀ i, i < n → ∃ a1 n1 c1 a2 n2 c2, w.cell? ⟨b, i * 5 + 2, none⟩ = some (.slice a1 n1 c1) ∧ Wr B w a1 n1 2 0 ∧ n1 ≤ 9223372036854775807 ∧ w.cell? ⟨b, i * 5 + 4, none⟩ = some (.slice a2 n2 c2) ∧ Wr B w a2 n2 5 0 ∧ n2 ≤ 9223372036854775807

theorem noSl_string (s : ByteArray) : ∀ a n c, ¬ Value.string s = .slice a n c := fun _ _ _ h => by cases h
theorem noSl_int (k : IntKind) (i : Int) : ∀ a n c, ¬ Value.int k i = .slice a n c := fun _ _ _ h => by cases h

theorem wr_row {B : Nat} {w : World} {e : TypeId} {k j : Nat} {ao : Option Addr} {n cap : Nat} {cs : List (List Value)} (h : RowP B w e k (.slice ao n cap) cs) (hc : ∀ c, c ∈ cs → ∃ v, c[j]? = some v ∧ ∀ a n c, ¬ v = .slice a n c) : Wr B w ao n k j := by
  obtain ⟨ao', cap', hv, h⟩ := h
  injection hv with h1 h2 h3
  subst h1 h2
  rcases h with h | ⟨b, cur, rfl, hb, hh, hx⟩
  · left; rw [h]; rfl
  · refine .inr ⟨b, rfl, hb, fun i hi => ?_⟩
    obtain ⟨v, hv, hn⟩ := hc cs[i] (List.getElem_mem hi)
    exact ⟨v, hx i cs[i] (List.getElem?_eq_getElem hi) j v hv, hn, by simp [World.frozen?, hh]⟩
theorem TermsP.wr {B : Nat} {w : World} {ao : Option Addr} {n cap : Nat} {l : List Tr.Term} (h : TermsP B w (.slice ao n cap) l) : Wr B w ao n 2 0 :=
  wr_row h fun c hc => by
    obtain ⟨t, _, rfl⟩ := List.mem_map.mp hc
    exact ⟨_, rfl, noSl_string _⟩
theorem LitsP.wr {B : Nat} {w : World} {ao : Option Addr} {n cap : Nat} {l : List Tr.Lit} (h : LitsP B w (.slice ao n cap) l) : Wr B w ao n 5 0 := by
  obtain ⟨q, _, h2, _⟩ := h
  exact wr_row h2 fun c hc => by
    obtain ⟨t, _, rfl⟩ := List.mem_map.mp hc
    exact ⟨_, rfl, noSl_int _ _⟩
theorem TermsP.slice {B : Nat} {w : World} {v : Value} {l : List Tr.Term} (h : TermsP B w v l) : ∃ ao cap, v = .slice ao l.length cap := by
  obtain ⟨ao, cap, h, _⟩ := h
  exact ⟨ao, cap, by simpa using h⟩
theorem LitsP.slice {B : Nat} {w : World} {v : Value} {l : List Tr.Lit} (h : LitsP B w v l) : ∃ ao cap, v = .slice ao l.length cap := by
  obtain ⟨q, rfl, ⟨ao, cap, h, _⟩, _⟩ := h
  exact ⟨ao, cap, by simpa using h⟩
theorem RulesP.wr {B : Nat} {w : World} {ao : Option Addr} {n cap : Nat} {l : List Tr.Rule} (h : RulesP B w (.slice ao n cap) l) (hF : Fine l) : Wr B w ao n 5 1 ∧ RW B w ao n ∧ n ≤ 9223372036854775807 := by
  have hn : n = l.length := by
    obtain ⟨ao', cap', hv⟩ := h.slice
    injection hv
  obtain ⟨q, rfl, h2, h3⟩ := h
  refine ⟨wr_row h2 fun c hc => ?_, ?_, by rw [hn]; exact hF.1⟩
  · obtain ⟨t, _, rfl⟩ := List.mem_map.mp hc
    exact ⟨_, rfl, noSl_string _⟩
  · obtain ⟨ao', cap', hv, hx⟩ := h2
    injection hv with h4 h5 h6
    subst h4
    rcases hx with hx | ⟨b, cur, rfl, hb, hh, hx⟩
    · left; rw [h5, hx]; rfl
    · refine .inr ⟨b, rfl, hb, fun i hi => ?_⟩
      have hiq : i < q.length := by rw [hn, List.length_map] at hi; exact hi
      have hq : q[i]? = some q[i] := List.getElem?_eq_getElem hiq
      have hqm : (q.map ruleCells)[i]? = some (ruleCells q[i]) := by rw [List.getElem?_map, hq]; rfl
      obtain ⟨hT, hL⟩ := h3 _ (List.getElem_mem hiq)
      obtain ⟨a1, c1, e1⟩ := hT.slice
      obtain ⟨a2, c2, e2⟩ := hL.slice
      have hf := hF.2 i (by rw [List.length_map]; exact hiq)
      have hx1 : Tr.ruleD (q.map (·.1)) i = q[i].1 := by simp [Tr.ruleD, hiq]
      rw [hx1] at hf
      refine ⟨a1, q[i].1.terms.length, c1, a2, q[i].1.body.length, c2, ?_, ?_, hf.1, ?_, ?_, hf.2.1⟩
      · rw [← e1]; exact hx i _ hqm 2 _ rfl
      · rw [e1] at hT; exact hT.wr
      · rw [← e2]; exact hx i _ hqm 4 _ rfl
      · rw [e2] at hL; exact hL.wr
/-- The row that Scan answers. -/
theorem wr_own {base : Nat} {w : World} {ao : Option Addr} {n cap : Nat} {e : TypeId} {l : List Tk.Tok} (h : w.ownsRow base e 3 (.slice ao n cap) n (allCells l)) (hl : n = l.length) : Wr base w ao n 3 2 := by
  subst hl
  have h1 : RowP base w e 3 (.slice ao l.length cap) (l.map tokCells) := rowP_own (by intro c hc; obtain ⟨t, _, rfl⟩ := List.mem_map.mp hc; rfl) (by rw [List.length_map, ← List.flatMap_def]; exact h)
  exact wr_row h1 fun c hc => by
    obtain ⟨t, _, rfl⟩ := List.mem_map.mp hc
    exact ⟨_, rfl, noSl_string _⟩

end Go.Proofs.YtgpaleifhcdjnaaGreatDoor

/- What must be in any case: the statements' own example of tokens. -/
namespace Go.Proofs.YtgpaleifhcdjnaaGreatDoor
open Go.RowKit

def begunToks : List Tk.Tok := [⟨1, 0, [97, 98]⟩, ⟨4, 3, [60, 61]⟩, ⟨3, 6, [55]⟩, ⟨4, 7, [46]⟩]
theorem begun_scan : Tk.scan [97, 98, 32, 60, 61, 32, 55, 46, 37, 120] = (begunToks, 0, 0) := by rfl
theorem begun_join : Tk.join begunToks = ([97, 98, 32, 60, 61, 32, 55, 32, 46], 0) := by rfl

set_option maxRecDepth 100000 in
set_option maxHeartbeats 1000000 in
theorem begun_any (w : World) : Calls Tryz.prog 17 #[] w fun e w' => e = .returned (.bool true) ∧ Below w.heap.size w w' := by
  have HS : Hid (∀ w, Calls Tryz.prog 21 #[.string ⟨#[97, 98, 32, 60, 61, 32, 55, 46, 37, 120]⟩] w fun e w' => ∃ ao cap, e = .returned (.tuple #[.slice ao 4 cap, .int .i64 0, .int .i64 0]) ∧ ToksAt w' ao begunToks ∧ Below w.heap.size w w') := by
    intro w
    refine (Scan_any ⟨#[97, 98, 32, 60, 61, 32, 55, 46, 37, 120]⟩ w).mono ?_
    rintro e w' ⟨ao, cap, he, hown, hb⟩
    have hd : (⟨#[97, 98, 32, 60, 61, 32, 55, 46, 37, 120]⟩ : ByteArray).data.toList = [97, 98, 32, 60, 61, 32, 55, 46, 37, 120] := rfl
    rw [hd, begun_scan] at he hown
    exact ⟨ao, cap, he, toksAt_own hown, hb⟩
  have HJ : Hid (∀ w ao cap, ToksAt w ao begunToks → Calls Tryz.prog 47 #[.slice ao 4 cap] w fun e w' => e = .returned (.tuple #[.string ⟨#[97, 98, 32, 60, 61, 32, 55, 32, 46]⟩, .int .i64 0]) ∧ Below w.heap.size w w') := by
    intro w ao cap h
    have hJ := Join_any begunToks w ao cap (by decide) h
    rw [begun_join] at hJ
    exact hJ
  go_enter Tryz.func17, Tryz.ntmps17
  go_wp2_with fail
  refine (HS.out _).mono ?_
  rintro e w1 ⟨ao, cap, rfl, hT, hb⟩
  go_wp2_with fail
  refine (HJ.out _ _ _ hT).mono ?_
  rintro e w2 ⟨rfl, hb2⟩
  have hbel := hb.trans (hb2.mono hb.size)
  rcases hT with h | ⟨b, off, rfl, hc⟩
  · exact absurd h (by simp [begunToks])
  obtain ⟨a0, a1, a2⟩ := hc 1 (by decide)
  have hbw : b < w1.heap.size := World.block_lt_of_cell? w1 _ a0
  have a0' : w2.cell? ⟨b, off + 3, none⟩ = some (.int .i64 4) := (hb2.cell (p := ⟨b, _, none⟩) hbw).trans a0
  have a1' : w2.cell? ⟨b, off + 3 + 1, none⟩ = some (.int .i64 3) := (hb2.cell (p := ⟨b, _, none⟩) hbw).trans a1
  have a2' : w2.cell? ⟨b, off + 3 + 2, none⟩ = some (.string ⟨#[60, 61]⟩) := (hb2.cell (p := ⟨b, _, none⟩) hbw).trans a2
  clear a0 a1 a2 hc HS HJ hb hb2
  go_wp2_with fail
  go_ret
  exact ⟨rfl, hbel⟩

end Go.Proofs.YtgpaleifhcdjnaaGreatDoor

/- The contract of strconv.Itoa, laid at this program. -/
namespace Go.Proofs
open Go.Shelf
def Tryz.laysM171_ren : Go.Shelf.Ren := ⟨fun | 171 => 154 | 243 => 164 | 246 => 169 | 283 => 173 | 284 => 174 | 285 => 175 | 286 => 176 | 129 => 183 | 317 => 182 | 318 => 184 | 319 => 185 | 320 => 186 | 337 => 189 | 338 => 190 | n => n, fun | 3 => 3 | 9 => 9 | 2 => 2 | 4 => 4 | 171 => 195 | 0 => 0 | 53 => 196 | 37 => 103 | 5 => 5 | 173 => 199 | 212 => 209 | 51 => 210 | 20 => 20 | 213 => 211 | 46 => 212 | 232 => 224 | 233 => 225 | n => n, fun | 17 => 1 | 18 => 4 | 19 => 5 | n => n⟩
theorem Tryz.laysM171 : Go.Proofs.LaysM.n171 Tryz.prog Tryz.laysM171_ren := {
  mixed := by kernel_rfl
  f129 := Tryz.func183.trans (congrArg some (by kernel_rfl))
  f171 := Tryz.func154.trans (congrArg some (by kernel_rfl))
  f243 := Tryz.func164.trans (congrArg some (by kernel_rfl))
  f246 := Tryz.func169.trans (congrArg some (by kernel_rfl))
  f283 := Tryz.func173.trans (congrArg some (by kernel_rfl))
  f284 := Tryz.func174.trans (congrArg some (by kernel_rfl))
  f285 := Tryz.func175.trans (congrArg some (by kernel_rfl))
  f286 := Tryz.func176.trans (congrArg some (by kernel_rfl))
  f317 := Tryz.func182.trans (congrArg some (by kernel_rfl))
  f318 := Tryz.func184.trans (congrArg some (by kernel_rfl))
  f319 := Tryz.func185.trans (congrArg some (by kernel_rfl))
  f320 := Tryz.func186.trans (congrArg some (by kernel_rfl))
  f337 := Tryz.func189.trans (congrArg some (by kernel_rfl))
  f338 := Tryz.func190.trans (congrArg some (by kernel_rfl))
  t0 := Tryz.underlying0
  a0 := Tryz.isAgg0
  z0 := Tryz.sizeOf0
  v0 := Tryz.zeroValue0
  t2 := Tryz.underlying2
  a2 := Tryz.isAgg2
  z2 := Tryz.sizeOf2
  v2 := Tryz.zeroValue2
  t3 := Tryz.underlying3
  a3 := Tryz.isAgg3
  z3 := Tryz.sizeOf3
  v3 := Tryz.zeroValue3
  t4 := Tryz.underlying4
  a4 := Tryz.isAgg4
  z4 := Tryz.sizeOf4
  v4 := Tryz.zeroValue4
  t5 := Tryz.underlying5
  a5 := Tryz.isAgg5
  z5 := Tryz.sizeOf5
  v5 := Tryz.zeroValue5
  t9 := Tryz.underlying9
  a9 := Tryz.isAgg9
  z9 := Tryz.sizeOf9
  v9 := Tryz.zeroValue9
  t20 := Tryz.underlying20
  a20 := Tryz.isAgg20
  z20 := Tryz.sizeOf20
  v20 := Tryz.zeroValue20
  t37 := Tryz.underlying103
  a37 := Tryz.isAgg103
  z37 := Tryz.sizeOf103
  v37 := Tryz.zeroValue103
  t46 := Tryz.underlying212
  a46 := Tryz.isAgg212
  z46 := Tryz.sizeOf212
  v46 := Tryz.zeroValue212
  t51 := Tryz.underlying210
  a51 := Tryz.isAgg210
  z51 := Tryz.sizeOf210
  v51 := Tryz.zeroValue210
  t53 := Tryz.underlying196
  a53 := Tryz.isAgg196
  z53 := Tryz.sizeOf196
  v53 := Tryz.zeroValue196
  t171 := Tryz.underlying195
  a171 := Tryz.isAgg195
  z171 := Tryz.sizeOf195
  v171 := Tryz.zeroValue195
  t173 := Tryz.underlying199
  a173 := Tryz.isAgg199
  z173 := Tryz.sizeOf199
  v173 := Tryz.zeroValue199
  t212 := Tryz.underlying209
  a212 := Tryz.isAgg209
  z212 := Tryz.sizeOf209
  v212 := Tryz.zeroValue209
  t213 := Tryz.underlying211
  a213 := Tryz.isAgg211
  z213 := Tryz.sizeOf211
  t232 := Tryz.underlying224
  a232 := Tryz.isAgg224
  z232 := Tryz.sizeOf224
  v232 := Tryz.zeroValue224
  t233 := Tryz.underlying225
  a233 := Tryz.isAgg225
  z233 := Tryz.sizeOf225
  v233 := Tryz.zeroValue225
  g17 := by kernel_rfl
  g18 := by kernel_rfl
  g19 := by kernel_rfl
  i0 := by kernel_rfl
  i2 := by kernel_rfl
  i3 := by kernel_rfl
  i4 := by kernel_rfl
  i5 := by kernel_rfl
  i9 := by kernel_rfl
  i20 := by kernel_rfl
  i37 := by kernel_rfl
  i46 := by kernel_rfl
  i51 := by kernel_rfl
  i53 := by kernel_rfl
  i171 := by kernel_rfl
  i173 := by kernel_rfl
  i212 := by kernel_rfl
  i232 := by kernel_rfl
  i233 := by kernel_rfl
  m17 := by kernel_rfl
  m18 := by kernel_rfl
  m19 := by kernel_rfl }
open Go.RowKit Go.Sort Go.Lib in
theorem Tryz.strconv_Itoa (n : Int) (h0 : -9223372036854775808 ≤ n) (h1 : n ≤ 9223372036854775807) (w : World) (htab : Lib.TabIs Tryz.prog w "internal/strconv.uint64pow10" .u64 Lib.pow10Tab) :
    Calls Tryz.prog 154 #[.int .i64 n] w fun e w' => e = .returned (.string ⟨(Lib.itoa n).toArray⟩) ∧ ∃ k os, w' = grow (w.drewN k) os := Any.strconv_Itoa Tryz.laysM171 n h0 h1 w htab
end Go.Proofs

/- Package show: the text that grows, and what is put into it. -/
namespace Go.Proofs.YtgpaleifhcdjnaaGreatDoor
open Go.RowKit

/-- Bytes as cells. -/
abbrev byteCells (bs : List UInt8) : List Value := bs.map fun b => Value.int .u8 b.toNat
abbrev strV (bs : List UInt8) : Value := .string ⟨bs.toArray⟩
theorem strCells_list (bs : List UInt8) : Lib.strCells ⟨bs.toArray⟩ = byteCells bs := rfl
theorem size_list (bs : List UInt8) : (⟨bs.toArray⟩ : ByteArray).size = bs.length := by simp [ByteArray.size]

/-- The printer at block P holds these bytes; what was there in w0 stands. -/
structure PI (w0 w : World) (P : Nat) (bs : List UInt8) : Prop where
  bel : Below w0.heap.size w0 w
  prt : ∃ v, w.heap[P]? = some (.cells #[v] 107) ∧ w.ownsRow w0.heap.size 5 1 v bs.length (byteCells bs)
  ltP : w0.heap.size ≤ P
  sz : w0.heap.size ≤ w.heap.size

/-- All but the printer and rows of bytes stand. -/
abbrev Kept (P : Nat) (w w' : World) : Prop := Lib.OthersKept 5 (some P) w w'
theorem Kept.below {P : Nat} {a w w' : World} (h : Kept P a w) (hb : Below w.heap.size w w') : Kept P a w' := fun k o hk hne ho => by
  have h1 := h k o hk hne ho
  rw [hb.block k (Array.getElem?_eq_some_iff.1 h1).1]
  exact h1
section
variable {w0 w w' : World} {P : Nat} {bs : List UInt8}
theorem PI.below (h : PI w0 w P bs) (hb : Below w.heap.size w w') : PI w0 w' P bs := by
  obtain ⟨v, h1, h2⟩ := h.prt
  exact ⟨h.bel.trans (hb.mono h.sz), ⟨v, (hb.block P (Array.getElem?_eq_some_iff.1 h1).1).trans h1, ownsRow_below h2 hb⟩, h.ltP, Nat.le_trans h.sz hb.size⟩
theorem PI.lt (h : PI w0 w P bs) : P < w.heap.size := by obtain ⟨v, h1, _⟩ := h.prt; exact (Array.getElem?_eq_some_iff.1 h1).1
end

theorem A_infoB : (Tryz.prog.info? 5).map (fun i => (i.zero, i.size, i.bytes)) = some (some (.int .u8 0), 1, 1) := by kernel_rfl

set_option maxRecDepth 100000 in
set_option maxHeartbeats 1000000 in
theorem put_any (w0 : World) (P : Nat) (bs s : List UInt8) (w : World) (h : PI w0 w P bs) (hlen : bs.length + s.length ≤ 140737488355328) :
    Calls Tryz.prog 95 #[.pointer (some ⟨P, 0, none⟩), strV s] w fun e w' => e = .returned (.tuple #[]) ∧ PI w0 w' P (bs ++ s) ∧ Kept P w w' := by
  obtain ⟨i0, hi, hz0, hz1, hz2⟩ := info_parts A_infoB
  obtain ⟨hbel, ⟨v, hbk, hown⟩, hltP, hsz⟩ := h
  have hlt : P < w.heap.size := (Array.getElem?_eq_some_iff.1 hbk).1
  have c0 : w.cell? ⟨P, 0, none⟩ = some v := by rw [Lib.cell_of_heap hbk]; rfl
  have hnot : ¬ v.ownBlock = some P := by
    intro e
    obtain ⟨c, fz, hc⟩ := own_kind hown P e
    rw [hbk] at hc
    injection hc with hc
    injection hc with _ hc
    exact absurd hc (by decide)
  go_enter Tryz.func95, Tryz.ntmps95
  go_wp2_with (at_builtin; refine Lib.wpList_append_own_string _ rfl _ _ 103 9 rfl w0.heap.size 5 i0 Tryz.underlying103 Tryz.underlying9 hi hz0 hz1 hz2 _ _ _ rfl hown ⟨s.toArray⟩ rfl ?c3 ?c4 ?c5 ?_)
  case c3 => rw [size_list]; unfold maxLen; omega
  case c4 => rw [size_list]; omega
  case c5 => omega
  intro v' w2 hown' hgrow _
  have hb2 : w2.heap[P]? = some (.cells #[v] 107) := by
    rw [hgrow.block P hlt (fun e => hnot e.symm)]
    exact hbk
  have d0 : w2.cell? ⟨P, 0, none⟩ = some v := by rw [Lib.cell_of_heap hb2]; rfl
  have f0 : w2.frozen? ⟨P, 0, none⟩ = false := Lib.frozen_of_heap hb2 0
  have hk2 : Kept P w w2 := (Lib.OthersKept.refl _ _ _).grown hgrow (own_kind hown)
  have hbl : Below w0.heap.size w0 w2 := hbel.grown hgrow hsz (fun k hk => (hown.lt k hk).1)
  have hown2 : w2.ownsRow w0.heap.size 5 1 v' (bs ++ s).length (byteCells (bs ++ s)) := by
    rw [strCells_list] at hown'
    simpa using hown'
  have hnot' : ¬ v'.ownBlock = some P := by
    intro e
    obtain ⟨c, fz, hc⟩ := own_kind hown2 P e
    rw [hb2] at hc
    injection hc with hc
    injection hc with _ hc
    exact absurd hc (by decide)
  obtain ⟨ao, cap, rfl⟩ := own_slice hown2
  clear hown'
  go_wp2
  go_end0
  refine ⟨rfl, ⟨hbl.setCell (p := ⟨P, 0, none⟩) hltP _, ⟨.slice ao (bs ++ s).length cap, by simp [World.setCell, Array.getElem?_modify, hb2], ?_⟩, hltP, by simp [World.setCell]; exact hbl.size⟩, hk2.setCell ⟨P, 0, none⟩ rfl _⟩
  exact ownsRow_setCell_other hown2 hnot' _

end Go.Proofs.YtgpaleifhcdjnaaGreatDoor

/- Package show: terms and atoms. -/
namespace Go.Proofs.YtgpaleifhcdjnaaGreatDoor
open Go.RowKit

namespace Sh
/-- The texts of the document, plain. -/
def term (t : Tr.Term) : List UInt8 := if t.var.isEmpty then Lib.itoa t.n else t.var
def fold (f : Int) : List UInt8 := if f = 1 then [99, 111, 117, 110, 116, 32] else if f = 2 then [115, 117, 109, 32] else if f = 3 then [108, 101, 97, 115, 116, 32] else if f = 4 then [109, 111, 115, 116, 32] else []
def sep (n : Nat) : List UInt8 := if 0 < n then [44, 32] else []
def ahead (fa : List UInt8) (n m : Nat) : List UInt8 := if n + 1 = m then fa else []
def terms (fa : List UInt8) (l : List Tr.Term) : Nat → List UInt8
  | 0 => []
  | n + 1 => terms fa l n ++ sep n ++ ahead fa n l.length ++ term (Tr.termD l n)
def atom (nm : List UInt8) (l : List Tr.Term) (f : Int) : List UInt8 := nm ++ [40] ++ terms (fold f) l l.length ++ [41]
theorem terms_len (fa : List UInt8) (l : List Tr.Term) : ∀ n m, n ≤ m → (terms fa l n).length ≤ (terms fa l m).length
  | n, 0, h => by
    obtain rfl : n = 0 := by omega
    exact Nat.le_refl _
  | n, m + 1, h => by
    rcases Nat.lt_or_ge n (m + 1) with h1 | h1
    · have := terms_len fa l n m (by omega)
      rw [terms, List.length_append, List.length_append, List.length_append]
      omega
    · obtain rfl : n = m + 1 := by omega
      exact Nat.le_refl _
/-- A number that an int holds. -/
def NumOk (t : Tr.Term) : Prop := -9223372036854775808 ≤ t.n ∧ t.n ≤ 9223372036854775807
end Sh

/-- The library's table stands. -/
abbrev Pow (w : World) : Prop := Lib.TabIs Tryz.prog w "internal/strconv.uint64pow10" .u64 Lib.pow10Tab
theorem Pow.below {w w' : World} (h : Pow w) (hb : Below w.heap.size w w') : Pow w' := by
  unfold Pow Lib.TabIs World.var? at h ⊢
  cases hg : Tryz.prog.globalNamed "internal/strconv.uint64pow10" with
  | none => rw [hg] at h; simp at h
  | some g =>
    rw [hg] at h
    simp only [Option.bind_some] at h ⊢
    have hlt : g < w.heap.size := by
      rcases Nat.lt_or_ge g w.heap.size with h' | h'
      · exact h'
      · rw [Array.getElem?_eq_none h'] at h; cases h
    rw [hb.block g hlt]
    exact h

theorem Kept.trans {P : Nat} {a b c : World} (h : Kept P a b) (k : Kept P b c) : Kept P a c := Lib.OthersKept.trans h k
theorem kept_below {P : Nat} {w w' : World} (hb : Below w.heap.size w w') : Kept P w w' := Kept.below (Lib.OthersKept.refl _ _ _) hb
/-- Ahead of a call in a region that draws. -/
theorem PI.on2 {w0 w wd w' : World} {P : Nat} {bs : List UInt8} (h : PI w0 w P bs) (hb : Below wd.heap.size wd w') (hs : Below w.heap.size w wd) : PI w0 w' P bs := (h.below hs).below hb
theorem Kept.on2 {P : Nat} {a w wd w' : World} (h : Kept P a w) (hb : Below wd.heap.size wd w') (hs : Below w.heap.size w wd) : Kept P a w' := (h.below hs).below hb
theorem Kept.on3 {P : Nat} {a w wd w' : World} (h : Kept P a w) (hk : Kept P wd w') (hs : Below w.heap.size w wd) : Kept P a w' := (h.below hs).trans hk
theorem PI.same {w0 w w' : World} {P : Nat} {bs : List UInt8} (h : PI w0 w P bs) (hb : Below w.heap.size w w') : PI w0 w' P bs := h.below hb

set_option maxRecDepth 100000 in
set_option maxHeartbeats 1000000 in
theorem shTerm_any (w0 : World) (P : Nat) (bs : List UInt8) (t : Tr.Term) (w : World) (h : PI w0 w P bs) (hn : Sh.NumOk t) (hp : Pow w0) (hlen : bs.length + (Sh.term t).length ≤ 140737488355328) :
    Calls Tryz.prog 133 #[.pointer (some ⟨P, 0, none⟩), termVal t] w fun e w' => e = .returned (.tuple #[]) ∧ PI w0 w' P (bs ++ Sh.term t) ∧ Kept P w w' := by
  have hb1 : Below w.heap.size w (w.alloc (.cells #[.string ⟨t.var.toArray⟩, .int .i64 t.n] 59)) := (Below.refl _ _).alloc (Nat.le_refl _) _
  have hI1 := h.below hb1
  have hk1 : Kept P w (w.alloc (.cells #[.string ⟨t.var.toArray⟩, .int .i64 t.n] 59)) := kept_below hb1
  by_cases hv : t.var = []
  · have ht : Sh.term t = Lib.itoa t.n := by unfold Sh.term; rw [hv]; rfl
    rw [ht] at hlen ⊢
    have HI : Hid (∀ w1, Pow w1 → Calls Tryz.prog 154 #[.int .i64 t.n] w1 fun e w' => e = .returned (strV (Lib.itoa t.n)) ∧ Below w1.heap.size w1 w') := fun w1 hp1 => (Tryz.strconv_Itoa t.n hn.1 hn.2 w1 hp1).mono fun e w' ⟨he, k, os, hw⟩ => ⟨he, by rw [hw]; exact Lib.below_grow _ _ (Nat.le_refl _) _ _⟩
    have HP : Hid (∀ w1, PI w0 w1 P bs → Calls Tryz.prog 95 #[.pointer (some ⟨P, 0, none⟩), strV (Lib.itoa t.n)] w1 fun e w' => e = .returned (.tuple #[]) ∧ PI w0 w' P (bs ++ Lib.itoa t.n) ∧ Kept P w1 w') := fun w1 h1 => put_any w0 P bs _ w1 h1 hlen
    obtain ⟨tv, tn⟩ := t
    obtain rfl : tv = [] := hv
    have hc1 : (w.alloc (.cells #[.string ⟨#[]⟩, .int .i64 tn] 59)).cell? ⟨w.heap.size, 1, none⟩ = some (.int .i64 tn) := by rw [Lib.cell_of_heap (heap_alloc_new w _)]; rfl
    clear ht
    go_enter Tryz.func133, Tryz.ntmps133
    go_wp2_with fail
    generalize w.alloc (.cells #[.string ⟨#[]⟩, .int .i64 tn] 59) = w1 at *
    generalize hbx : w.heap.size = X at *
    have c1 : w1.cell? ⟨X, 1, none⟩ = some (.int .i64 tn) := hc1
    clear hc1 hb1
    go_region_law (first
      | (go_simp; go_at_call 154; refine Calls.mono (HI.out _ (Pow.below (Pow.below hp hI1.bel) ⟨rfl, rfl, rfl, Nat.le_refl _, fun _ _ => rfl⟩)) ?_; rintro e y2 ⟨rfl, hb2⟩; have hI2 := PI.on2 hI1 hb2 ⟨rfl, rfl, rfl, Nat.le_refl _, fun _ _ => rfl⟩; have hk2 := Kept.on2 hk1 hb2 ⟨rfl, rfl, rfl, Nat.le_refl _, fun _ _ => rfl⟩; dsimp only)
      | (go_simp; go_at_call 95; refine Calls.mono (HP.out _ (PI.same hI2 ⟨rfl, rfl, rfl, Nat.le_refl _, fun _ _ => rfl⟩)) ?_; rintro e y3 ⟨rfl, hI3, hk3⟩; have hk4 := Kept.on3 hk2 hk3 ⟨rfl, rfl, rfl, Nat.le_refl _, fun _ _ => rfl⟩; dsimp only))
    all_goals go_end0
    all_goals exact ⟨rfl, hI3, hk4⟩
  · have ht : Sh.term t = t.var := by unfold Sh.term; rw [if_neg (by simpa using hv)]
    rw [ht] at hlen ⊢
    have HP : Hid (∀ w1, PI w0 w1 P bs → Calls Tryz.prog 95 #[.pointer (some ⟨P, 0, none⟩), strV t.var] w1 fun e w' => e = .returned (.tuple #[]) ∧ PI w0 w' P (bs ++ t.var) ∧ Kept P w1 w') := fun w1 h1 => put_any w0 P bs _ w1 h1 hlen
    have hc0 : (w.alloc (.cells #[.string ⟨t.var.toArray⟩, .int .i64 t.n] 59)).cell? ⟨w.heap.size, 0, none⟩ = some (.string ⟨t.var.toArray⟩) := by rw [Lib.cell_of_heap (heap_alloc_new w _)]; rfl
    have hve : t.var.isEmpty = false := by simpa using hv
    clear ht hn hv
    go_enter Tryz.func133, Tryz.ntmps133
    go_upto_region 2 with fail
    generalize w.alloc (.cells #[.string ⟨t.var.toArray⟩, .int .i64 t.n] 59) = w1 at *
    generalize hbx : w.heap.size = X at *
    go_region_law (go_simp; go_at_call 95; refine Calls.mono (HP.out _ (PI.same hI1 ⟨rfl, rfl, rfl, Nat.le_refl _, fun _ _ => rfl⟩)) ?_; rintro e y3 ⟨rfl, hI3, hk3⟩; have hk4 := Kept.on3 hk1 hk3 ⟨rfl, rfl, rfl, Nat.le_refl _, fun _ _ => rfl⟩; dsimp only)
    all_goals go_wp2_with fail
    all_goals exact ⟨rfl, .tuple #[], by simp [results, Tryz.results133], rfl, hI3, hk4⟩

set_option maxRecDepth 100000 in
set_option maxHeartbeats 1000000 in
theorem foldAhead_any (f : Int) (w : World) : Calls Tryz.prog 132 #[.int .i64 f] w fun e w' => e = .returned (strV (Sh.fold f)) ∧ w' = w := by
  by_cases h1 : f = 1
  · subst h1
    go_enter Tryz.func132, Tryz.ntmps132
    go_wp2
    go_ret
    exact ⟨rfl, rfl⟩
  by_cases h2 : f = 2
  · subst h2
    go_enter Tryz.func132, Tryz.ntmps132
    go_wp2
    go_ret
    exact ⟨rfl, rfl⟩
  by_cases h3 : f = 3
  · subst h3
    go_enter Tryz.func132, Tryz.ntmps132
    go_wp2
    go_ret
    exact ⟨rfl, rfl⟩
  by_cases h4 : f = 4
  · subst h4
    go_enter Tryz.func132, Tryz.ntmps132
    go_wp2
    go_ret
    exact ⟨rfl, rfl⟩
  have e : Sh.fold f = [] := by unfold Sh.fold; rw [if_neg h1, if_neg h2, if_neg h3, if_neg h4]
  rw [e]
  have g1 : (f == 1) = false := by simpa using h1
  have g2 : (f == 2) = false := by simpa using h2
  have g3 : (f == 3) = false := by simpa using h3
  have g4 : (f == 4) = false := by simpa using h4
  go_enter Tryz.func132, Tryz.ntmps132
  go_wp2
  go_ret
  exact ⟨rfl, rfl⟩

/-- What atom's closure has captured. -/
structure Caps (w : World) (P T B F : Nat) (v : Value) (f : Int) : Prop where
  hT : w.heap[T]? = some (.cells #[v] 54)
  hB : w.heap[B]? = some (.cells #[.pointer (some ⟨P, 0, none⟩)] 102)
  hF : w.heap[F]? = some (.cells #[.int .i64 f] 3)
  nT : T ≠ P
  nB : B ≠ P
  nF : F ≠ P
theorem Caps.kept {w w' : World} {P T B F : Nat} {v : Value} {f : Int} (h : Caps w P T B F v f) (hk : Kept P w w') : Caps w' P T B F v f where
  hT := hk T _ h.hT (by have := h.nT; simpa using this) (fun c fz e => by injection e with _ e; exact absurd e (by decide))
  hB := hk B _ h.hB (by have := h.nB; simpa using this) (fun c fz e => by injection e with _ e; exact absurd e (by decide))
  hF := hk F _ h.hF (by have := h.nF; simpa using this) (fun c fz e => by injection e with _ e; exact absurd e (by decide))
  nT := h.nT
  nB := h.nB
  nF := h.nF
theorem Caps.cells {w : World} {P T B F : Nat} {v : Value} {f : Int} (h : Caps w P T B F v f) : w.cell? ⟨T, 0, none⟩ = some v ∧ w.cell? ⟨B, 0, none⟩ = some (.pointer (some ⟨P, 0, none⟩)) ∧ w.cell? ⟨F, 0, none⟩ = some (.int .i64 f) :=
  ⟨by rw [Lib.cell_of_heap h.hT]; rfl, by rw [Lib.cell_of_heap h.hB]; rfl, by rw [Lib.cell_of_heap h.hF]; rfl⟩

set_option maxRecDepth 100000 in
set_option maxHeartbeats 1000000 in
theorem atomPut_any (w0 : World) (P : Nat) (bs : List UInt8) (i n ca : Nat) (ao : Option Addr) (f : Int) (t : Tr.Term) (T B F : Nat) (w : World) (h : PI w0 w P bs) (hC : Caps w P T B F (.slice ao n ca) f) (hn4 : n ≤ 4611686018427387904) (hn : Sh.NumOk t) (hp : Pow w0)
    (hlen : bs.length + (Sh.ahead (Sh.fold f) i n).length + (Sh.term t).length ≤ 140737488355328) :
    Calls Tryz.prog 131 #[.int .i64 i, termVal t, .pointer (some ⟨T, 0, none⟩), .pointer (some ⟨B, 0, none⟩), .pointer (some ⟨F, 0, none⟩)] w fun e w' => e = .returned (.tuple #[]) ∧ PI w0 w' P (bs ++ Sh.ahead (Sh.fold f) i n ++ Sh.term t) ∧ Kept P w w' := by
  have hb1 : Below w.heap.size w (w.alloc (.cells #[.string ⟨t.var.toArray⟩, .int .i64 t.n] 59)) := (Below.refl _ _).alloc (Nat.le_refl _) _
  have hI1 := h.below hb1
  have hk1 : Kept P w (w.alloc (.cells #[.string ⟨t.var.toArray⟩, .int .i64 t.n] 59)) := kept_below hb1
  have hC1 := hC.kept hk1
  have hX1 := heap_alloc_new w (.cells #[.string ⟨t.var.toArray⟩, .int .i64 t.n] 59)
  have hXP : w.heap.size ≠ P := by have := h.lt; omega
  have HPT : Hid (∀ bs' w1, bs'.length + (Sh.term t).length ≤ 140737488355328 → PI w0 w1 P bs' → Calls Tryz.prog 133 #[.pointer (some ⟨P, 0, none⟩), termVal t] w1 fun e w' => e = .returned (.tuple #[]) ∧ PI w0 w' P (bs' ++ Sh.term t) ∧ Kept P w1 w') := fun bs' w1 hl h1 => shTerm_any w0 P bs' t w1 h1 hn hp hl
  by_cases hl : i + 1 = n
  · have ha : Sh.ahead (Sh.fold f) i n = Sh.fold f := by unfold Sh.ahead; rw [if_pos hl]
    rw [ha] at hlen ⊢
    have HP : Hid (∀ w1, PI w0 w1 P bs → Calls Tryz.prog 95 #[.pointer (some ⟨P, 0, none⟩), strV (Sh.fold f)] w1 fun e w' => e = .returned (.tuple #[]) ∧ PI w0 w' P (bs ++ Sh.fold f) ∧ Kept P w1 w') := fun w1 h1 => put_any w0 P bs _ w1 h1 (by omega)
    have hd : ((i : Int) == (n : Int) - 1) = true := by simp; omega
    clear ha
    go_enter Tryz.func131, Tryz.ntmps131
    obtain ⟨c0, c1, c2⟩ := hC1.cells
    go_upto_region 2 with fail
    generalize w.alloc (.cells #[.string ⟨t.var.toArray⟩, .int .i64 t.n] 59) = w1 at *
    generalize w.heap.size = X at *
    go_cut [] (fun wx => PI w0 wx P (bs ++ Sh.fold f) ∧ Kept P w wx ∧ Kept P w1 wx)
    case first =>
      go_region_law (first
        | (go_simp; go_at_call 132; refine Calls.mono (foldAhead_any f _) ?_; rintro e y2 ⟨rfl, rfl⟩; dsimp only)
        | (go_simp; go_at_call 95; refine Calls.mono (HP.out _ (PI.same hI1 ⟨rfl, rfl, rfl, Nat.le_refl _, fun _ _ => rfl⟩)) ?_; rintro e y3 ⟨rfl, hI3, hk3⟩; have hk4 := Kept.on3 hk1 hk3 ⟨rfl, rfl, rfl, Nat.le_refl _, fun _ _ => rfl⟩; have hk5 := Kept.on3 (Lib.OthersKept.refl 5 (some P) w1) hk3 ⟨rfl, rfl, rfl, Nat.le_refl _, fun _ _ => rfl⟩; dsimp only))
      all_goals go_wp2_with fail
      all_goals go_meet
      all_goals exact ⟨hI3, hk4, hk5⟩
    case rest =>
      obtain ⟨hI4, hk4, hk5⟩ := hcut
      generalize wc = w4 at *
      clear c0 c1 c2
      obtain ⟨c0, c1, c2⟩ := (hC1.kept hk5).cells
      have hX4 := hk5 X _ hX1 (by simpa using hXP) (fun c fz e => by injection e with _ e; exact absurd e (by decide))
      have x0 : w4.cell? ⟨X, 0, none⟩ = some (.string ⟨t.var.toArray⟩) := by rw [Lib.cell_of_heap hX4]; rfl
      have x1 : w4.cell? ⟨X, 1, none⟩ = some (.int .i64 t.n) := by rw [Lib.cell_of_heap hX4]; rfl
      go_wp2_with fail
      refine Calls.mono (HPT.out _ _ (by rw [List.length_append]; omega) hI4) ?_
      rintro e w5 ⟨rfl, hI5, hk6⟩
      go_wp2_with fail
      go_end0
      exact ⟨rfl, hI5, hk4.trans hk6⟩
  · have ha : Sh.ahead (Sh.fold f) i n = [] := by unfold Sh.ahead; rw [if_neg hl]
    rw [ha] at hlen ⊢
    have hd : ((i : Int) == (n : Int) - 1) = false := by simp; omega
    rw [List.append_nil]
    clear ha
    go_enter Tryz.func131, Tryz.ntmps131
    obtain ⟨c0, c1, c2⟩ := hC1.cells
    go_wp2_with fail
    refine Calls.mono (HPT.out _ _ (by simpa using hlen) hI1) ?_
    rintro e w5 ⟨rfl, hI5, hk6⟩
    go_wp2_with fail
    go_end0
    exact ⟨rfl, hI5, hk1.trans hk6⟩


theorem enters131 (a : Array Value) (w : World) : (callFunc 131 a).run Tryz.prog w = .ok (.enter 131 a) w := enters_of Tryz.func131 (by kernel_rfl) rfl a w

set_option maxRecDepth 100000 in
set_option maxHeartbeats 1000000 in
theorem commasT_any (w0 : World) (P : Nat) (bs : List UInt8) (l : List Tr.Term) (ca : Nat) (ao : Option Addr) (f : Int) (T B F : Nat) (w : World) (hV : TermsV w0 (.slice ao l.length ca) l) (h : PI w0 w P bs) (hC : Caps w P T B F (.slice ao l.length ca) f) (hn4 : l.length ≤ 4611686018427387904) (hn : ∀ i, i < l.length → Sh.NumOk (Tr.termD l i)) (hp : Pow w0)
    (hlen : bs.length + (Sh.terms (Sh.fold f) l l.length).length ≤ 140737488355328) :
    Calls Tryz.prog 130 #[.pointer (some ⟨P, 0, none⟩), .slice ao l.length ca, .func (.func 131) #[] #[.pointer (some ⟨T, 0, none⟩), .pointer (some ⟨B, 0, none⟩), .pointer (some ⟨F, 0, none⟩)]] w fun e w' => e = .returned (.tuple #[]) ∧ PI w0 w' P (bs ++ Sh.terms (Sh.fold f) l l.length) ∧ Kept P w w' := by
  generalize hN : l.length = N at *
  go_enter Tryz.func130, Tryz.ntmps130
  go_wp2_with fail
  go_loopw [10] (fun i wr => ∃ k : Nat, k ≤ N ∧ i = .int .i64 k ∧ PI w0 wr P (bs ++ Sh.terms (Sh.fold f) l k) ∧ Kept P w wr) (fun i _ => N - (intOf i).toNat)
  case atStart => exact ⟨0, Nat.zero_le _, rfl, by simpa [Sh.terms] using h, Lib.OthersKept.refl _ _ _⟩
  case round =>
    obtain ⟨k, hk, rfl, hI, hkp⟩ := hrel
    by_cases hlt : k < N
    · have hdk : decide (k < N) = true := decide_eq_true hlt
      obtain ⟨ao', ca', hv, hV'⟩ := hV
      injection hv with hv1 hv2 hv3
      subst hv1
      clear hv2 hv3
      rcases hV' with h0 | ⟨b, off, rfl, hc⟩
      · rw [h0] at hN; simp at hN; omega
      obtain ⟨a0, a1⟩ := hc k (by omega)
      replace a0 := cell_below hI.bel a0
      replace a1 := cell_below hI.bel a1
      have hCr := hC.kept hkp
      have hnk := hn k hlt
      have hle := Sh.terms_len (Sh.fold f) l (k + 1) N (by omega)
      have hST : Sh.terms (Sh.fold f) l (k + 1) = Sh.terms (Sh.fold f) l k ++ Sh.sep k ++ Sh.ahead (Sh.fold f) k N ++ Sh.term (Tr.termD l k) := by rw [Sh.terms, hN]
      rw [hST] at hle
      have HST : Hid _ := hST
      simp only [List.length_append] at hle
      have HN : Hid (l.length = N) := hN
      clear hc hn hST hN
      generalize Tr.termD l k = t at *
      have hb1 : Below wr.heap.size wr (wr.alloc (.cells #[.string ⟨t.var.toArray⟩, .int .i64 t.n] 59)) := (Below.refl _ _).alloc (Nat.le_refl _) _
      have hI1 := hI.below hb1
      have hk1 := Kept.below hkp hb1
      have hX1 := heap_alloc_new wr (.cells #[.string ⟨t.var.toArray⟩, .int .i64 t.n] 59)
      have hXP : wr.heap.size ≠ P := by have := hI.lt; omega
      go_upto_if 16 with fail
      generalize wr.alloc (.cells #[.string ⟨t.var.toArray⟩, .int .i64 t.n] 59) = w1 at *
      generalize wr.heap.size = X at *
      go_cut [] (fun wx => PI w0 wx P (bs ++ Sh.terms (Sh.fold f) l k ++ Sh.sep k) ∧ Kept P w wx ∧ Kept P w1 wx)
      case first =>
        by_cases h0 : 0 < k
        · have hd0 : decide (0 < k) = true := decide_eq_true h0
          have hs : Sh.sep k = [44, 32] := by unfold Sh.sep; rw [if_pos h0]
          have HS : Hid (Sh.sep k = [44, 32]) := hs
          have HP := put_any w0 P _ [44, 32] w1 hI1 (by rw [List.length_append]; rw [hs] at hle; simp only [List.length_cons, List.length_nil] at hle ⊢; omega)
          clear hs
          go_wp2_with fail
          refine HP.mono ?_
          rintro e w2 ⟨rfl, hI2, hk2⟩
          go_wp2_with fail
          go_meet
          exact ⟨by rw [HS.out]; exact hI2, hk1.trans hk2, hk2⟩
        · have hd0 : decide (0 < k) = false := decide_eq_false h0
          have hs : Sh.sep k = [] := by unfold Sh.sep; rw [if_neg h0]
          have HS : Hid (Sh.sep k = []) := hs
          clear hs
          go_wp2_with fail
          go_meet
          exact ⟨by rw [HS.out, List.append_nil]; exact hI1, hk1, Lib.OthersKept.refl _ _ _⟩
      case rest =>
        obtain ⟨hI2, hk2, hk3⟩ := hcut
        generalize wc = w2 at *
        have hX2 := hk3 X _ hX1 (by simpa using hXP) (fun c fz e => by injection e with _ e; exact absurd e (by decide))
        have x0 : w2.cell? ⟨X, 0, none⟩ = some (.string ⟨t.var.toArray⟩) := by rw [Lib.cell_of_heap hX2]; rfl
        have x1 : w2.cell? ⟨X, 1, none⟩ = some (.int .i64 t.n) := by rw [Lib.cell_of_heap hX2]; rfl
        have HA := atomPut_any w0 P _ k N ca (some ⟨b, off, none⟩) f t T B F w2 hI2 (hC.kept hk2) hn4 hnk hp (by simp only [List.length_append]; omega)
        clear hI1 hX1 hI hkp hCr hk1 a0 a1 hb1
        go_wp2_with fail
        refine HA.mono ?_
        rintro e w3 ⟨rfl, hI3, hk4⟩
        have hI3' : PI w0 w3 P (bs ++ Sh.terms (Sh.fold f) l (k + 1)) := by
          rw [HST.out]
          simpa only [List.append_assoc] using hI3
        go_wp2_with fail
        go_roundw
        case rel => exact ⟨k + 1, by omega, by go_num, hI3', hk2.trans hk4⟩
        case measure => simp [intOf]; omega
    · have hdk : decide (k < N) = false := decide_eq_false hlt
      obtain rfl : k = N := by omega
      clear hN
      go_wp2_with fail
      go_end0
      exact ⟨rfl, hI, hkp⟩

set_option maxRecDepth 100000 in
set_option maxHeartbeats 1000000 in
theorem atom_any (w0 : World) (P : Nat) (bs nm : List UInt8) (l : List Tr.Term) (v : Value) (f : Int) (w : World) (hV : TermsV w0 v l) (h : PI w0 w P bs) (hn4 : l.length ≤ 4611686018427387904) (hn : ∀ i, i < l.length → Sh.NumOk (Tr.termD l i)) (hp : Pow w0)
    (hlen : bs.length + (Sh.atom nm l f).length ≤ 140737488355328) :
    Calls Tryz.prog 94 #[.pointer (some ⟨P, 0, none⟩), strV nm, v, .int .i64 f] w fun e w' => e = .returned (.tuple #[]) ∧ PI w0 w' P (bs ++ Sh.atom nm l f) ∧ Kept P w w' := by
  obtain ⟨ao, ca, rfl, hV'⟩ := hV
  have hV : TermsV w0 (.slice ao l.length ca) l := ⟨ao, ca, rfl, hV'⟩
  clear hV'
  have hmf : ∀ (fn : Fn) (first cap : Array Value) (w : World), (Instr.makeFunc fn first cap).run Tryz.prog w = .ok (.func fn first cap) w := fun _ _ _ _ => rfl
  have hl : (Sh.atom nm l f).length = nm.length + 1 + (Sh.terms (Sh.fold f) l l.length).length + 1 := by unfold Sh.atom; simp; omega
  rw [hl] at hlen
  clear hl
  go_enter Tryz.func94, Tryz.ntmps94
  go_upto_region 1 with fail
  have hb1 : Below w.heap.size w (((w.alloc (.cells #[.pointer (some ⟨P, 0, none⟩)] 102)).alloc (.cells #[.slice ao l.length ca] 54)).alloc (.cells #[.int .i64 f] 3)) := (((Below.refl _ _).alloc (Nat.le_refl _) _).alloc (by simp) _).alloc (by simp; omega) _
  have hI1 := h.below hb1
  have hk1 : Kept P w (((w.alloc (.cells #[.pointer (some ⟨P, 0, none⟩)] 102)).alloc (.cells #[.slice ao l.length ca] 54)).alloc (.cells #[.int .i64 f] 3)) := kept_below hb1
  have hltP := h.lt
  have hC1 : Caps (((w.alloc (.cells #[.pointer (some ⟨P, 0, none⟩)] 102)).alloc (.cells #[.slice ao l.length ca] 54)).alloc (.cells #[.int .i64 f] 3)) P (w.heap.size + 1) w.heap.size (w.heap.size + 1 + 1) (.slice ao l.length ca) f :=
    { hT := (heap_alloc_old _ _ (by simp)).trans (by have := heap_alloc_new (w.alloc (.cells #[.pointer (some ⟨P, 0, none⟩)] 102)) (.cells #[.slice ao l.length ca] 54); simpa using this)
      hB := (heap_alloc_old _ _ (by simp; omega)).trans ((heap_alloc_old _ _ (by simp)).trans (heap_alloc_new w _))
      hF := by have := heap_alloc_new ((w.alloc (.cells #[.pointer (some ⟨P, 0, none⟩)] 102)).alloc (.cells #[.slice ao l.length ca] 54)) (.cells #[.int .i64 f] 3); simpa using this
      nT := by omega
      nB := by omega
      nF := by omega }
  clear h hb1 hltP
  generalize ((w.alloc (.cells #[.pointer (some ⟨P, 0, none⟩)] 102)).alloc (.cells #[.slice ao l.length ca] 54)).alloc (.cells #[.int .i64 f] 3) = w1 at *
  generalize w.heap.size + 1 + 1 = F at *
  generalize w.heap.size + 1 = T at *
  generalize w.heap.size = B at *
  obtain ⟨c0, c1, c2⟩ := hC1.cells
  have HP1 := put_any w0 P bs nm w1 hI1 (by omega)
  go_wp2_with fail
  refine HP1.mono ?_
  rintro e w2 ⟨rfl, hI2, hk2⟩
  have hC2 := hC1.kept hk2
  have hkw2 := hk1.trans hk2
  clear c0 c1 c2 hC1 hI1 hk1 hk2 HP1
  obtain ⟨c0, c1, c2⟩ := hC2.cells
  have HP2 := put_any w0 P _ [40] w2 hI2 (by simp only [List.length_append, List.length_cons, List.length_nil]; omega)
  go_wp2_with fail
  refine HP2.mono ?_
  rintro e w3 ⟨rfl, hI3, hk3⟩
  have hC3 := hC2.kept hk3
  have hkw3 := hkw2.trans hk3
  clear c0 c1 c2 hC2 hI2 hkw2 hk3 HP2
  obtain ⟨c0, c1, c2⟩ := hC3.cells
  have HP3 := commasT_any w0 P _ l ca ao f T B F w3 hV hI3 hC3 hn4 hn hp (by simp only [List.length_append, List.length_cons, List.length_nil]; omega)
  go_wp2_with fail
  refine HP3.mono ?_
  rintro e w4 ⟨rfl, hI4, hk4⟩
  have hC4 := hC3.kept hk4
  have hkw4 := hkw3.trans hk4
  clear c0 c1 c2 hC3 hI3 hkw3 hk4 HP3
  obtain ⟨c0, c1, c2⟩ := hC4.cells
  have HP4 := put_any w0 P _ [41] w4 hI4 (by simp only [List.length_append, List.length_cons, List.length_nil]; omega)
  go_wp2_with fail
  refine HP4.mono ?_
  rintro e w5 ⟨rfl, hI5, hk5⟩
  go_wp2_with fail
  go_end0
  exact ⟨rfl, by unfold Sh.atom; simpa only [List.append_assoc] using hI5, hkw4.trans hk5⟩

end Go.Proofs.YtgpaleifhcdjnaaGreatDoor

/- Package show: literals and rules. -/
namespace Go.Proofs.YtgpaleifhcdjnaaGreatDoor
open Go.RowKit

namespace Sh
def sign (o : Int) : List UInt8 := if o = 1 then [60] else if o = 2 then [60, 61] else if o = 3 then [61] else if o = 4 then [33, 61] else if o = 5 then [43] else if o = 6 then [45] else [42]
theorem sign_len (o : Int) : (sign o).length ≤ 2 := by
  unfold sign
  (repeat' split) <;> simp
def third (x : Tr.Lit) : List UInt8 := if x.kind = 4 then [32, 61, 32] ++ term (Tr.termD x.terms 2) else []
def reck (x : Tr.Lit) : List UInt8 := term (Tr.termD x.terms 0) ++ ([32] ++ sign x.op ++ [32]) ++ term (Tr.termD x.terms 1) ++ third x
def lit (x : Tr.Lit) : List UInt8 := if x.kind = 1 then atom x.name x.terms 0 else if x.kind = 2 then [110, 111, 116, 32] ++ atom x.name x.terms 0 else reck x
def lits (l : List Tr.Lit) : Nat → List UInt8
  | 0 => []
  | n + 1 => lits l n ++ sep n ++ lit (Tr.litD l n)
theorem lits_len (l : List Tr.Lit) : ∀ n m, n ≤ m → (lits l n).length ≤ (lits l m).length
  | n, 0, h => by
    obtain rfl : n = 0 := by omega
    exact Nat.le_refl _
  | n, m + 1, h => by
    rcases Nat.lt_or_ge n (m + 1) with h1 | h1
    · have := lits_len l n m (by omega)
      rw [lits, List.length_append, List.length_append]
      omega
    · obtain rfl : n = m + 1 := by omega
      exact Nat.le_refl _
def tail (b : List Tr.Lit) : List UInt8 := if 0 < b.length then [32, 58, 45, 32] ++ lits b b.length else []
def rule (r : Tr.Rule) : List UInt8 := atom r.name r.terms r.fold ++ tail r.body ++ [46, 10]
def rules (l : List Tr.Rule) : Nat → List UInt8
  | 0 => []
  | n + 1 => rules l n ++ rule (Tr.ruleD l n)
theorem rules_len (l : List Tr.Rule) : ∀ n m, n ≤ m → (rules l n).length ≤ (rules l m).length
  | n, 0, h => by
    obtain rfl : n = 0 := by omega
    exact Nat.le_refl _
  | n, m + 1, h => by
    rcases Nat.lt_or_ge n (m + 1) with h1 | h1
    · have := rules_len l n m (by omega)
      rw [rules, List.length_append]
      omega
    · obtain rfl : n = m + 1 := by omega
      exact Nat.le_refl _
/-- What Check has passed, as far as it is needed here. -/
structure LitOk (x : Tr.Lit) : Prop where
  num : ∀ i, i < x.terms.length → NumOk (Tr.termD x.terms i)
  len : x.terms.length ≤ 4611686018427387904
  two : ¬ x.kind = 1 → ¬ x.kind = 2 → 2 ≤ x.terms.length
  three : x.kind = 4 → 3 ≤ x.terms.length
end Sh

theorem Kept.get {P X : Nat} {w w' : World} {cs : Array Value} {e : TypeId} {fz : Nat × Nat} (hk : Kept P w w') (h : w.heap[X]? = some (.cells cs e fz)) (hX : X ≠ P) (he : e ≠ 5) : w'.heap[X]? = some (.cells cs e fz) :=
  hk X _ h (by simpa using hX) (fun c f h2 => by injection h2 with _ h2; exact he h2)

set_option maxRecDepth 100000 in
set_option maxHeartbeats 1000000 in
theorem shSign_any (o : Int) (w : World) : Calls Tryz.prog 155 #[.int .i64 o] w fun e w' => e = .returned (strV (Sh.sign o)) ∧ w' = w := by
  by_cases h1 : o = 1
  · subst h1
    go_enter Tryz.func155, Tryz.ntmps155
    go_wp2
    go_ret
    exact ⟨rfl, rfl⟩
  by_cases h2 : o = 2
  · subst h2
    go_enter Tryz.func155, Tryz.ntmps155
    go_wp2
    go_ret
    exact ⟨rfl, rfl⟩
  by_cases h3 : o = 3
  · subst h3
    go_enter Tryz.func155, Tryz.ntmps155
    go_wp2
    go_ret
    exact ⟨rfl, rfl⟩
  by_cases h4 : o = 4
  · subst h4
    go_enter Tryz.func155, Tryz.ntmps155
    go_wp2
    go_ret
    exact ⟨rfl, rfl⟩
  by_cases h5 : o = 5
  · subst h5
    go_enter Tryz.func155, Tryz.ntmps155
    go_wp2
    go_ret
    exact ⟨rfl, rfl⟩
  by_cases h6 : o = 6
  · subst h6
    go_enter Tryz.func155, Tryz.ntmps155
    go_wp2
    go_ret
    exact ⟨rfl, rfl⟩
  have e : Sh.sign o = [42] := by unfold Sh.sign; rw [if_neg h1, if_neg h2, if_neg h3, if_neg h4, if_neg h5, if_neg h6]
  rw [e]
  have g1 : (o == 1) = false := by simpa using h1
  have g2 : (o == 2) = false := by simpa using h2
  have g3 : (o == 3) = false := by simpa using h3
  have g4 : (o == 4) = false := by simpa using h4
  have g5 : (o == 5) = false := by simpa using h5
  have g6 : (o == 6) = false := by simpa using h6
  go_enter Tryz.func155, Tryz.ntmps155
  go_wp2
  go_ret
  exact ⟨rfl, rfl⟩

theorem cat_list (l : List UInt8) : strV ([32] ++ l ++ [32]) = .string ({ data := #[32] } ++ { data := l.toArray } ++ { data := #[32] }) := by
  congr 1

set_option maxRecDepth 100000 in
set_option maxHeartbeats 2000000 in
theorem reck_any (w0 : World) (P : Nat) (bs : List UInt8) (x : Tr.Lit) (v : Value) (w : World) (hV : TermsV w0 v x.terms) (h : PI w0 w P bs) (hx : Sh.LitOk x) (h2 : 2 ≤ x.terms.length) (hp : Pow w0)
    (hlen : bs.length + (Sh.reck x).length ≤ 140737488355328) :
    Calls Tryz.prog 134 #[.pointer (some ⟨P, 0, none⟩), litVal x v] w fun e w' => e = .returned (.tuple #[]) ∧ PI w0 w' P (bs ++ Sh.reck x) ∧ Kept P w w' := by
  obtain ⟨ao, ca, rfl, hV'⟩ := hV
  rcases hV' with h0 | ⟨b, off, rfl, hc⟩
  · rw [h0] at h2; simp at h2
  have hb1 : Below w.heap.size w (w.alloc (litObj x (.slice (some ⟨b, off, none⟩) x.terms.length ca))) := (Below.refl _ _).alloc (Nat.le_refl _) _
  have hI1 := h.below hb1
  have hk1 : Kept P w (w.alloc (litObj x (.slice (some ⟨b, off, none⟩) x.terms.length ca))) := kept_below hb1
  have hX1 := heap_alloc_new w (litObj x (.slice (some ⟨b, off, none⟩) x.terms.length ca))
  have hXP : w.heap.size ≠ P := by have := h.lt; omega
  obtain ⟨a0, a1⟩ := hc 0 (by omega)
  obtain ⟨b0, b1⟩ := hc 1 (by omega)
  replace a0 : w0.cell? ⟨b, off, none⟩ = some (.string ⟨(Tr.termD x.terms 0).var.toArray⟩) := by simpa using a0
  replace a1 : w0.cell? ⟨b, off + 1, none⟩ = some (.int .i64 (Tr.termD x.terms 0).n) := by simpa using a1
  replace b0 : w0.cell? ⟨b, off + 2, none⟩ = some (.string ⟨(Tr.termD x.terms 1).var.toArray⟩) := b0
  replace b1 : w0.cell? ⟨b, off + 2 + 1, none⟩ = some (.int .i64 (Tr.termD x.terms 1).n) := b1
  have hn0 := hx.num 0 (by omega)
  have hn1 := hx.num 1 (by omega)
  have hr : (Sh.reck x).length = (Sh.term (Tr.termD x.terms 0)).length + ((Sh.sign x.op).length + 2) + (Sh.term (Tr.termD x.terms 1)).length + (Sh.third x).length := by unfold Sh.reck; simp; omega
  rw [hr] at hlen
  have HR : Hid (Sh.reck x = Sh.term (Tr.termD x.terms 0) ++ ([32] ++ Sh.sign x.op ++ [32]) ++ Sh.term (Tr.termD x.terms 1) ++ Sh.third x) := rfl
  have H3 : Hid (x.kind = 4 → Sh.third x = [32, 61, 32] ++ Sh.term (Tr.termD x.terms 2)) := fun h => by unfold Sh.third; rw [if_pos h]
  have H0 : Hid (¬ x.kind = 4 → Sh.third x = []) := fun h => by unfold Sh.third; rw [if_neg h]
  have hln : (2 : Int) ≤ (x.terms.length : Int) := by omega
  have hi0 : (0 : Int) < (x.terms.length : Int) := by omega
  have hi1 : (1 : Int) < (x.terms.length : Int) := by omega
  clear hr
  generalize Sh.reck x = RX at *
  generalize Sh.third x = TX at *
  have a0' := cell_below hI1.bel a0
  have a1' := cell_below hI1.bel a1
  go_enter Tryz.func134, Tryz.ntmps134
  go_upto_region 1 with fail
  generalize w.alloc (litObj x (.slice (some ⟨b, off, none⟩) x.terms.length ca)) = w1 at *
  generalize w.heap.size = X at *
  obtain ⟨x0, x1, x2, x3, x4⟩ := lit_cells hX1
  generalize Tr.termD x.terms 0 = t0 at *
  generalize Tr.termD x.terms 1 = t1 at *
  have HT0 := shTerm_any w0 P bs t0 w1 hI1 hn0 hp (by omega)
  go_wp2_with fail
  refine HT0.mono ?_
  rintro e w2 ⟨rfl, hI2, hk2⟩
  have hX2 := hk2.get hX1 hXP (by decide)
  have hkw2 := hk1.trans hk2
  clear x0 x1 x2 x3 x4 HT0 hI1 hk1 hX1 a0' a1' a0 a1 hk2
  obtain ⟨x0, x1, x2, x3, x4⟩ := lit_cells hX2
  have HP2 : Hid (∀ w1, PI w0 w1 P (bs ++ Sh.term t0) → Calls Tryz.prog 95 #[.pointer (some ⟨P, 0, none⟩), strV ([32] ++ Sh.sign x.op ++ [32])] w1 fun e w' => e = .returned (.tuple #[]) ∧ PI w0 w' P (bs ++ Sh.term t0 ++ ([32] ++ Sh.sign x.op ++ [32])) ∧ Kept P w1 w') := fun w1 h1 => put_any w0 P _ _ w1 h1 (by simp only [List.length_append, List.length_cons, List.length_nil]; omega)
  go_upto_region 2 with fail
  go_cut [] (fun wx => PI w0 wx P (bs ++ Sh.term t0 ++ ([32] ++ Sh.sign x.op ++ [32])) ∧ Kept P w wx ∧ wx.heap[X]? = some (litObj x (.slice (some ⟨b, off, none⟩) x.terms.length ca)))
  case first =>
    have HSG : Hid (∀ w1, Calls Tryz.prog 155 #[.int .i64 x.op] w1 fun e w' => e = .returned (strV (Sh.sign x.op)) ∧ w' = w1) := fun w1 => shSign_any _ w1
    have hsl : (Sh.sign x.op).length ≤ 2 := Sh.sign_len _
    rw [cat_list] at HP2
    generalize Sh.sign x.op = SG at *
    have hs1 : ¬ 9223372036854775807 < 1 + SG.length := by omega
    have hs2 : ¬ 9223372036854775807 < 1 + SG.length + 1 := by omega
    go_region_law (first
      | (go_simp; go_at_call 155; refine Calls.mono (HSG.out _) ?_; rintro e y2 ⟨rfl, rfl⟩; dsimp only)
      | (go_simp; go_at_call 95; refine Calls.mono (HP2.out _ (PI.same hI2 ⟨rfl, rfl, rfl, Nat.le_refl _, fun _ _ => rfl⟩)) ?_; rintro e y3 ⟨rfl, hI3, hk3⟩; have hk4 := Kept.on3 hkw2 hk3 ⟨rfl, rfl, rfl, Nat.le_refl _, fun _ _ => rfl⟩; have hk5 := Kept.on3 (Lib.OthersKept.refl 5 (some P) w2) hk3 ⟨rfl, rfl, rfl, Nat.le_refl _, fun _ _ => rfl⟩; dsimp only))
    all_goals go_wp2_with fail
    all_goals go_meet
    all_goals exact ⟨hI3, hk4, hk5.get hX2 hXP (by decide)⟩
  case rest =>
    obtain ⟨hI3, hkw3, hX3⟩ := hcut
    generalize wc = w3 at *
    clear x0 x1 x2 x3 x4 hI2 hkw2 hX2 HP2
    obtain ⟨x0, x1, x2, x3, x4⟩ := lit_cells hX3
    have b0' := cell_below hI3.bel b0
    have b1' := cell_below hI3.bel b1
    have HT1 := shTerm_any w0 P _ t1 w3 hI3 hn1 hp (by simp only [List.length_append, List.length_cons, List.length_nil]; omega)
    go_wp2_with fail
    refine HT1.mono ?_
    rintro e w4 ⟨rfl, hI4, hk4⟩
    have hX4 := hk4.get hX3 hXP (by decide)
    have hkw4 := hkw3.trans hk4
    clear x0 x1 x2 x3 x4 hI3 hkw3 hX3 HT1 b0' b1' b0 b1 hk4
    obtain ⟨x0, x1, x2, x3, x4⟩ := lit_cells hX4
    by_cases hk : x.kind = 4
    · have hTX := H3.out hk
      have h3 := hx.three hk
      have hi2 : (2 : Int) < (x.terms.length : Int) := by omega
      have hkb : (x.kind == 4) = true := by rw [hk]; rfl
      obtain ⟨d0, d1⟩ := hc 2 (by omega)
      replace d0 : w0.cell? ⟨b, off + 4, none⟩ = some (.string ⟨(Tr.termD x.terms 2).var.toArray⟩) := d0
      replace d1 : w0.cell? ⟨b, off + 4 + 1, none⟩ = some (.int .i64 (Tr.termD x.terms 2).n) := d1
      have hn2 := hx.num 2 (by omega)
      have hTl : TX.length = 3 + (Sh.term (Tr.termD x.terms 2)).length := by rw [hTX]; simp; omega
      rw [hTX] at HR
      generalize Tr.termD x.terms 2 = t2 at *
      have HP5 := put_any w0 P _ [32, 61, 32] w4 hI4 (by simp only [List.length_append, List.length_cons, List.length_nil]; omega)
      clear hTX H3 H0 hk
      go_wp2_with fail
      refine HP5.mono ?_
      rintro e w5 ⟨rfl, hI5, hk5⟩
      have hX5 := hk5.get hX4 hXP (by decide)
      have hkw5 := hkw4.trans hk5
      clear x0 x1 x2 x3 x4 hI4 hkw4 hX4 HP5 hk5
      obtain ⟨x0, x1, x2, x3, x4⟩ := lit_cells hX5
      have d0' := cell_below hI5.bel d0
      have d1' := cell_below hI5.bel d1
      have HT6 := shTerm_any w0 P _ t2 w5 hI5 hn2 hp (by simp only [List.length_append, List.length_cons, List.length_nil]; omega)
      go_wp2_with fail
      refine HT6.mono ?_
      rintro e w6 ⟨rfl, hI6, hk6⟩
      go_wp2_with fail
      go_end0
      exact ⟨rfl, by rw [HR.out]; simpa only [List.append_assoc] using hI6, hkw5.trans hk6⟩
    · have hTX := H0.out hk
      have hkb : (x.kind == 4) = false := by simpa using hk
      rw [hTX, List.append_nil] at HR
      clear hTX H3 H0 hk
      go_wp2_with fail
      go_end0
      exact ⟨rfl, by rw [HR.out]; simpa only [List.append_assoc] using hI4, hkw4⟩

set_option maxRecDepth 100000 in
set_option maxHeartbeats 2000000 in
theorem shLit_any (w0 : World) (P : Nat) (bs : List UInt8) (x : Tr.Lit) (v : Value) (w : World) (hV : TermsV w0 v x.terms) (h : PI w0 w P bs) (hx : Sh.LitOk x) (hp : Pow w0)
    (hlen : bs.length + (Sh.lit x).length ≤ 140737488355328) :
    Calls Tryz.prog 98 #[.pointer (some ⟨P, 0, none⟩), litVal x v] w fun e w' => e = .returned (.tuple #[]) ∧ PI w0 w' P (bs ++ Sh.lit x) ∧ Kept P w w' := by
  have hV0 := hV
  obtain ⟨ao, ca, rfl, hV'⟩ := hV
  clear hV'
  have hb1 : Below w.heap.size w (w.alloc (litObj x (.slice ao x.terms.length ca))) := (Below.refl _ _).alloc (Nat.le_refl _) _
  have hI1 := h.below hb1
  have hk1 : Kept P w (w.alloc (litObj x (.slice ao x.terms.length ca))) := kept_below hb1
  have hX1 := heap_alloc_new w (litObj x (.slice ao x.terms.length ca))
  have hXP : w.heap.size ≠ P := by have := h.lt; omega
  by_cases h1 : x.kind = 1
  · have hl : Sh.lit x = Sh.atom x.name x.terms 0 := by unfold Sh.lit; rw [if_pos h1]
    rw [hl] at hlen ⊢
    have hk : (x.kind == 1) = true := by rw [h1]; rfl
    clear hl h1
    go_enter Tryz.func98, Tryz.ntmps98
    go_upto_region 1 with fail
    generalize w.alloc (litObj x (.slice ao x.terms.length ca)) = w1 at *
    generalize w.heap.size = X at *
    obtain ⟨x0, x1, x2, x3, x4⟩ := lit_cells hX1
    have HA := atom_any w0 P bs x.name x.terms _ 0 w1 hV0 hI1 hx.len hx.num hp hlen
    go_wp2_with fail
    refine HA.mono ?_
    rintro e w2 ⟨rfl, hI2, hk2⟩
    go_wp2_with fail
    go_end0
    exact ⟨rfl, hI2, hk1.trans hk2⟩
  by_cases h2 : x.kind = 2
  · have hl : Sh.lit x = [110, 111, 116, 32] ++ Sh.atom x.name x.terms 0 := by unfold Sh.lit; rw [if_neg h1, if_pos h2]
    rw [hl] at hlen ⊢
    rw [List.length_append] at hlen
    simp only [List.length_cons, List.length_nil] at hlen
    have hk : (x.kind == 1) = false := by rw [h2]; rfl
    have hk' : (x.kind == 2) = true := by rw [h2]; rfl
    clear hl h1 h2
    go_enter Tryz.func98, Tryz.ntmps98
    go_upto_region 1 with fail
    generalize w.alloc (litObj x (.slice ao x.terms.length ca)) = w1 at *
    generalize w.heap.size = X at *
    obtain ⟨x0, x1, x2, x3, x4⟩ := lit_cells hX1
    have HP := put_any w0 P bs [110, 111, 116, 32] w1 hI1 (by simp only [List.length_cons, List.length_nil]; omega)
    go_wp2_with fail
    refine HP.mono ?_
    rintro e w2 ⟨rfl, hI2, hk2⟩
    have hX2 := hk2.get hX1 hXP (by decide)
    clear x0 x1 x2 x3 x4 HP
    obtain ⟨x0, x1, x2, x3, x4⟩ := lit_cells hX2
    have HA := atom_any w0 P _ x.name x.terms _ 0 w2 hV0 hI2 hx.len hx.num hp (by simp only [List.length_append, List.length_cons, List.length_nil]; omega)
    go_wp2_with fail
    refine HA.mono ?_
    rintro e w3 ⟨rfl, hI3, hk3⟩
    go_wp2_with fail
    go_end0
    exact ⟨rfl, by simpa using hI3, (hk1.trans hk2).trans hk3⟩
  have hl : Sh.lit x = Sh.reck x := by unfold Sh.lit; rw [if_neg h1, if_neg h2]
  rw [hl] at hlen ⊢
  have h22 := hx.two h1 h2
  have hk : (x.kind == 1) = false := by simpa using h1
  have hk' : (x.kind == 2) = false := by simpa using h2
  clear hl h1 h2
  go_enter Tryz.func98, Tryz.ntmps98
  go_upto_region 1 with fail
  generalize w.alloc (litObj x (.slice ao x.terms.length ca)) = w1 at *
  generalize w.heap.size = X at *
  obtain ⟨x0, x1, x2, x3, x4⟩ := lit_cells hX1
  have HA := reck_any w0 P bs x _ w1 hV0 hI1 hx h22 hp hlen
  go_wp2_with fail
  refine HA.mono ?_
  rintro e w2 ⟨rfl, hI2, hk2⟩
  go_wp2_with fail
  go_end0
  exact ⟨rfl, hI2, hk1.trans hk2⟩

end Go.Proofs.YtgpaleifhcdjnaaGreatDoor

/- Package show: Show. -/
namespace Go.Proofs.YtgpaleifhcdjnaaGreatDoor
open Go.RowKit

set_option maxRecDepth 100000 in
set_option maxHeartbeats 1000000 in
theorem rulePut_any (w0 : World) (P : Nat) (bs : List UInt8) (i : Int) (x : Tr.Lit) (v : Value) (B : Nat) (w : World) (hV : TermsV w0 v x.terms) (h : PI w0 w P bs) (hB : w.heap[B]? = some (.cells #[.pointer (some ⟨P, 0, none⟩)] 102)) (hx : Sh.LitOk x) (hp : Pow w0)
    (hlen : bs.length + (Sh.lit x).length ≤ 140737488355328) :
    Calls Tryz.prog 97 #[.int .i64 i, litVal x v, .pointer (some ⟨B, 0, none⟩)] w fun e w' => e = .returned (.tuple #[]) ∧ PI w0 w' P (bs ++ Sh.lit x) ∧ Kept P w w' := by
  have hV0 := hV
  obtain ⟨ao, ca, rfl, hV'⟩ := hV
  clear hV'
  have hb1 : Below w.heap.size w (w.alloc (litObj x (.slice ao x.terms.length ca))) := (Below.refl _ _).alloc (Nat.le_refl _) _
  have hI1 := h.below hb1
  have hk1 : Kept P w (w.alloc (litObj x (.slice ao x.terms.length ca))) := kept_below hb1
  have hX1 := heap_alloc_new w (litObj x (.slice ao x.terms.length ca))
  have hB1 := (hb1.block _ (heap_lt hB)).trans hB
  go_enter Tryz.func97, Tryz.ntmps97
  go_upto_region 1 with fail
  generalize w.alloc (litObj x (.slice ao x.terms.length ca)) = w1 at *
  generalize w.heap.size = X at *
  obtain ⟨x0, x1, x2, x3, x4⟩ := lit_cells hX1
  have c0 : w1.cell? ⟨B, 0, none⟩ = some (.pointer (some ⟨P, 0, none⟩)) := by rw [Lib.cell_of_heap hB1]; rfl
  have HA := shLit_any w0 P bs x _ w1 hV0 hI1 hx hp hlen
  go_wp2_with fail
  refine HA.mono ?_
  rintro e w2 ⟨rfl, hI2, hk2⟩
  go_wp2_with fail
  go_end0
  exact ⟨rfl, hI2, hk1.trans hk2⟩

set_option maxRecDepth 100000 in
set_option maxHeartbeats 1000000 in
theorem commasL_any (w0 : World) (P : Nat) (bs : List UInt8) (l : List Tr.Lit) (ca : Nat) (ao : Option Addr) (B : Nat) (w : World) (hV : LitsV w0 (.slice ao l.length ca) l) (h : PI w0 w P bs) (hB : w.heap[B]? = some (.cells #[.pointer (some ⟨P, 0, none⟩)] 102)) (hBP : B ≠ P) (hn4 : l.length ≤ 4611686018427387904) (hn : ∀ i, i < l.length → Sh.LitOk (Tr.litD l i)) (hp : Pow w0)
    (hlen : bs.length + (Sh.lits l l.length).length ≤ 140737488355328) :
    Calls Tryz.prog 96 #[.pointer (some ⟨P, 0, none⟩), .slice ao l.length ca, .func (.func 97) #[] #[.pointer (some ⟨B, 0, none⟩)]] w fun e w' => e = .returned (.tuple #[]) ∧ PI w0 w' P (bs ++ Sh.lits l l.length) ∧ Kept P w w' := by
  generalize hN : l.length = N at *
  go_enter Tryz.func96, Tryz.ntmps96
  go_wp2_with fail
  go_loopw [10] (fun i wr => ∃ k : Nat, k ≤ N ∧ i = .int .i64 k ∧ PI w0 wr P (bs ++ Sh.lits l k) ∧ Kept P w wr) (fun i _ => N - (intOf i).toNat)
  case atStart => exact ⟨0, Nat.zero_le _, rfl, by simpa [Sh.lits] using h, Lib.OthersKept.refl _ _ _⟩
  case round =>
    obtain ⟨k, hk, rfl, hI, hkp⟩ := hrel
    by_cases hlt : k < N
    · have hdk : decide (k < N) = true := decide_eq_true hlt
      obtain ⟨ao', ca', hv, hV'⟩ := hV
      injection hv with hv1 hv2 hv3
      subst hv1
      clear hv2 hv3
      rcases hV' with h0 | ⟨b, off, rfl, hc⟩
      · rw [h0] at hN; simp at hN; omega
      obtain ⟨a0, a1, a2, a3, va, a4, hVa⟩ := hc k (by omega)
      replace a0 := cell_below hI.bel a0
      replace a1 := cell_below hI.bel a1
      replace a2 := cell_below hI.bel a2
      replace a3 := cell_below hI.bel a3
      replace a4 := cell_below hI.bel a4
      have hBr := hkp.get hB hBP (by decide)
      have hnk := hn k hlt
      have hle := Sh.lits_len l (k + 1) N (by omega)
      have hST : Sh.lits l (k + 1) = Sh.lits l k ++ Sh.sep k ++ Sh.lit (Tr.litD l k) := by rw [Sh.lits]
      rw [hST] at hle
      have HST : Hid _ := hST
      simp only [List.length_append] at hle
      have HN : Hid (l.length = N) := hN
      clear hc hn hST hN
      generalize Tr.litD l k = t at *
      obtain ⟨aoa, caa, rfl, hVa'⟩ := hVa
      have hVa : TermsV w0 (.slice aoa t.terms.length caa) t.terms := ⟨aoa, caa, rfl, hVa'⟩
      clear hVa'
      have hb1 : Below wr.heap.size wr (wr.alloc (litObj t (.slice aoa t.terms.length caa))) := (Below.refl _ _).alloc (Nat.le_refl _) _
      have hI1 := hI.below hb1
      have hk1 := Kept.below hkp hb1
      have hX1 := heap_alloc_new wr (litObj t (.slice aoa t.terms.length caa))
      have hXP : wr.heap.size ≠ P := by have := hI.lt; omega
      go_upto_if 16 with fail
      generalize wr.alloc (litObj t (.slice aoa t.terms.length caa)) = w1 at *
      generalize wr.heap.size = X at *
      go_cut [] (fun wx => PI w0 wx P (bs ++ Sh.lits l k ++ Sh.sep k) ∧ Kept P w wx ∧ Kept P w1 wx)
      case first =>
        by_cases h0 : 0 < k
        · have hd0 : decide (0 < k) = true := decide_eq_true h0
          have hs : Sh.sep k = [44, 32] := by unfold Sh.sep; rw [if_pos h0]
          have HS : Hid (Sh.sep k = [44, 32]) := hs
          have HP := put_any w0 P _ [44, 32] w1 hI1 (by rw [List.length_append]; rw [hs] at hle; simp only [List.length_cons, List.length_nil] at hle ⊢; omega)
          clear hs
          go_wp2_with fail
          refine HP.mono ?_
          rintro e w2 ⟨rfl, hI2, hk2⟩
          go_wp2_with fail
          go_meet
          exact ⟨by rw [HS.out]; exact hI2, hk1.trans hk2, hk2⟩
        · have hd0 : decide (0 < k) = false := decide_eq_false h0
          have hs : Sh.sep k = [] := by unfold Sh.sep; rw [if_neg h0]
          have HS : Hid (Sh.sep k = []) := hs
          clear hs
          go_wp2_with fail
          go_meet
          exact ⟨by rw [HS.out, List.append_nil]; exact hI1, hk1, Lib.OthersKept.refl _ _ _⟩
      case rest =>
        obtain ⟨hI2, hk2, hk3⟩ := hcut
        generalize wc = w2 at *
        have hX2 := hk3.get hX1 hXP (by decide)
        obtain ⟨x0, x1, x2, x3, x4⟩ := lit_cells hX2
        have HA := rulePut_any w0 P _ k t _ B w2 hVa hI2 (hk2.get hB hBP (by decide)) hnk hp (by simp only [List.length_append]; omega)
        clear hI1 hX1 hI hkp hBr hk1 a0 a1 a2 a3 a4 hb1
        go_wp2_with fail
        refine HA.mono ?_
        rintro e w3 ⟨rfl, hI3, hk4⟩
        have hI3' : PI w0 w3 P (bs ++ Sh.lits l (k + 1)) := by
          rw [HST.out]
          simpa only [List.append_assoc] using hI3
        go_wp2_with fail
        go_roundw
        case rel => exact ⟨k + 1, by omega, by go_num, hI3', hk2.trans hk4⟩
        case measure => simp [intOf]; omega
    · have hdk : decide (k < N) = false := decide_eq_false hlt
      obtain rfl : k = N := by omega
      clear hN
      go_wp2_with fail
      go_end0
      exact ⟨rfl, hI, hkp⟩

/-- What Check has passed of a rule, as far as it is needed here. -/
structure Sh.RuleOk (r : Tr.Rule) : Prop where
  num : ∀ i, i < r.terms.length → Sh.NumOk (Tr.termD r.terms i)
  len : r.terms.length ≤ 4611686018427387904
  lit : ∀ i, i < r.body.length → Sh.LitOk (Tr.litD r.body i)
  lens : r.body.length ≤ 4611686018427387904

set_option maxRecDepth 100000 in
set_option maxHeartbeats 2000000 in
theorem shRule_any (w0 : World) (P : Nat) (bs : List UInt8) (r : Tr.Rule) (v u : Value) (w : World) (hV : TermsV w0 v r.terms) (hU : LitsV w0 u r.body) (h : PI w0 w P bs) (hr : Sh.RuleOk r) (hp : Pow w0)
    (hlen : bs.length + (Sh.rule r).length ≤ 140737488355328) :
    Calls Tryz.prog 59 #[.pointer (some ⟨P, 0, none⟩), ruleVal r v u] w fun e w' => e = .returned (.tuple #[]) ∧ PI w0 w' P (bs ++ Sh.rule r) ∧ Kept P w w' := by
  have hV0 := hV
  have hU0 := hU
  obtain ⟨ao, ca, rfl, hV'⟩ := hV
  obtain ⟨bo, cb, rfl, hU'⟩ := hU
  clear hV' hU'
  have hmf : ∀ (fn : Fn) (first cap : Array Value) (w : World), (Instr.makeFunc fn first cap).run Tryz.prog w = .ok (.func fn first cap) w := fun _ _ _ _ => rfl
  have hb1 : Below w.heap.size w ((w.alloc (.cells #[.pointer (some ⟨P, 0, none⟩)] 102)).alloc (rulObj r (.slice ao r.terms.length ca) (.slice bo r.body.length cb))) := ((Below.refl _ _).alloc (Nat.le_refl _) _).alloc (by simp) _
  have hI1 := h.below hb1
  have hk1 : Kept P w ((w.alloc (.cells #[.pointer (some ⟨P, 0, none⟩)] 102)).alloc (rulObj r (.slice ao r.terms.length ca) (.slice bo r.body.length cb))) := kept_below hb1
  have hB1 : ((w.alloc (.cells #[.pointer (some ⟨P, 0, none⟩)] 102)).alloc (rulObj r (.slice ao r.terms.length ca) (.slice bo r.body.length cb))).heap[w.heap.size]? = some (.cells #[.pointer (some ⟨P, 0, none⟩)] 102) := (heap_alloc_old _ _ (by simp)).trans (heap_alloc_new w _)
  have hX1 : ((w.alloc (.cells #[.pointer (some ⟨P, 0, none⟩)] 102)).alloc (rulObj r (.slice ao r.terms.length ca) (.slice bo r.body.length cb))).heap[w.heap.size + 1]? = some (rulObj r (.slice ao r.terms.length ca) (.slice bo r.body.length cb)) := by
    have := heap_alloc_new (w.alloc (.cells #[.pointer (some ⟨P, 0, none⟩)] 102)) (rulObj r (.slice ao r.terms.length ca) (.slice bo r.body.length cb))
    simpa using this
  have hBP : w.heap.size ≠ P := by have := h.lt; omega
  have hXP : w.heap.size + 1 ≠ P := by have := h.lt; omega
  have hl : (Sh.rule r).length = (Sh.atom r.name r.terms r.fold).length + (Sh.tail r.body).length + 2 := by unfold Sh.rule; simp; omega
  rw [hl] at hlen
  have HR : Hid (Sh.rule r = Sh.atom r.name r.terms r.fold ++ Sh.tail r.body ++ [46, 10]) := rfl
  have HT1 : Hid (0 < r.body.length → Sh.tail r.body = [32, 58, 45, 32] ++ Sh.lits r.body r.body.length) := fun h => by unfold Sh.tail; rw [if_pos h]
  have HT0 : Hid (¬ 0 < r.body.length → Sh.tail r.body = []) := fun h => by unfold Sh.tail; rw [if_neg h]
  clear hl h hb1
  generalize Sh.rule r = RX at *
  generalize Sh.tail r.body = TX at *
  go_enter Tryz.func59, Tryz.ntmps59
  go_upto_region 1 with fail
  generalize (w.alloc (.cells #[.pointer (some ⟨P, 0, none⟩)] 102)).alloc (rulObj r (.slice ao r.terms.length ca) (.slice bo r.body.length cb)) = w1 at *
  generalize w.heap.size + 1 = X at *
  generalize w.heap.size = B at *
  obtain ⟨x0, x1, x2, x3, x4⟩ := rul_cells hX1
  have c0 : w1.cell? ⟨B, 0, none⟩ = some (.pointer (some ⟨P, 0, none⟩)) := by rw [Lib.cell_of_heap hB1]; rfl
  have HA := atom_any w0 P bs r.name r.terms _ r.fold w1 hV0 hI1 hr.len hr.num hp (by omega)
  go_wp2_with fail
  refine HA.mono ?_
  rintro e w2 ⟨rfl, hI2, hk2⟩
  have hX2 := hk2.get hX1 hXP (by decide)
  have hB2 := hk2.get hB1 hBP (by decide)
  have hkw2 := hk1.trans hk2
  clear x0 x1 x2 x3 x4 c0 HA hI1 hk1 hX1 hB1 hk2
  obtain ⟨x0, x1, x2, x3, x4⟩ := rul_cells hX2
  have c0 : w2.cell? ⟨B, 0, none⟩ = some (.pointer (some ⟨P, 0, none⟩)) := by rw [Lib.cell_of_heap hB2]; rfl
  go_upto_if 15 with fail
  go_cut [] (fun wx => PI w0 wx P (bs ++ Sh.atom r.name r.terms r.fold ++ TX) ∧ Kept P w wx ∧ wx.heap[B]? = some (.cells #[.pointer (some ⟨P, 0, none⟩)] 102))
  case first =>
    by_cases hb : 0 < r.body.length
    · have hTX := HT1.out hb
      have hTl : TX.length = 4 + (Sh.lits r.body r.body.length).length := by rw [hTX]; simp; omega
      have HTX : Hid _ := hTX
      have hd : decide (0 < r.body.length) = true := decide_eq_true hb
      have HP3 := put_any w0 P _ [32, 58, 45, 32] w2 hI2 (by simp only [List.length_append, List.length_cons, List.length_nil]; omega)
      clear hTX HT1 HT0 HR
      go_wp2_with fail
      refine HP3.mono ?_
      rintro e w3 ⟨rfl, hI3, hk3⟩
      have hX3 := hk3.get hX2 hXP (by decide)
      have hB3 := hk3.get hB2 hBP (by decide)
      clear x0 x1 x2 x3 x4 c0 HP3
      obtain ⟨x0, x1, x2, x3, x4⟩ := rul_cells hX3
      have c0 : w3.cell? ⟨B, 0, none⟩ = some (.pointer (some ⟨P, 0, none⟩)) := by rw [Lib.cell_of_heap hB3]; rfl
      have HL := commasL_any w0 P _ r.body cb bo B w3 hU0 hI3 hB3 hBP hr.lens hr.lit hp (by simp only [List.length_append, List.length_cons, List.length_nil]; omega)
      go_wp2_with fail
      refine HL.mono ?_
      rintro e w4 ⟨rfl, hI4, hk4⟩
      go_wp2_with fail
      go_meet
      exact ⟨by rw [HTX.out]; simpa only [List.append_assoc] using hI4, (hkw2.trans hk3).trans hk4, hk4.get hB3 hBP (by decide)⟩
    · have hTX := HT0.out hb
      have HTX : Hid _ := hTX
      have hd : decide (0 < r.body.length) = false := decide_eq_false hb
      clear hTX HT1 HT0 HR
      go_wp2_with fail
      go_meet
      exact ⟨by rw [HTX.out, List.append_nil]; exact hI2, hkw2, hB2⟩
  case rest =>
    obtain ⟨hI5, hkw5, hB5⟩ := hcut
    generalize wc = w5 at *
    clear x0 x1 x2 x3 x4 c0 hI2 hkw2 hX2 hB2
    have c0 : w5.cell? ⟨B, 0, none⟩ = some (.pointer (some ⟨P, 0, none⟩)) := by rw [Lib.cell_of_heap hB5]; rfl
    have HP6 := put_any w0 P _ [46, 10] w5 hI5 (by simp only [List.length_append, List.length_cons, List.length_nil]; omega)
    go_wp2_with fail
    refine HP6.mono ?_
    rintro e w6 ⟨rfl, hI6, hk6⟩
    go_wp2_with fail
    go_end0
    exact ⟨rfl, by rw [HR.out]; simpa only [List.append_assoc] using hI6, hkw5.trans hk6⟩

theorem str_nums (bs : List UInt8) : strOfNums (bs.map fun b => (b.toNat : Int)) = ⟨bs.toArray⟩ := by
  have h : (bs.map fun b => (b.toNat : Int)).map (fun n => UInt8.ofNat n.toNat) = bs := by
    rw [List.map_map]
    conv => rhs; rw [← List.map_id bs]
    apply List.map_congr_left
    intro b _
    simp
  apply ByteArray.ext
  apply Array.toList_inj.1
  rw [strOfNums_data, h]

set_option maxRecDepth 100000 in
set_option maxHeartbeats 1000000 in
theorem whole_any (w0 : World) (P : Nat) (bs : List UInt8) (w : World) (h : PI w0 w P bs) : Calls Tryz.prog 60 #[.pointer (some ⟨P, 0, none⟩)] w fun e w' => e = .returned (strV bs) ∧ w' = w := by
  obtain ⟨v, hbk, hown⟩ := h.prt
  have c0 : w.cell? ⟨P, 0, none⟩ = some v := by rw [Lib.cell_of_heap hbk]; rfl
  have HC : Hid ((convert 103 9 v).run Tryz.prog w = .ok (strV bs) w) := by
    show _ = _
    rcases hown.2 with ⟨hv, h0⟩ | ⟨g, cap, cur, hv, _⟩
    · have hb0 : bs = [] := List.eq_nil_of_length_eq_zero h0
      rw [hv, hb0]
      exact run_convert_bytes_nil w 103 5 Tryz.underlying103 Tryz.underlying5 0 0 9 Tryz.underlying9
    · subst hv
      rw [run_convert_bytes_arg w 103 5 Tryz.underlying103 Tryz.underlying5 g 0 bs.length cap (bs.map fun b => (b.toNat : Int)) (by simp) ?_ 9 Tryz.underlying9, str_nums]
      intro i hi
      rw [Nat.zero_add, World.ownsRow.cellAt hown i (by omega)]
      simp [hi]
  obtain ⟨ao, cap, rfl⟩ := own_slice hown
  go_enter Tryz.func60, Tryz.ntmps60
  go_wp2_with fail
  rw [HC.out]
  simp only [Result.andThen]
  rw [Oper.upon_value]
  go_wp2
  go_ret
  exact ⟨rfl, rfl⟩

end Go.Proofs.YtgpaleifhcdjnaaGreatDoor

/- Package show: what Check has passed can be shown; Show. -/
namespace Go.Proofs.YtgpaleifhcdjnaaGreatDoor
open Go.RowKit

namespace Sh
theorem nDigits_le : ∀ (k u : Nat), u < 10 ^ (k + 1) → Lib.nDigits u ≤ k + 1
  | 0, u, h => by rw [Lib.nDigits_small (by simpa using h)]; exact Nat.le_refl _
  | k + 1, u, h => by
    by_cases hu : u < 10
    · rw [Lib.nDigits_small hu]; omega
    · rw [Lib.nDigits_big hu]
      have := nDigits_le k (u / 10) (by rw [Nat.pow_succ] at h; omega)
      omega
theorem dec_len (u : Nat) : (Lib.decDigits u).length = Lib.nDigits u := by rw [Lib.decDigits_eq]; simp
theorem itoa_len (n : Int) (h0 : -9999999 ≤ n) (h1 : n ≤ 9999999) : (Lib.itoa n).length ≤ 8 := by
  unfold Lib.itoa
  split
  · rw [List.length_cons, dec_len]
    have := nDigits_le 6 n.natAbs (by omega)
    omega
  · rw [dec_len]
    have := nDigits_le 6 n.toNat (by omega)
    omega
theorem tok_len {k : Int} {t : List UInt8} (h : Tk.isTok k t = true) : t.length ≤ 5000 := (of_decide_eq_true (show decide _ = true from h)).2.1
theorem term_ok {t : Tr.Term} (h : Tr.termOk t = true) : NumOk t ∧ (term t).length ≤ 5000 := by
  unfold Tr.termOk at h
  unfold term NumOk
  cases hv : t.var.isEmpty
  · rw [hv] at h
    simp only [Bool.false_eq_true, if_false, Bool.and_eq_true, beq_iff_eq] at h
    simp only [Bool.false_eq_true, if_false]
    exact ⟨⟨by omega, by omega⟩, tok_len h.2⟩
  · rw [hv] at h
    simp only [if_true, Tr.between, Bool.and_eq_true, decide_eq_true_eq] at h
    simp only [if_true]
    have := itoa_len t.n h.1 h.2
    exact ⟨⟨by omega, by omega⟩, by omega⟩
theorem termsD_ok {l : List Tr.Term} (h : Tr.termsOk l = true) {i : Nat} (hi : i < l.length) : NumOk (Tr.termD l i) ∧ (term (Tr.termD l i)).length ≤ 5000 := by
  have hm : Tr.termD l i ∈ l := by unfold Tr.termD; rw [List.getD_eq_getElem?_getD, List.getElem?_eq_getElem hi]; exact List.getElem_mem hi
  exact term_ok (List.all_eq_true.1 h _ hm)
theorem terms_bound {fa : List UInt8} {l : List Tr.Term} (hf : fa.length ≤ 6) (h : Tr.termsOk l = true) : ∀ n, n ≤ l.length → (terms fa l n).length ≤ n * 5008
  | 0, _ => Nat.zero_le _
  | n + 1, hn => by
    have := terms_bound hf h n (by omega)
    have ht := (termsD_ok h (i := n) (by omega)).2
    have hs : (sep n).length ≤ 2 := by unfold sep; split <;> simp
    have ha : (ahead fa n l.length).length ≤ 6 := by
      unfold ahead
      split
      · exact hf
      · simp
    rw [terms, List.length_append, List.length_append, List.length_append]
    omega
theorem fold_len (f : Int) : (fold f).length ≤ 6 := by
  unfold fold
  (repeat' split) <;> simp
theorem atom_bound {nm : List UInt8} {l : List Tr.Term} {f : Int} (hn : nm.length ≤ 5000) (h : Tr.termsOk l = true) (hl : l.length ≤ 3) : (atom nm l f).length ≤ 20100 := by
  have := terms_bound (fold_len f) h l.length (Nat.le_refl _)
  unfold atom
  rw [List.length_append, List.length_append, List.length_append]
  simp only [List.length_cons, List.length_nil]
  omega
theorem lit_ok {x : Tr.Lit} (h : Tr.litOk x = true) (hl : x.terms.length ≤ 3) : LitOk x ∧ (lit x).length ≤ 20200 := by
  unfold Tr.litOk at h
  rw [Bool.and_eq_true] at h
  obtain ⟨ht, hk⟩ := h
  by_cases h12 : x.kind = 1 ∨ x.kind = 2
  · rw [if_pos h12, Bool.and_eq_true] at hk
    have hnm : x.name.length ≤ 5000 := by
      have := hk.2
      unfold Tr.isName at this
      rw [Bool.and_eq_true] at this
      exact tok_len this.1
    have ha := atom_bound (f := 0) hnm ht hl
    refine ⟨⟨fun i hi => (termsD_ok ht hi).1, by omega, fun h1 h2 => absurd h12 (by simp [h1, h2]), fun h4 => by rcases h12 with h | h <;> omega⟩, ?_⟩
    unfold lit
    rcases h12 with h1 | h2
    · rw [if_pos h1]; omega
    · rw [if_neg (by omega), if_pos h2, List.length_append]
      simp only [List.length_cons, List.length_nil]
      omega
  · rw [if_neg h12] at hk
    have h1 : ¬ x.kind = 1 := fun h => h12 (.inl h)
    have h2 : ¬ x.kind = 2 := fun h => h12 (.inr h)
    have hs := sign_len x.op
    have key : (x.kind = 3 ∧ x.terms.length = 2) ∨ (x.kind = 4 ∧ x.terms.length = 3) := by
      by_cases h3 : x.kind = 3
      · rw [if_pos h3] at hk
        simp only [Bool.and_eq_true, beq_iff_eq] at hk
        exact .inl ⟨h3, by omega⟩
      · rw [if_neg h3] at hk
        by_cases h4 : x.kind = 4
        · rw [if_pos h4] at hk
          simp only [Bool.and_eq_true, beq_iff_eq] at hk
          exact .inr ⟨h4, by omega⟩
        · rw [if_neg h4] at hk
          cases hk
    refine ⟨⟨fun i hi => (termsD_ok ht hi).1, by omega, fun _ _ => by omega, fun h4 => by omega⟩, ?_⟩
    have t0 := (termsD_ok ht (i := 0) (by omega)).2
    have t1 := (termsD_ok ht (i := 1) (by omega)).2
    have t3 : (third x).length ≤ 5003 := by
      unfold third
      split
      · have t2 := (termsD_ok ht (i := 2) (by omega)).2
        rw [List.length_append]
        simp only [List.length_cons, List.length_nil]
        omega
      · simp
    unfold lit reck
    rw [if_neg h1, if_neg h2]
    simp only [List.length_append, List.length_cons, List.length_nil]
    omega
theorem litsD_ok {l : List Tr.Lit} (h : Tr.litsOk l = true) (hm : Tr.litsMany l = false) {i : Nat} (hi : i < l.length) : LitOk (Tr.litD l i) ∧ (lit (Tr.litD l i)).length ≤ 20200 := by
  have hmem : Tr.litD l i ∈ l := by unfold Tr.litD; rw [List.getD_eq_getElem?_getD, List.getElem?_eq_getElem hi]; exact List.getElem_mem hi
  refine lit_ok (List.all_eq_true.1 h _ hmem) ?_
  have := List.any_eq_false.1 hm _ hmem
  simp only [decide_eq_true_eq] at this
  omega
theorem lits_bound {l : List Tr.Lit} (h : Tr.litsOk l = true) (hm : Tr.litsMany l = false) : ∀ n, n ≤ l.length → (lits l n).length ≤ n * 20202
  | 0, _ => Nat.zero_le _
  | n + 1, hn => by
    have := lits_bound h hm n (by omega)
    have ht := (litsD_ok h hm (i := n) (by omega)).2
    have hs : (sep n).length ≤ 2 := by unfold sep; split <;> simp
    rw [lits, List.length_append, List.length_append]
    omega
theorem rule_ok {r : Tr.Rule} (h : Tr.ruleOk r = true) (hm : Tr.ruleMany r = false) : RuleOk r ∧ (rule r).length ≤ 102000 := by
  unfold Tr.ruleMany at hm
  simp only [Bool.or_eq_false_iff, decide_eq_false_iff_not] at hm
  unfold Tr.ruleOk at h
  simp only [Bool.and_eq_true] at h
  obtain ⟨⟨⟨hn, ht⟩, hf⟩, hb⟩ := h
  have hnm : r.name.length ≤ 5000 := by
    unfold Tr.isName at hn
    rw [Bool.and_eq_true] at hn
    exact tok_len hn.1
  refine ⟨⟨fun i hi => (termsD_ok ht hi).1, by omega, fun i hi => (litsD_ok hb hm.2 hi).1, by omega⟩, ?_⟩
  have ha := atom_bound (f := r.fold) hnm ht (by omega)
  have hl := lits_bound hb hm.2 r.body.length (Nat.le_refl _)
  have htl : (tail r.body).length ≤ 4 + 4 * 20202 := by
    unfold tail
    split
    · rw [List.length_append]
      simp only [List.length_cons, List.length_nil]
      omega
    · simp
  unfold rule
  simp only [List.length_append, List.length_cons, List.length_nil]
  omega
theorem check_ok {l : List Tr.Rule} (h : Tr.check l = 0) : l.length ≤ 12 ∧ (∀ i, i < l.length → RuleOk (Tr.ruleD l i) ∧ (rule (Tr.ruleD l i)).length ≤ 102000) := by
  unfold Tr.check at h
  cases hm : Tr.many l
  · rw [hm] at h
    simp only [Bool.false_eq_true, if_false] at h
    have ha : l.all Tr.ruleOk = true := by
      cases hb : l.all Tr.ruleOk
      · rw [hb] at h; simp at h
      · rfl
    unfold Tr.many at hm
    simp only [Bool.or_eq_false_iff, decide_eq_false_iff_not] at hm
    refine ⟨by omega, fun i hi => ?_⟩
    have hmem : Tr.ruleD l i ∈ l := by unfold Tr.ruleD; rw [List.getD_eq_getElem?_getD, List.getElem?_eq_getElem hi]; exact List.getElem_mem hi
    refine rule_ok (List.all_eq_true.1 ha _ hmem) ?_
    have := List.any_eq_false.1 hm.2 _ hmem
    simpa using this
  · rw [hm] at h; simp at h
theorem rules_bound {l : List Tr.Rule} (h : ∀ i, i < l.length → (rule (Tr.ruleD l i)).length ≤ 102000) : ∀ n, n ≤ l.length → (rules l n).length ≤ n * 102000
  | 0, _ => Nat.zero_le _
  | n + 1, hn => by
    have := rules_bound h n (by omega)
    have ht := h n (by omega)
    rw [rules, List.length_append]
    omega
/-- What Show answers: a text, and an error. -/
def shown (l : List Tr.Rule) : List UInt8 := if Tr.check l = 0 then rules l l.length else []
end Sh

set_option maxRecDepth 100000 in
set_option maxHeartbeats 2000000 in
theorem Show_any (l : List Tr.Rule) (v : Value) (w : World) (hV : RulesV w v l) (hp : Pow w) :
    Calls Tryz.prog 24 #[.agg #[v]] w fun e w' => e = .returned (.tuple #[strV (Sh.shown l), .int .i64 (Tr.check l)]) ∧ Below w.heap.size w w' := by
  have hV0 := hV
  obtain ⟨ao, ca, rfl, hV'⟩ := hV
  have hb1 : Below w.heap.size w (w.alloc (.cells #[.slice ao l.length ca] 36)) := (Below.refl _ _).alloc (Nat.le_refl _) _
  have hX1 := heap_alloc_new w (.cells #[.slice ao l.length ca] 36)
  have hV1 := rulesV_below hV0 hb1
  have c1 : (w.alloc (.cells #[.slice ao l.length ca] 36)).cell? ⟨w.heap.size, 0, none⟩ = some (.slice ao l.length ca) := by rw [Lib.cell_of_heap hX1]; rfl
  cases hC : (Tr.check l == 0)
  · have hs : Sh.shown l = [] := by unfold Sh.shown; rw [if_neg (by intro e; rw [e] at hC; exact absurd hC (by decide))]
    rw [hs]
    have HC := Check_any l (.slice ao l.length ca) _ hV1
    clear hV' hs
    generalize Tr.check l = E at *
    go_enter Tryz.func24, Tryz.ntmps24
    go_wp2_with fail
    refine HC.mono ?_
    rintro e w2 ⟨rfl, hb2⟩
    go_wp2_with fail
    go_ret2
    exact ⟨rfl, hb1.trans (hb2.mono hb1.size)⟩
  · have hC0 : Tr.check l = 0 := eq_of_beq hC
    have hs : Sh.shown l = Sh.rules l l.length := by unfold Sh.shown; rw [if_pos hC0]
    obtain ⟨h12, hok⟩ := Sh.check_ok hC0
    have hbd := Sh.rules_bound (fun i hi => (hok i hi).2) l.length (Nat.le_refl _)
    rw [hs, hC0]
    have HC := Check_any l (.slice ao l.length ca) _ hV1
    rw [hC0] at HC
    clear hs hC hC0
    go_enter Tryz.func24, Tryz.ntmps24
    go_wp2_with fail
    refine HC.mono ?_
    rintro e w2 ⟨rfl, hb2⟩
    have hX2 := (hb2.block _ (heap_lt hX1)).trans hX1
    have hbw2 := hb1.trans (hb2.mono hb1.size)
    go_upto_region 5 with fail
    have hI0 : PI w (w2.alloc (.cells #[.slice none 0 0] 107)) w2.heap.size [] :=
      ⟨hbw2.alloc hbw2.size _, ⟨.slice none 0 0, heap_alloc_new w2 _, World.ownsRow_nil _ _ _ _⟩, hbw2.size, by simp; have := hbw2.size; omega⟩
    have hX3 : (w2.alloc (.cells #[.slice none 0 0] 107)).heap[w.heap.size]? = some (.cells #[.slice ao l.length ca] 36) := (((Below.refl w2.heap.size w2).alloc (Nat.le_refl _) _).block _ (heap_lt hX2)).trans hX2
    generalize w2.alloc (.cells #[.slice none 0 0] 107) = w3 at *
    generalize w2.heap.size = P at *
    have c3 : w3.cell? ⟨w.heap.size, 0, none⟩ = some (.slice ao l.length ca) := by rw [Lib.cell_of_heap hX3]; rfl
    clear hX1 hX2 hX3 hb1 hb2 hbw2 c1 HC hV1
    go_wp2_with fail
    go_loopw [18] (fun i wr => ∃ k : Nat, k ≤ l.length ∧ i = .int .i64 k ∧ PI w wr P (Sh.rules l k)) (fun i _ => l.length - (intOf i).toNat)
    case atStart => exact ⟨0, Nat.zero_le _, rfl, hI0⟩
    case round =>
      obtain ⟨k, hk, rfl, hI⟩ := hrel
      clear hI0 c3
      by_cases hlt : k < l.length
      · have hdk : decide (k < l.length) = true := decide_eq_true hlt
        rcases hV' with h0 | ⟨b, off, rfl, hc⟩
        · rw [h0] at hlt; simp at hlt
        obtain ⟨a0, a1, ⟨va, a2, hTa⟩, a3, ua, a4, hLa⟩ := hc k hlt
        replace a0 := cell_below hI.bel a0
        replace a1 := cell_below hI.bel a1
        replace a2 := cell_below hI.bel a2
        replace a3 := cell_below hI.bel a3
        replace a4 := cell_below hI.bel a4
        obtain ⟨hrk, hrl⟩ := hok k hlt
        have hle := Sh.rules_bound (fun i hi => (hok i hi).2) k hk
        have hST : Sh.rules l (k + 1) = Sh.rules l k ++ Sh.rule (Tr.ruleD l k) := by rw [Sh.rules]
        have HST : Hid _ := hST
        clear hc hok hST
        generalize Tr.ruleD l k = t at *
        obtain ⟨aot, cat, rfl, hTa'⟩ := hTa
        have hTa : TermsV w (.slice aot t.terms.length cat) t.terms := ⟨aot, cat, rfl, hTa'⟩
        obtain ⟨aol, cal, rfl, hLa'⟩ := hLa
        have hLa : LitsV w (.slice aol t.body.length cal) t.body := ⟨aol, cal, rfl, hLa'⟩
        clear hTa' hLa'
        have hb1 : Below wr.heap.size wr (wr.alloc (rulObj t (.slice aot t.terms.length cat) (.slice aol t.body.length cal))) := (Below.refl _ _).alloc (Nat.le_refl _) _
        have hI1 := hI.below hb1
        have hX1 := heap_alloc_new wr (rulObj t (.slice aot t.terms.length cat) (.slice aol t.body.length cal))
        go_upto_region 8 with fail
        generalize wr.alloc (rulObj t (.slice aot t.terms.length cat) (.slice aol t.body.length cal)) = w4 at *
        generalize wr.heap.size = X at *
        obtain ⟨x0, x1, x2, x3, x4⟩ := rul_cells hX1
        have HA := shRule_any w P _ t _ _ w4 hTa hLa hI1 hrk hp (by omega)
        clear a0 a1 a2 a3 a4 hb1
        go_wp2_with fail
        refine HA.mono ?_
        rintro e w5 ⟨rfl, hI5, _⟩
        go_wp2_with fail
        go_roundw
        case rel => exact ⟨k + 1, by omega, by go_num, by rw [HST.out]; exact hI5⟩
        case measure => simp [intOf]; omega
      · have hdk : decide (k < l.length) = false := decide_eq_false hlt
        obtain rfl : k = l.length := by omega
        have HW := whole_any w P _ wr hI
        clear hV'
        go_wp2_with fail
        refine HW.mono ?_
        rintro e w5 ⟨rfl, rfl⟩
        go_wp2_with fail
        go_ret2
        exact ⟨rfl, hI.bel⟩

end Go.Proofs.YtgpaleifhcdjnaaGreatDoor

/- Package show: Same. -/
namespace Go.Proofs.YtgpaleifhcdjnaaGreatDoor
open Go.RowKit

set_option maxRecDepth 100000 in
set_option maxHeartbeats 1000000 in
theorem equalTerms_loop (la lb : List Tr.Term) (w : World) (n ca cb ba oa bb ob : Nat) (hna : la.length = n) (hnb : lb.length = n) (hmax : n ≤ 9223372036854775807)
    (hA : ∀ i, i < n → TermIn w ba (oa + i * 2) (Tr.termD la i)) (hB : ∀ i, i < n → TermIn w bb (ob + i * 2) (Tr.termD lb i)) :
    Calls Tryz.prog 111 #[.slice (some ⟨ba, oa, none⟩) n ca, .slice (some ⟨bb, ob, none⟩) n cb] w fun e w' => e = .returned (.bool (Tr.termsEq la lb)) ∧ ∃ k, w' = w.drewN k := by
  have HA : Hid (la.length = n) := hna
  have HB : Hid (lb.length = n) := hnb
  clear hna hnb
  have hne : ((n : Int) != (n : Int)) = false := by simp
  go_enter Tryz.func111, Tryz.ntmps111
  go_wp2
  go_loopw [13] (fun i wr => ∃ k nq : Nat, k ≤ n ∧ i = .int .i64 k ∧ Tr.termsEq la lb = Tr.termsEq (la.drop k) (lb.drop k) ∧ wr = w.drewN nq) (fun i _ => n - (intOf i).toNat)
  case atStart => exact ⟨0, 0, Nat.zero_le _, rfl, rfl, rfl⟩
  case round =>
    obtain ⟨k, nq, hk, rfl, hsame, rfl⟩ := hrel
    have HS : Hid (Tr.termsEq la lb = Tr.termsEq (la.drop k) (lb.drop k)) := hsame
    clear hsame
    by_cases hlt : k < n
    · obtain ⟨a0, a1⟩ := hA k hlt
      obtain ⟨b0, b1⟩ := hB k hlt
      have HD : Hid (Tr.termsEq la lb = (Tr.termEq (Tr.termD la k) (Tr.termD lb k) && Tr.termsEq (la.drop (k + 1)) (lb.drop (k + 1)))) := by
        show _ = _
        rw [HS.out]
        exact Tr.listEq_drop _ _ _ _ _ (by rw [HA.out]; exact hlt) (by rw [HB.out]; exact hlt)
      clear hA hB HS
      generalize Tr.termD la k = x at *
      generalize Tr.termD lb k = y at *
      cases h1 : (x.var == y.var)
      · have HV : Hid (Tr.termsEq la lb = false) := by show _ = _; rw [HD.out, Tr.termEq, h1]; rfl
        clear HD
        go_wp2_with fail
        go_quiet (fail)
        go_wp2
        go_ret
        exact ⟨ret_bool HV.out.symm, _, drewN_two _ _ _⟩
      · cases h2 : (x.n == y.n)
        · have HV : Hid (Tr.termsEq la lb = false) := by show _ = _; rw [HD.out, Tr.termEq, h1, h2]; rfl
          clear HD
          go_wp2_with fail
          go_quiet (fail)
          go_wp2
          go_ret
          exact ⟨ret_bool HV.out.symm, _, drewN_two _ _ _⟩
        · have HV : Hid (Tr.termsEq la lb = Tr.termsEq (la.drop (k + 1)) (lb.drop (k + 1))) := by show _ = _; rw [HD.out, Tr.termEq, h1, h2]; rfl
          clear HD
          go_wp2_with fail
          go_quiet (fail)
          go_wp2
          go_roundw
          case rel => exact ⟨k + 1, _, by omega, by go_num, HV.out, rfl⟩
          case measure => simp [intOf]; omega
    · have HV : Hid (Tr.termsEq la lb = true) := by
        show _ = _
        rw [HS.out, List.drop_of_length_le (by rw [HA.out]; omega), List.drop_of_length_le (by rw [HB.out]; omega)]
        rfl
      clear HS hA hB
      go_wp2_with fail
      go_ret
      exact ⟨ret_bool HV.out.symm, _, rfl⟩

set_option maxRecDepth 100000 in
set_option maxHeartbeats 400000 in
theorem equalTerms_diff (w : World) (ao bo : Option Addr) (n m ca cb : Nat) (h : ¬ n = m) :
    Calls Tryz.prog 111 #[.slice ao n ca, .slice bo m cb] w fun e w' => e = .returned (.bool false) ∧ ∃ k, w' = w.drewN k := by
  have hne : ((n : Int) != (m : Int)) = true := bne_iff_ne.2 (by omega)
  go_enter Tryz.func111, Tryz.ntmps111
  go_wp2
  go_ret
  exact ⟨rfl, 0, rfl⟩

set_option maxRecDepth 100000 in
set_option maxHeartbeats 400000 in
theorem equalTerms_none (w : World) (ao bo : Option Addr) (ca cb : Nat) :
    Calls Tryz.prog 111 #[.slice ao 0 ca, .slice bo 0 cb] w fun e w' => e = .returned (.bool true) ∧ ∃ k, w' = w.drewN k := by
  go_enter Tryz.func111, Tryz.ntmps111
  go_wp2
  refine wp_loop_rounds 1 ?_
  rw [rounds_succ]
  go_wp2
  go_ret
  exact ⟨rfl, 0, rfl⟩

/-- slices.Equal, whatever lists it is handed. -/
theorem equalTerms_any (la lb : List Tr.Term) (w : World) (va vb : Value) (hA : TermsV w va la) (hB : TermsV w vb lb) (hmax : la.length ≤ 9223372036854775807) :
    Calls Tryz.prog 111 #[va, vb] w fun e w' => e = .returned (.bool (Tr.termsEq la lb)) ∧ ∃ k, w' = w.drewN k := by
  obtain ⟨ao, ca, rfl, hA⟩ := hA
  obtain ⟨bo, cb, rfl, hB⟩ := hB
  by_cases h : la.length = lb.length
  · rcases hA with rfl | ⟨b, off, rfl, hA⟩
    · have hl : lb = [] := List.eq_nil_of_length_eq_zero h.symm
      subst hl
      exact equalTerms_none w ao bo ca cb
    · rcases hB with rfl | ⟨b', off', rfl, hB⟩
      · have hl : la = [] := List.eq_nil_of_length_eq_zero h
        subst hl
        exact equalTerms_none w _ bo ca cb
      · rw [← h]
        exact equalTerms_loop la lb w la.length ca cb b off b' off' rfl h.symm hmax hA (by rw [h]; exact hB)
  · rw [show Tr.termsEq la lb = false from Tr.listEq_len _ la lb h]
    exact equalTerms_diff w ao bo _ _ ca cb h


set_option maxRecDepth 100000 in
set_option maxHeartbeats 1000000 in
theorem sameLit_any (x y : Tr.Lit) (v u : Value) (w : World) (hA : TermsV w v x.terms) (hB : TermsV w u y.terms) (hmax : x.terms.length ≤ 9223372036854775807) :
    Calls Tryz.prog 113 #[litVal x v, litVal y u] w fun e w' => e = .returned (.bool (Tr.litEq false x y)) ∧ Below w.heap.size w w' := by
  obtain ⟨ao, ca, rfl, hA'⟩ := hA
  obtain ⟨bo, cb, rfl, hB'⟩ := hB
  have hb2 : ∀ o1 o2, Below w.heap.size w ((w.alloc o1).alloc o2) := fun o1 o2 => ((Below.refl _ _).alloc (Nat.le_refl _) _).alloc (by simp) _
  have HC : Hid (∀ w1, Below w.heap.size w w1 → Calls Tryz.prog 111 #[.slice ao x.terms.length ca, .slice bo y.terms.length cb] w1 fun e w' => e = .returned (.bool (Tr.termsEq x.terms y.terms)) ∧ ∃ k, w' = w1.drewN k) :=
    fun w1 hb => equalTerms_any x.terms y.terms w1 _ _ (termsV_below ⟨ao, ca, rfl, hA'⟩ hb) (termsV_below ⟨bo, cb, rfl, hB'⟩ hb) hmax
  have hE : Tr.litEq false x y = ((x.kind == y.kind) && (x.op == y.op) && (x.name == y.name) && Tr.termsEq x.terms y.terms) := by
    unfold Tr.litEq
    cases h1 : (x.kind == y.kind) <;> cases h2 : (x.op == y.op) <;> cases h3 : (x.name == y.name) <;> cases h4 : Tr.termsEq x.terms y.terms <;> simp [bne, h1, h2]
  rw [hE]
  clear hA' hB' hE
  cases h1 : (x.kind == y.kind)
  · go_enter Tryz.func113, Tryz.ntmps113
    go_wp2
    go_ret
    exact ⟨rfl, hb2 _ _⟩
  · cases h2 : (x.op == y.op)
    · go_enter Tryz.func113, Tryz.ntmps113
      go_wp2
      go_ret
      exact ⟨rfl, hb2 _ _⟩
    · cases h3 : (x.name == y.name)
      · go_enter Tryz.func113, Tryz.ntmps113
        go_wp2
        go_ret
        exact ⟨rfl, hb2 _ _⟩
      · go_enter Tryz.func113, Tryz.ntmps113
        go_wp2_with fail
        refine Calls.mono (HC.out _ (hb2 _ _)) ?_
        rintro e w3 ⟨rfl, k3, rfl⟩
        go_wp2_with fail
        go_ret
        exact ⟨by simp, below_drewN (hb2 _ _) k3⟩

end Go.Proofs.YtgpaleifhcdjnaaGreatDoor

/- Package show: Same, whole. -/
namespace Go.Proofs.YtgpaleifhcdjnaaGreatDoor
open Go.RowKit

set_option maxRecDepth 100000 in
set_option maxHeartbeats 1000000 in
theorem equalLits_loop (la lb : List Tr.Lit) (w : World) (n ca cb ba oa bb ob : Nat) (hna : la.length = n) (hnb : lb.length = n) (hmax : n ≤ 9223372036854775807) (hF : FitsB la)
    (hA : ∀ i, i < n → LitIn w ba (oa + i * 5) (Tr.litD la i)) (hB : ∀ i, i < n → LitIn w bb (ob + i * 5) (Tr.litD lb i)) :
    Calls Tryz.prog 112 #[.slice (some ⟨ba, oa, none⟩) n ca, .slice (some ⟨bb, ob, none⟩) n cb, .func (.func 113) #[] #[]] w fun e w' => e = .returned (.bool (Tr.listEq (Tr.litEq false) la lb)) ∧ Below w.heap.size w w' := by
  have HA : Hid (la.length = n) := hna
  have HB : Hid (lb.length = n) := hnb
  have hF' : ∀ i, i < n → (Tr.litD la i).terms.length ≤ 9223372036854775807 := fun i hi => hF i (by omega)
  clear hna hnb hF
  have hne : ((n : Int) != (n : Int)) = false := by simp
  go_enter Tryz.func112, Tryz.ntmps112
  go_wp2_with fail
  go_loopw [17] (fun i wr => ∃ k : Nat, k ≤ n ∧ i = .int .i64 k ∧ Tr.listEq (Tr.litEq false) la lb = Tr.listEq (Tr.litEq false) (la.drop k) (lb.drop k) ∧ Below w.heap.size w wr) (fun i _ => n - (intOf i).toNat)
  case atStart => exact ⟨0, Nat.zero_le _, rfl, rfl, Below.refl _ _⟩
  case round =>
    obtain ⟨k, hk, rfl, hsame, hbr⟩ := hrel
    have HS : Hid (Tr.listEq (Tr.litEq false) la lb = Tr.listEq (Tr.litEq false) (la.drop k) (lb.drop k)) := hsame
    clear hsame
    by_cases hlt : k < n
    · have hdk : decide (k < n) = true := decide_eq_true hlt
      have hkI : (k : Int) < (n : Int) := by omega
      obtain ⟨a0, a1, a2, a3, va, a4, hTa⟩ := hA k hlt
      obtain ⟨b0, b1, b2, b3, vb, b4, hTb⟩ := hB k hlt
      have HD : Hid (Tr.listEq (Tr.litEq false) la lb = (Tr.litEq false (Tr.litD la k) (Tr.litD lb k) && Tr.listEq (Tr.litEq false) (la.drop (k + 1)) (lb.drop (k + 1)))) := by
        show _ = _
        rw [HS.out]
        exact Tr.listEq_drop _ _ _ _ _ (by rw [HA.out]; exact hlt) (by rw [HB.out]; exact hlt)
      have hmx := hF' k hlt
      replace a0 := cell_below hbr a0
      replace a1 := cell_below hbr a1
      replace a2 := cell_below hbr a2
      replace a3 := cell_below hbr a3
      replace a4 := cell_below hbr a4
      replace b0 := cell_below hbr b0
      replace b1 := cell_below hbr b1
      replace b2 := cell_below hbr b2
      replace b3 := cell_below hbr b3
      replace b4 := cell_below hbr b4
      clear hA hB HS hF'
      generalize Tr.litD la k = x at *
      generalize Tr.litD lb k = y at *
      obtain ⟨aoa, caa, rfl, hTa'⟩ := hTa
      obtain ⟨aob, cab, rfl, hTb'⟩ := hTb
      have hTa : TermsV w (.slice aoa x.terms.length caa) x.terms := ⟨aoa, caa, rfl, hTa'⟩
      have hTb : TermsV w (.slice aob y.terms.length cab) y.terms := ⟨aob, cab, rfl, hTb'⟩
      clear hTa' hTb'
      have hb2 : ∀ o1 o2, Below w.heap.size w ((wr.alloc o1).alloc o2) := fun o1 o2 => (hbr.alloc hbr.size _).alloc (by simp; have := hbr.size; omega) _
      have HC : Hid (∀ w1, Below w.heap.size w w1 → Calls Tryz.prog 113 #[litVal x (.slice aoa x.terms.length caa), litVal y (.slice aob y.terms.length cab)] w1 fun e w' => e = .returned (.bool (Tr.litEq false x y)) ∧ Below w1.heap.size w1 w') := fun w1 hb => sameLit_any x y _ _ w1 (termsV_below hTa hb) (termsV_below hTb hb) hmx
      have hltb : ∀ o1, bb < (wr.alloc o1).heap.size := fun o1 => by have := World.block_lt_of_cell? wr _ b0; simp; exact Nat.lt_succ_of_lt this
      have hltw : bb < wr.heap.size := World.block_lt_of_cell? wr _ b0
      go_wp2_with fail
      refine Calls.mono (HC.out _ (hb2 _ _)) ?_
      rintro e w3 ⟨rfl, hb3⟩
      have hbw3 := (hb2 (litObj x (.slice aoa x.terms.length caa)) (litObj y (.slice aob y.terms.length cab))).trans (hb3.mono (hb2 _ _).size)
      cases hq : Tr.litEq false x y
      · have HV : Hid (Tr.listEq (Tr.litEq false) la lb = false) := by show _ = _; rw [HD.out, hq]; rfl
        clear HD
        go_wp2_with fail
        go_ret
        exact ⟨ret_bool HV.out.symm, hbw3⟩
      · have HV : Hid (Tr.listEq (Tr.litEq false) la lb = Tr.listEq (Tr.litEq false) (la.drop (k + 1)) (lb.drop (k + 1))) := by show _ = _; rw [HD.out, hq]; rfl
        clear HD
        go_wp2_with fail
        go_roundw
        case rel => exact ⟨k + 1, by omega, by go_num, HV.out, hbw3⟩
        case measure => simp [intOf]; omega
    · have hdk : decide (k < n) = false := decide_eq_false hlt
      have HV : Hid (Tr.listEq (Tr.litEq false) la lb = true) := by
        show _ = _
        rw [HS.out, List.drop_of_length_le (by rw [HA.out]; omega), List.drop_of_length_le (by rw [HB.out]; omega)]
        rfl
      clear HS hA hB
      go_wp2_with fail
      go_ret
      exact ⟨ret_bool HV.out.symm, hbr⟩

set_option maxRecDepth 100000 in
set_option maxHeartbeats 400000 in
theorem equalLits_diff (w : World) (ao bo : Option Addr) (n m ca cb : Nat) (h : ¬ n = m) :
    Calls Tryz.prog 112 #[.slice ao n ca, .slice bo m cb, .func (.func 113) #[] #[]] w fun e w' => e = .returned (.bool false) ∧ Below w.heap.size w w' := by
  have hne : ((n : Int) != (m : Int)) = true := bne_iff_ne.2 (by omega)
  go_enter Tryz.func112, Tryz.ntmps112
  go_wp2
  go_ret
  exact ⟨rfl, Below.refl _ _⟩

set_option maxRecDepth 100000 in
set_option maxHeartbeats 400000 in
theorem equalLits_none (w : World) (ao bo : Option Addr) (ca cb : Nat) :
    Calls Tryz.prog 112 #[.slice ao 0 ca, .slice bo 0 cb, .func (.func 113) #[] #[]] w fun e w' => e = .returned (.bool true) ∧ Below w.heap.size w w' := by
  go_enter Tryz.func112, Tryz.ntmps112
  go_wp2
  refine wp_loop_rounds 1 ?_
  rw [rounds_succ]
  go_wp2
  go_ret
  exact ⟨rfl, Below.refl _ _⟩

theorem equalLits_any (la lb : List Tr.Lit) (w : World) (va vb : Value) (hA : LitsV w va la) (hB : LitsV w vb lb) (hmax : la.length ≤ 9223372036854775807) (hF : FitsB la) :
    Calls Tryz.prog 112 #[va, vb, .func (.func 113) #[] #[]] w fun e w' => e = .returned (.bool (Tr.listEq (Tr.litEq false) la lb)) ∧ Below w.heap.size w w' := by
  obtain ⟨ao, ca, rfl, hA⟩ := hA
  obtain ⟨bo, cb, rfl, hB⟩ := hB
  by_cases h : la.length = lb.length
  · rcases hA with rfl | ⟨b, off, rfl, hA⟩
    · have hl : lb = [] := List.eq_nil_of_length_eq_zero h.symm
      subst hl
      exact equalLits_none w ao bo ca cb
    · rcases hB with rfl | ⟨b', off', rfl, hB⟩
      · have hl : la = [] := List.eq_nil_of_length_eq_zero h
        subst hl
        exact equalLits_none w _ bo ca cb
      · rw [← h]
        exact equalLits_loop la lb w la.length ca cb b off b' off' rfl h.symm hmax hF hA (by rw [h]; exact hB)
  · rw [Tr.listEq_len _ la lb h]
    exact equalLits_diff w ao bo _ _ ca cb h

end Go.Proofs.YtgpaleifhcdjnaaGreatDoor

/- Package show: Same, whole: rules. -/
namespace Go.Proofs.YtgpaleifhcdjnaaGreatDoor
open Go.RowKit

theorem ruleEq_same (a b : Tr.Rule) : Tr.ruleEq false a b = ((a.name == b.name) && (a.fold == b.fold) && Tr.termsEq a.terms b.terms && Tr.listEq (Tr.litEq false) a.body b.body) := by
  unfold Tr.ruleEq Tr.headEq
  by_cases h : a.body.length = b.body.length
  · have hl : ((a.body.length : Int) != (b.body.length : Int)) = false := by rw [h]; simp
    rw [hl]
    cases h1 : (a.name == b.name) <;> cases h2 : (a.fold == b.fold) <;> cases h3 : Tr.termsEq a.terms b.terms <;> simp [bne, h2]
  · rw [Tr.listEq_len _ _ _ h, Bool.and_false, Bool.and_false]

set_option maxRecDepth 100000 in
set_option maxHeartbeats 1000000 in
theorem sameRule_any (x y : Tr.Rule) (v u v' u' : Value) (w : World) (hA : TermsV w v x.terms) (hLA : LitsV w u x.body) (hB : TermsV w v' y.terms) (hLB : LitsV w u' y.body) (hmax : x.terms.length ≤ 9223372036854775807) (hmb : x.body.length ≤ 9223372036854775807) (hF : FitsB x.body) :
    Calls Tryz.prog 85 #[ruleVal x v u, ruleVal y v' u'] w fun e w' => e = .returned (.bool (Tr.ruleEq false x y)) ∧ Below w.heap.size w w' := by
  obtain ⟨ao, ca, rfl, hA'⟩ := hA
  obtain ⟨bo, cb, rfl, hB'⟩ := hB
  obtain ⟨co, cc, rfl, hLA'⟩ := hLA
  obtain ⟨d0, cd, rfl, hLB'⟩ := hLB
  have hb2 : ∀ o1 o2, Below w.heap.size w ((w.alloc o1).alloc o2) := fun o1 o2 => ((Below.refl _ _).alloc (Nat.le_refl _) _).alloc (by simp) _
  have HC : Hid (∀ w1, Below w.heap.size w w1 → Calls Tryz.prog 111 #[.slice ao x.terms.length ca, .slice bo y.terms.length cb] w1 fun e w' => e = .returned (.bool (Tr.termsEq x.terms y.terms)) ∧ ∃ k, w' = w1.drewN k) :=
    fun w1 hb => equalTerms_any x.terms y.terms w1 _ _ (termsV_below ⟨ao, ca, rfl, hA'⟩ hb) (termsV_below ⟨bo, cb, rfl, hB'⟩ hb) hmax
  have HL : Hid (∀ w1, Below w.heap.size w w1 → Calls Tryz.prog 112 #[.slice co x.body.length cc, .slice d0 y.body.length cd, .func (.func 113) #[] #[]] w1 fun e w' => e = .returned (.bool (Tr.listEq (Tr.litEq false) x.body y.body)) ∧ Below w1.heap.size w1 w') :=
    fun w1 hb => equalLits_any x.body y.body w1 _ _ (litsV_below ⟨co, cc, rfl, hLA'⟩ hb) (litsV_below ⟨d0, cd, rfl, hLB'⟩ hb) hmb hF
  rw [ruleEq_same]
  clear hA' hB' hLA' hLB'
  cases h1 : (x.name == y.name)
  · go_enter Tryz.func85, Tryz.ntmps85
    go_wp2
    go_ret
    exact ⟨rfl, hb2 _ _⟩
  · cases h2 : (x.fold == y.fold)
    · go_enter Tryz.func85, Tryz.ntmps85
      go_wp2
      go_ret
      exact ⟨rfl, hb2 _ _⟩
    · cases h3 : Tr.termsEq x.terms y.terms
      · rw [h3] at HC
        go_enter Tryz.func85, Tryz.ntmps85
        go_wp2_with fail
        refine Calls.mono (HC.out _ (hb2 _ _)) ?_
        rintro e w3 ⟨rfl, k3, rfl⟩
        go_wp2_with fail
        go_ret
        exact ⟨rfl, below_drewN (hb2 _ _) k3⟩
      · rw [h3] at HC
        go_enter Tryz.func85, Tryz.ntmps85
        go_wp2_with fail
        refine Calls.mono (HC.out _ (hb2 _ _)) ?_
        rintro e w3 ⟨rfl, k3, rfl⟩
        go_wp2_with fail
        refine Calls.mono (HL.out _ (below_drewN (hb2 _ _) k3)) ?_
        rintro e w4 ⟨rfl, hb4⟩
        go_wp2_with fail
        go_ret
        exact ⟨by simp, (below_drewN (hb2 _ _) k3).trans (hb4.mono (below_drewN (hb2 _ _) k3).size)⟩

set_option maxRecDepth 100000 in
set_option maxHeartbeats 1000000 in
theorem equalRules_loop (la lb : List Tr.Rule) (w : World) (n ca cb ba oa bb ob : Nat) (hna : la.length = n) (hnb : lb.length = n) (hmax : n ≤ 9223372036854775807) (hF : Fine la)
    (hA : ∀ i, i < n → RuleIn w ba (oa + i * 5) (Tr.ruleD la i)) (hB : ∀ i, i < n → RuleIn w bb (ob + i * 5) (Tr.ruleD lb i)) :
    Calls Tryz.prog 84 #[.slice (some ⟨ba, oa, none⟩) n ca, .slice (some ⟨bb, ob, none⟩) n cb, .func (.func 85) #[] #[]] w fun e w' => e = .returned (.bool (Tr.listEq (Tr.ruleEq false) la lb)) ∧ Below w.heap.size w w' := by
  have HA : Hid (la.length = n) := hna
  have HB : Hid (lb.length = n) := hnb
  have hF' : ∀ i, i < n → (Tr.ruleD la i).terms.length ≤ 9223372036854775807 ∧ (Tr.ruleD la i).body.length ≤ 9223372036854775807 ∧ FitsB (Tr.ruleD la i).body := fun i hi => hF.2 i (by omega)
  clear hna hnb hF
  have hne : ((n : Int) != (n : Int)) = false := by simp
  go_enter Tryz.func84, Tryz.ntmps84
  go_wp2_with fail
  go_loopw [17] (fun i wr => ∃ k : Nat, k ≤ n ∧ i = .int .i64 k ∧ Tr.listEq (Tr.ruleEq false) la lb = Tr.listEq (Tr.ruleEq false) (la.drop k) (lb.drop k) ∧ Below w.heap.size w wr) (fun i _ => n - (intOf i).toNat)
  case atStart => exact ⟨0, Nat.zero_le _, rfl, rfl, Below.refl _ _⟩
  case round =>
    obtain ⟨k, hk, rfl, hsame, hbr⟩ := hrel
    have HS : Hid (Tr.listEq (Tr.ruleEq false) la lb = Tr.listEq (Tr.ruleEq false) (la.drop k) (lb.drop k)) := hsame
    clear hsame
    by_cases hlt : k < n
    · have hdk : decide (k < n) = true := decide_eq_true hlt
      have hkI : (k : Int) < (n : Int) := by omega
      obtain ⟨a0, a1, ⟨va, a2, hTa⟩, a3, ua, a4, hLa⟩ := hA k hlt
      obtain ⟨b0, b1, ⟨vb, b2, hTb⟩, b3, ub, b4, hLb⟩ := hB k hlt
      have HD : Hid (Tr.listEq (Tr.ruleEq false) la lb = (Tr.ruleEq false (Tr.ruleD la k) (Tr.ruleD lb k) && Tr.listEq (Tr.ruleEq false) (la.drop (k + 1)) (lb.drop (k + 1)))) := by
        show _ = _
        rw [HS.out]
        exact Tr.listEq_drop _ _ _ _ _ (by rw [HA.out]; exact hlt) (by rw [HB.out]; exact hlt)
      have hmx := hF' k hlt
      replace a0 := cell_below hbr a0
      replace a1 := cell_below hbr a1
      replace a2 := cell_below hbr a2
      replace a3 := cell_below hbr a3
      replace a4 := cell_below hbr a4
      replace b0 := cell_below hbr b0
      replace b1 := cell_below hbr b1
      replace b2 := cell_below hbr b2
      replace b3 := cell_below hbr b3
      replace b4 := cell_below hbr b4
      clear hA hB HS hF'
      generalize Tr.ruleD la k = x at *
      generalize Tr.ruleD lb k = y at *
      obtain ⟨aoa, caa, rfl, hTa'⟩ := hTa
      obtain ⟨aob, cab, rfl, hTb'⟩ := hTb
      have hTa : TermsV w (.slice aoa x.terms.length caa) x.terms := ⟨aoa, caa, rfl, hTa'⟩
      have hTb : TermsV w (.slice aob y.terms.length cab) y.terms := ⟨aob, cab, rfl, hTb'⟩
      obtain ⟨aoc, cac, rfl, hLa'⟩ := hLa
      obtain ⟨aod, cad, rfl, hLb'⟩ := hLb
      have hLa : LitsV w (.slice aoc x.body.length cac) x.body := ⟨aoc, cac, rfl, hLa'⟩
      have hLb : LitsV w (.slice aod y.body.length cad) y.body := ⟨aod, cad, rfl, hLb'⟩
      clear hTa' hTb' hLa' hLb'
      have hb2 : ∀ o1 o2, Below w.heap.size w ((wr.alloc o1).alloc o2) := fun o1 o2 => (hbr.alloc hbr.size _).alloc (by simp; have := hbr.size; omega) _
      have HC : Hid (∀ w1, Below w.heap.size w w1 → Calls Tryz.prog 85 #[ruleVal x (.slice aoa x.terms.length caa) (.slice aoc x.body.length cac), ruleVal y (.slice aob y.terms.length cab) (.slice aod y.body.length cad)] w1 fun e w' => e = .returned (.bool (Tr.ruleEq false x y)) ∧ Below w1.heap.size w1 w') := fun w1 hb => sameRule_any x y _ _ _ _ w1 (termsV_below hTa hb) (litsV_below hLa hb) (termsV_below hTb hb) (litsV_below hLb hb) hmx.1 hmx.2.1 hmx.2.2
      have hltb : ∀ o1, bb < (wr.alloc o1).heap.size := fun o1 => by have := World.block_lt_of_cell? wr _ b0; simp; exact Nat.lt_succ_of_lt this
      have hltw : bb < wr.heap.size := World.block_lt_of_cell? wr _ b0
      go_wp2_with fail
      refine Calls.mono (HC.out _ (hb2 _ _)) ?_
      rintro e w3 ⟨rfl, hb3⟩
      have hbw3 := (hb2 (rulObj x (.slice aoa x.terms.length caa) (.slice aoc x.body.length cac)) (rulObj y (.slice aob y.terms.length cab) (.slice aod y.body.length cad))).trans (hb3.mono (hb2 _ _).size)
      cases hq : Tr.ruleEq false x y
      · have HV : Hid (Tr.listEq (Tr.ruleEq false) la lb = false) := by show _ = _; rw [HD.out, hq]; rfl
        clear HD
        go_wp2_with fail
        go_ret
        exact ⟨ret_bool HV.out.symm, hbw3⟩
      · have HV : Hid (Tr.listEq (Tr.ruleEq false) la lb = Tr.listEq (Tr.ruleEq false) (la.drop (k + 1)) (lb.drop (k + 1))) := by show _ = _; rw [HD.out, hq]; rfl
        clear HD
        go_wp2_with fail
        go_roundw
        case rel => exact ⟨k + 1, by omega, by go_num, HV.out, hbw3⟩
        case measure => simp [intOf]; omega
    · have hdk : decide (k < n) = false := decide_eq_false hlt
      have HV : Hid (Tr.listEq (Tr.ruleEq false) la lb = true) := by
        show _ = _
        rw [HS.out, List.drop_of_length_le (by rw [HA.out]; omega), List.drop_of_length_le (by rw [HB.out]; omega)]
        rfl
      clear HS hA hB
      go_wp2_with fail
      go_ret
      exact ⟨ret_bool HV.out.symm, hbr⟩

set_option maxRecDepth 100000 in
set_option maxHeartbeats 400000 in
theorem equalRules_diff (w : World) (ao bo : Option Addr) (n m ca cb : Nat) (h : ¬ n = m) :
    Calls Tryz.prog 84 #[.slice ao n ca, .slice bo m cb, .func (.func 85) #[] #[]] w fun e w' => e = .returned (.bool false) ∧ Below w.heap.size w w' := by
  have hne : ((n : Int) != (m : Int)) = true := bne_iff_ne.2 (by omega)
  go_enter Tryz.func84, Tryz.ntmps84
  go_wp2
  go_ret
  exact ⟨rfl, Below.refl _ _⟩

set_option maxRecDepth 100000 in
set_option maxHeartbeats 400000 in
theorem equalRules_none (w : World) (ao bo : Option Addr) (ca cb : Nat) :
    Calls Tryz.prog 84 #[.slice ao 0 ca, .slice bo 0 cb, .func (.func 85) #[] #[]] w fun e w' => e = .returned (.bool true) ∧ Below w.heap.size w w' := by
  go_enter Tryz.func84, Tryz.ntmps84
  go_wp2
  refine wp_loop_rounds 1 ?_
  rw [rounds_succ]
  go_wp2
  go_ret
  exact ⟨rfl, Below.refl _ _⟩

theorem equalRules_any (la lb : List Tr.Rule) (w : World) (va vb : Value) (hA : RulesV w va la) (hB : RulesV w vb lb) (hmax : la.length ≤ 9223372036854775807) (hF : Fine la) :
    Calls Tryz.prog 84 #[va, vb, .func (.func 85) #[] #[]] w fun e w' => e = .returned (.bool (Tr.listEq (Tr.ruleEq false) la lb)) ∧ Below w.heap.size w w' := by
  obtain ⟨ao, ca, rfl, hA⟩ := hA
  obtain ⟨bo, cb, rfl, hB⟩ := hB
  by_cases h : la.length = lb.length
  · rcases hA with rfl | ⟨b, off, rfl, hA⟩
    · have hl : lb = [] := List.eq_nil_of_length_eq_zero h.symm
      subst hl
      exact equalRules_none w ao bo ca cb
    · rcases hB with rfl | ⟨b', off', rfl, hB⟩
      · have hl : la = [] := List.eq_nil_of_length_eq_zero h
        subst hl
        exact equalRules_none w _ bo ca cb
      · rw [← h]
        exact equalRules_loop la lb w la.length ca cb b off b' off' rfl h.symm hmax hF hA (by rw [h]; exact hB)
  · rw [Tr.listEq_len _ la lb h]
    exact equalRules_diff w ao bo _ _ ca cb h


set_option maxRecDepth 100000 in
set_option maxHeartbeats 1000000 in
theorem Same_any (l m : List Tr.Rule) (w : World) (va vb : Value) (hA : RulesV w va l) (hB : RulesV w vb m) (hF : Fine l) :
    Calls Tryz.prog 48 #[.agg #[va], .agg #[vb]] w fun e w' => e = .returned (.bool (Tr.treeEq false l m)) ∧ Below w.heap.size w w' := by
  obtain ⟨ao, ca, rfl, hA'⟩ := hA
  obtain ⟨bo, cb, rfl, hB'⟩ := hB
  have hb2 : ∀ o1 o2, Below w.heap.size w ((w.alloc o1).alloc o2) := fun o1 o2 => ((Below.refl _ _).alloc (Nat.le_refl _) _).alloc (by simp) _
  have HL : Hid (∀ w1, Below w.heap.size w w1 → Calls Tryz.prog 84 #[.slice ao l.length ca, .slice bo m.length cb, .func (.func 85) #[] #[]] w1 fun e w' => e = .returned (.bool (Tr.treeEq false l m)) ∧ Below w1.heap.size w1 w') :=
    fun w1 hb => equalRules_any l m w1 _ _ (rulesV_below ⟨ao, ca, rfl, hA'⟩ hb) (rulesV_below ⟨bo, cb, rfl, hB'⟩ hb) hF.1 hF
  clear hA' hB'
  go_enter Tryz.func48, Tryz.ntmps48
  go_wp2_with fail
  refine Calls.mono (HL.out _ (hb2 _ _)) ?_
  rintro e w4 ⟨rfl, hb4⟩
  go_wp2_with fail
  go_ret
  exact ⟨rfl, (hb2 _ _).trans (hb4.mono (hb2 _ _).size)⟩

end Go.Proofs.YtgpaleifhcdjnaaGreatDoor

/- The document's answer: is a text just one token of a kind? -/
namespace Go.Proofs.YtgpaleifhcdjnaaGreatDoor
open Go.RowKit

set_option maxRecDepth 100000 in
set_option maxHeartbeats 400000 in
theorem refTok_empty (k : Int) (w : World) : Calls Tryz.prog 63 #[.int .i64 k, .string ⟨#[]⟩] w fun e w' => e = .returned (.bool false) ∧ w' = w := by
  go_enter Tryz.func63, Tryz.ntmps63
  go_wp2_with fail
  go_ret
  exact ⟨rfl, rfl⟩

set_option maxRecDepth 100000 in
set_option maxHeartbeats 400000 in
theorem refTok_long (k : Int) (s : ByteArray) (w : World) (h0 : s.toList.isEmpty = false) (hs : 5000 < s.size) : Calls Tryz.prog 63 #[.int .i64 k, .string s] w fun e w' => e = .returned (.bool false) ∧ w' = w := by
  go_enter Tryz.func63, Tryz.ntmps63
  go_wp2_with fail
  go_ret
  exact ⟨rfl, rfl⟩

set_option maxRecDepth 100000 in
set_option maxHeartbeats 400000 in
theorem refTok_zero (s : ByteArray) (w : World) (h0 : s.toList.isEmpty = false) (hs : s.size ≤ 5000) : Calls Tryz.prog 63 #[.int .i64 0, .string s] w fun e w' => e = .returned (.bool false) ∧ w' = w := by
  have hd : decide ((5000 : Int) < (s.size : Int)) = false := by simp; omega
  go_enter Tryz.func63, Tryz.ntmps63
  go_wp2_with fail
  go_ret
  exact ⟨rfl, rfl⟩

set_option maxRecDepth 100000 in
set_option maxHeartbeats 1000000 in
theorem refTok_off (s : ByteArray) (w : World) (h0 : s.toList.isEmpty = false) (hs : s.size ≤ 5000) (hpos : 0 < s.size) (k K : Int) (hk : (k == 0) = false) (g1 : (K == k) = false) (hR : refKind s.data.toList = K) :
    Calls Tryz.prog 63 #[.int .i64 k, .string s] w fun e w' => e = .returned (.bool false) ∧ w' = w := by
  have hd5 : decide ((5000 : Int) < (s.size : Int)) = false := by simp; omega
  have HA : Hid (Calls Tryz.prog 86 #[.string s, .int .i64 0] w fun e w' => e = .returned (.tuple #[.int .i64 K, .int .i64 (Tk.lenOf s.data.toList : Nat)]) ∧ w' = w) := by
    have h := refAt_any s 0 w (by omega) hpos
    rw [List.drop_zero, hR] at h
    exact h
  clear hR
  go_enter Tryz.func63, Tryz.ntmps63
  go_wp2_with fail
  refine Calls.mono HA.out ?_
  rintro e w1 ⟨rfl, rfl⟩
  go_wp2_with fail
  go_ret
  exact ⟨rfl, rfl⟩

set_option maxRecDepth 100000 in
set_option maxHeartbeats 1000000 in
theorem refTok_part (s : ByteArray) (w : World) (h0 : s.toList.isEmpty = false) (hs : s.size ≤ 5000) (hpos : 0 < s.size) (k K : Int) (hk : (k == 0) = false) (g1 : (K == k) = true) (g2 : ((Tk.lenOf s.data.toList : Int) == (s.size : Int)) = false) (hR : refKind s.data.toList = K) :
    Calls Tryz.prog 63 #[.int .i64 k, .string s] w fun e w' => e = .returned (.bool false) ∧ w' = w := by
  have hd5 : decide ((5000 : Int) < (s.size : Int)) = false := by simp; omega
  have HA : Hid (Calls Tryz.prog 86 #[.string s, .int .i64 0] w fun e w' => e = .returned (.tuple #[.int .i64 K, .int .i64 (Tk.lenOf s.data.toList : Nat)]) ∧ w' = w) := by
    have h := refAt_any s 0 w (by omega) hpos
    rw [List.drop_zero, hR] at h
    exact h
  clear hR
  go_enter Tryz.func63, Tryz.ntmps63
  go_wp2_with fail
  refine Calls.mono HA.out ?_
  rintro e w1 ⟨rfl, rfl⟩
  go_wp2_with fail
  go_ret
  exact ⟨rfl, rfl⟩

set_option maxRecDepth 100000 in
set_option maxHeartbeats 1000000 in
theorem refTok_long1 (s : ByteArray) (w : World) (h0 : s.toList.isEmpty = false) (hs : s.size ≤ 5000) (hpos : 0 < s.size) (g2 : ((Tk.lenOf s.data.toList : Int) == (s.size : Int)) = true) (hl : 12 < Tk.lenOf s.data.toList) (hR : refKind s.data.toList = 1) :
    Calls Tryz.prog 63 #[.int .i64 1, .string s] w fun e w' => e = .returned (.bool false) ∧ w' = w := by
  have hd5 : decide ((5000 : Int) < (s.size : Int)) = false := by simp; omega
  have HA : Hid (Calls Tryz.prog 86 #[.string s, .int .i64 0] w fun e w' => e = .returned (.tuple #[.int .i64 1, .int .i64 (Tk.lenOf s.data.toList : Nat)]) ∧ w' = w) := by
    have h := refAt_any s 0 w (by omega) hpos
    rw [List.drop_zero, hR] at h
    exact h
  clear hR
  have hd12 : decide ((12 : Int) < ((Tk.lenOf s.data.toList : Nat) : Int)) = true := by simp; omega
  go_enter Tryz.func63, Tryz.ntmps63
  go_wp2_with fail
  refine Calls.mono HA.out ?_
  rintro e w1 ⟨rfl, rfl⟩
  go_wp2_with fail
  go_ret
  exact ⟨rfl, rfl⟩

set_option maxRecDepth 100000 in
set_option maxHeartbeats 1000000 in
theorem refTok_yes1 (s : ByteArray) (w : World) (h0 : s.toList.isEmpty = false) (hs : s.size ≤ 5000) (hpos : 0 < s.size) (g2 : ((Tk.lenOf s.data.toList : Int) == (s.size : Int)) = true) (hl : Tk.lenOf s.data.toList ≤ 12) (hR : refKind s.data.toList = 1) :
    Calls Tryz.prog 63 #[.int .i64 1, .string s] w fun e w' => e = .returned (.bool true) ∧ w' = w := by
  have hd5 : decide ((5000 : Int) < (s.size : Int)) = false := by simp; omega
  have HA : Hid (Calls Tryz.prog 86 #[.string s, .int .i64 0] w fun e w' => e = .returned (.tuple #[.int .i64 1, .int .i64 (Tk.lenOf s.data.toList : Nat)]) ∧ w' = w) := by
    have h := refAt_any s 0 w (by omega) hpos
    rw [List.drop_zero, hR] at h
    exact h
  clear hR
  have hd12 : decide ((12 : Int) < ((Tk.lenOf s.data.toList : Nat) : Int)) = false := by simp; omega
  go_enter Tryz.func63, Tryz.ntmps63
  go_wp2_with fail
  refine Calls.mono HA.out ?_
  rintro e w1 ⟨rfl, rfl⟩
  go_wp2_with fail
  go_ret
  exact ⟨rfl, rfl⟩

set_option maxRecDepth 100000 in
set_option maxHeartbeats 1000000 in
theorem refTok_long2 (s : ByteArray) (w : World) (h0 : s.toList.isEmpty = false) (hs : s.size ≤ 5000) (hpos : 0 < s.size) (g2 : ((Tk.lenOf s.data.toList : Int) == (s.size : Int)) = true) (hl : 12 < Tk.lenOf s.data.toList) (hR : refKind s.data.toList = 2) :
    Calls Tryz.prog 63 #[.int .i64 2, .string s] w fun e w' => e = .returned (.bool false) ∧ w' = w := by
  have hd5 : decide ((5000 : Int) < (s.size : Int)) = false := by simp; omega
  have HA : Hid (Calls Tryz.prog 86 #[.string s, .int .i64 0] w fun e w' => e = .returned (.tuple #[.int .i64 2, .int .i64 (Tk.lenOf s.data.toList : Nat)]) ∧ w' = w) := by
    have h := refAt_any s 0 w (by omega) hpos
    rw [List.drop_zero, hR] at h
    exact h
  clear hR
  have hd12 : decide ((12 : Int) < ((Tk.lenOf s.data.toList : Nat) : Int)) = true := by simp; omega
  go_enter Tryz.func63, Tryz.ntmps63
  go_wp2_with fail
  refine Calls.mono HA.out ?_
  rintro e w1 ⟨rfl, rfl⟩
  go_wp2_with fail
  go_ret
  exact ⟨rfl, rfl⟩

set_option maxRecDepth 100000 in
set_option maxHeartbeats 1000000 in
theorem refTok_yes2 (s : ByteArray) (w : World) (h0 : s.toList.isEmpty = false) (hs : s.size ≤ 5000) (hpos : 0 < s.size) (g2 : ((Tk.lenOf s.data.toList : Int) == (s.size : Int)) = true) (hl : Tk.lenOf s.data.toList ≤ 12) (hR : refKind s.data.toList = 2) :
    Calls Tryz.prog 63 #[.int .i64 2, .string s] w fun e w' => e = .returned (.bool true) ∧ w' = w := by
  have hd5 : decide ((5000 : Int) < (s.size : Int)) = false := by simp; omega
  have HA : Hid (Calls Tryz.prog 86 #[.string s, .int .i64 0] w fun e w' => e = .returned (.tuple #[.int .i64 2, .int .i64 (Tk.lenOf s.data.toList : Nat)]) ∧ w' = w) := by
    have h := refAt_any s 0 w (by omega) hpos
    rw [List.drop_zero, hR] at h
    exact h
  clear hR
  have hd12 : decide ((12 : Int) < ((Tk.lenOf s.data.toList : Nat) : Int)) = false := by simp; omega
  go_enter Tryz.func63, Tryz.ntmps63
  go_wp2_with fail
  refine Calls.mono HA.out ?_
  rintro e w1 ⟨rfl, rfl⟩
  go_wp2_with fail
  go_ret
  exact ⟨rfl, rfl⟩

set_option maxRecDepth 100000 in
set_option maxHeartbeats 1000000 in
theorem refTok_long3 (s : ByteArray) (w : World) (h0 : s.toList.isEmpty = false) (hs : s.size ≤ 5000) (hpos : 0 < s.size) (g2 : ((Tk.lenOf s.data.toList : Int) == (s.size : Int)) = true) (hl : 7 < Tk.lenOf s.data.toList) (hR : refKind s.data.toList = 3) :
    Calls Tryz.prog 63 #[.int .i64 3, .string s] w fun e w' => e = .returned (.bool false) ∧ w' = w := by
  have hd5 : decide ((5000 : Int) < (s.size : Int)) = false := by simp; omega
  have HA : Hid (Calls Tryz.prog 86 #[.string s, .int .i64 0] w fun e w' => e = .returned (.tuple #[.int .i64 3, .int .i64 (Tk.lenOf s.data.toList : Nat)]) ∧ w' = w) := by
    have h := refAt_any s 0 w (by omega) hpos
    rw [List.drop_zero, hR] at h
    exact h
  clear hR
  have hd7 : decide ((7 : Int) < ((Tk.lenOf s.data.toList : Nat) : Int)) = true := by simp; omega
  go_enter Tryz.func63, Tryz.ntmps63
  go_wp2_with fail
  refine Calls.mono HA.out ?_
  rintro e w1 ⟨rfl, rfl⟩
  go_wp2_with fail
  go_ret
  exact ⟨rfl, rfl⟩

set_option maxRecDepth 100000 in
set_option maxHeartbeats 1000000 in
theorem refTok_form3 (s : ByteArray) (w : World) (h0 : s.toList.isEmpty = false) (hs : s.size ≤ 5000) (hpos : 0 < s.size) (g2 : ((Tk.lenOf s.data.toList : Int) == (s.size : Int)) = true) (hl : Tk.lenOf s.data.toList ≤ 7) (hl1 : 1 < Tk.lenOf s.data.toList) (h48 : ((s[0].toNat : Int) == 48) = true) (hR : refKind s.data.toList = 3) :
    Calls Tryz.prog 63 #[.int .i64 3, .string s] w fun e w' => e = .returned (.bool false) ∧ w' = w := by
  have hd5 : decide ((5000 : Int) < (s.size : Int)) = false := by simp; omega
  have HA : Hid (Calls Tryz.prog 86 #[.string s, .int .i64 0] w fun e w' => e = .returned (.tuple #[.int .i64 3, .int .i64 (Tk.lenOf s.data.toList : Nat)]) ∧ w' = w) := by
    have h := refAt_any s 0 w (by omega) hpos
    rw [List.drop_zero, hR] at h
    exact h
  clear hR
  have hd7 : decide ((7 : Int) < ((Tk.lenOf s.data.toList : Nat) : Int)) = false := by simp; omega
  have hd1 : decide ((1 : Int) < ((Tk.lenOf s.data.toList : Nat) : Int)) = true := by simp; omega
  go_enter Tryz.func63, Tryz.ntmps63
  go_wp2_with fail
  refine Calls.mono HA.out ?_
  rintro e w1 ⟨rfl, rfl⟩
  go_wp2_with fail
  go_ret
  exact ⟨rfl, rfl⟩

set_option maxRecDepth 100000 in
set_option maxHeartbeats 1000000 in
theorem refTok_yes3a (s : ByteArray) (w : World) (h0 : s.toList.isEmpty = false) (hs : s.size ≤ 5000) (hpos : 0 < s.size) (g2 : ((Tk.lenOf s.data.toList : Int) == (s.size : Int)) = true) (hl1 : Tk.lenOf s.data.toList ≤ 1) (hR : refKind s.data.toList = 3) :
    Calls Tryz.prog 63 #[.int .i64 3, .string s] w fun e w' => e = .returned (.bool true) ∧ w' = w := by
  have hd5 : decide ((5000 : Int) < (s.size : Int)) = false := by simp; omega
  have HA : Hid (Calls Tryz.prog 86 #[.string s, .int .i64 0] w fun e w' => e = .returned (.tuple #[.int .i64 3, .int .i64 (Tk.lenOf s.data.toList : Nat)]) ∧ w' = w) := by
    have h := refAt_any s 0 w (by omega) hpos
    rw [List.drop_zero, hR] at h
    exact h
  clear hR
  have hd7 : decide ((7 : Int) < ((Tk.lenOf s.data.toList : Nat) : Int)) = false := by simp; omega
  have hd1 : decide ((1 : Int) < ((Tk.lenOf s.data.toList : Nat) : Int)) = false := by simp; omega
  go_enter Tryz.func63, Tryz.ntmps63
  go_wp2_with fail
  refine Calls.mono HA.out ?_
  rintro e w1 ⟨rfl, rfl⟩
  go_wp2_with fail
  go_ret
  exact ⟨rfl, rfl⟩

set_option maxRecDepth 100000 in
set_option maxHeartbeats 1000000 in
theorem refTok_yes3b (s : ByteArray) (w : World) (h0 : s.toList.isEmpty = false) (hs : s.size ≤ 5000) (hpos : 0 < s.size) (g2 : ((Tk.lenOf s.data.toList : Int) == (s.size : Int)) = true) (hl : Tk.lenOf s.data.toList ≤ 7) (hl1 : 1 < Tk.lenOf s.data.toList) (h48 : ((s[0].toNat : Int) == 48) = false) (hR : refKind s.data.toList = 3) :
    Calls Tryz.prog 63 #[.int .i64 3, .string s] w fun e w' => e = .returned (.bool true) ∧ w' = w := by
  have hd5 : decide ((5000 : Int) < (s.size : Int)) = false := by simp; omega
  have HA : Hid (Calls Tryz.prog 86 #[.string s, .int .i64 0] w fun e w' => e = .returned (.tuple #[.int .i64 3, .int .i64 (Tk.lenOf s.data.toList : Nat)]) ∧ w' = w) := by
    have h := refAt_any s 0 w (by omega) hpos
    rw [List.drop_zero, hR] at h
    exact h
  clear hR
  have hd7 : decide ((7 : Int) < ((Tk.lenOf s.data.toList : Nat) : Int)) = false := by simp; omega
  have hd1 : decide ((1 : Int) < ((Tk.lenOf s.data.toList : Nat) : Int)) = true := by simp; omega
  go_enter Tryz.func63, Tryz.ntmps63
  go_wp2_with fail
  refine Calls.mono HA.out ?_
  rintro e w1 ⟨rfl, rfl⟩
  go_wp2_with fail
  go_ret
  exact ⟨rfl, rfl⟩

set_option maxRecDepth 100000 in
set_option maxHeartbeats 1000000 in
theorem refTok_yes4 (s : ByteArray) (w : World) (h0 : s.toList.isEmpty = false) (hs : s.size ≤ 5000) (hpos : 0 < s.size) (g2 : ((Tk.lenOf s.data.toList : Int) == (s.size : Int)) = true) (hR : refKind s.data.toList = 4) :
    Calls Tryz.prog 63 #[.int .i64 4, .string s] w fun e w' => e = .returned (.bool true) ∧ w' = w := by
  have hd5 : decide ((5000 : Int) < (s.size : Int)) = false := by simp; omega
  have HA : Hid (Calls Tryz.prog 86 #[.string s, .int .i64 0] w fun e w' => e = .returned (.tuple #[.int .i64 4, .int .i64 (Tk.lenOf s.data.toList : Nat)]) ∧ w' = w) := by
    have h := refAt_any s 0 w (by omega) hpos
    rw [List.drop_zero, hR] at h
    exact h
  clear hR
  go_enter Tryz.func63, Tryz.ntmps63
  go_wp2_with fail
  refine Calls.mono HA.out ?_
  rintro e w1 ⟨rfl, rfl⟩
  go_wp2_with fail
  go_ret
  exact ⟨rfl, rfl⟩

/-- IsToken, whatever it is handed. -/
theorem refTok_any (k : Int) (s : ByteArray) (w : World) : Calls Tryz.prog 63 #[.int .i64 k, .string s] w fun e w' => e = .returned (.bool (Tk.isTok k s.data.toList)) ∧ w' = w := by
  have hsz : s.data.toList.length = s.size := by simp
  by_cases hpos : 0 < s.size
  · have hd := drop_at s 0 hpos
    rw [List.drop_zero] at hd
    have h0 : s.toList.isEmpty = false := by rw [Lib.toList_data, hd]; rfl
    by_cases h5 : 5000 < s.size
    · have hV : Tk.isTok k s.data.toList = false := decide_eq_false (fun h => by omega)
      rw [hV]
      exact refTok_long k s w h0 h5
    · have TC := tok_cases s[0] (s.data.toList.drop (0 + 1))
      rw [← hd] at TC
      by_cases hk0 : k = 0
      · subst hk0
        have hV : Tk.isTok 0 s.data.toList = false := decide_eq_false (fun h => by
          obtain ⟨_, _, h3, h4, _⟩ := h
          rcases TC with ⟨c1, cE⟩ | ⟨c1, cK, c3, cE⟩ | ⟨c1, cK, c3, cE⟩ | ⟨c1, cK, c3, cE⟩ | ⟨c1, cK, c3, c4, c5, cE⟩ | ⟨c1, cK, c3, cE⟩ | ⟨c1, cK, c3, c4, c5, cE⟩ | ⟨c1, cK, cE⟩ <;> omega)
        rw [hV]
        exact refTok_zero s w h0 (by omega)
      · have hkb : (k == 0) = false := beq_eq_false_iff_ne.2 hk0
        have hRK : 1 ≤ Tk.lenOf s.data.toList → refKind s.data.toList = Tk.kindOf s.data.toList := fun h => by unfold refKind; rw [if_neg (by omega)]
        have hne : s.data.toList ≠ [] := by rw [hd]; simp
        by_cases hl0 : Tk.lenOf s.data.toList = 0
        · have hV : Tk.isTok k s.data.toList = false := decide_eq_false (fun h => by omega)
          rw [hV]
          exact refTok_off s w h0 (by omega) hpos k 0 hkb (beq_eq_false_iff_ne.2 (fun e => hk0 e.symm)) (by unfold refKind; rw [if_pos hl0])
        · have hR := hRK (by omega)
          by_cases hK : Tk.kindOf s.data.toList = k
          · by_cases hn : Tk.lenOf s.data.toList = s.size
            · have g2 : ((Tk.lenOf s.data.toList : Int) == (s.size : Int)) = true := beq_iff_eq.2 (by omega)
              subst hK
              have yes : Tk.errOf s.data.toList = 0 → Tk.isTok (Tk.kindOf s.data.toList) s.data.toList = true := fun he => decide_eq_true ⟨hne, by omega, he, rfl, by omega⟩
              have no : ¬ Tk.errOf s.data.toList = 0 → Tk.isTok (Tk.kindOf s.data.toList) s.data.toList = false := fun he => decide_eq_false (fun h => he h.2.2.1)
              rcases TC with ⟨c1, cE⟩ | ⟨c1, cK, c3, cE⟩ | ⟨c1, cK, c3, cE⟩ | ⟨c1, cK, c3, cE⟩ | ⟨c1, cK, c3, c4, c5, cE⟩ | ⟨c1, cK, c3, cE⟩ | ⟨c1, cK, c3, c4, c5, cE⟩ | ⟨c1, cK, cE⟩
              · exact absurd c1 hl0
              · rw [no (by omega)]
                rcases cK with cK | cK
                · rw [cK] at hR ⊢; exact refTok_long1 s w h0 (by omega) hpos g2 c3 hR
                · rw [cK] at hR ⊢; exact refTok_long2 s w h0 (by omega) hpos g2 c3 hR
              · rw [yes cE]
                rcases cK with cK | cK
                · rw [cK] at hR ⊢; exact refTok_yes1 s w h0 (by omega) hpos g2 c3 hR
                · rw [cK] at hR ⊢; exact refTok_yes2 s w h0 (by omega) hpos g2 c3 hR
              · rw [no (by omega), cK]; rw [cK] at hR; exact refTok_long3 s w h0 (by omega) hpos g2 c3 hR
              · rw [no (by omega), cK]; rw [cK] at hR; exact refTok_form3 s w h0 (by omega) hpos g2 c4 c3 (beq_iff_eq.2 c5) hR
              · rw [yes cE, cK]; rw [cK] at hR; exact refTok_yes3a s w h0 (by omega) hpos g2 c3 hR
              · rw [yes cE, cK]; rw [cK] at hR; exact refTok_yes3b s w h0 (by omega) hpos g2 c4 c3 (beq_eq_false_iff_ne.2 c5) hR
              · rw [yes cE, cK]; rw [cK] at hR; exact refTok_yes4 s w h0 (by omega) hpos g2 hR
            · have hV : Tk.isTok k s.data.toList = false := decide_eq_false (fun h => by omega)
              rw [hV]
              exact refTok_part s w h0 (by omega) hpos k _ hkb (beq_iff_eq.2 hK) (beq_eq_false_iff_ne.2 (by omega)) hR
          · have hV : Tk.isTok k s.data.toList = false := decide_eq_false (fun h => hK h.2.2.2.1)
            rw [hV]
            exact refTok_off s w h0 (by omega) hpos k _ hkb (beq_eq_false_iff_ne.2 hK) hR
  · have hz : s.data.toList = [] := List.eq_nil_of_length_eq_zero (by omega)
    have hse : s = ⟨#[]⟩ := by
      apply ByteArray.ext
      exact Array.eq_empty_of_size_eq_zero (by show s.size = 0; omega)
    rw [hz, hse]
    exact refTok_empty k w

end Go.Proofs.YtgpaleifhcdjnaaGreatDoor

