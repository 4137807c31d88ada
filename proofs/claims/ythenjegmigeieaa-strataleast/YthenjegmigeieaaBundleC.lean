/- Own texts, one behind the other (part 3). -/
import Derived.Test.YthenjegmigeieaaBundleB
import Derived.Test.YthenjegmigeieaaRows
import Derived.Lib.SliceRun
import Derived.Lib.LazyBuf
import Derived.Deep.OwnRows
import Derived.RangeFuncNested
import Derived.RangeFuncBound
import Derived.RangeFuncCalls
import Derived.RangeFuncLeaves
import Derived.Shelf.Abstract
import Derived.Shelf.RegionOpen
import Derived.WalkKit
import Derived.OwnWalkIn
import Derived.TacticsInMore
import Derived.LoopNIn
import Derived.LoopIn
import Derived.Maps.OwnSet
/- Rows that the parser makes: of terms, of literals, of rules. -/
namespace Go.Proofs.Ythenjegmigeieaa
open Go.RowKit

/-- A row of parts, each of k cells, in a block of its own at B or behind. -/
def RowP (B : Nat) (w : World) (e : TypeId) (k : Nat) (v : Value) (cs : List (List Value)) : Prop :=
  ∃ ao cap, v = .slice ao cs.length cap ∧ (cs = [] ∨ ∃ b cur, ao = some ⟨b, 0, none⟩ ∧ B ≤ b ∧ w.heap[b]? = some (.cells cur e (0, 0)) ∧ ∀ i c, cs[i]? = some c → ∀ j u, c[j]? = some u → w.cell? ⟨b, i * k + j, none⟩ = some u)

theorem flat_length (k : Nat) : ∀ cs : List (List Value), (∀ c, c ∈ cs → c.length = k) → cs.flatten.length = cs.length * k := by
  intro cs
  induction cs with
  | nil => intro _; simp
  | cons c r ih =>
    intro h
    rw [List.flatten_cons, List.length_append, ih (fun c hc => h c (List.mem_cons_of_mem _ hc)), h c List.mem_cons_self, List.length_cons, Nat.add_mul]
    omega
theorem flat_get (k : Nat) : ∀ (cs : List (List Value)), (∀ c, c ∈ cs → c.length = k) → ∀ i c j u, cs[i]? = some c → c[j]? = some u → cs.flatten[i * k + j]? = some u := by
  intro cs
  induction cs with
  | nil => intro _ i c j u h; simp at h
  | cons a r ih =>
    intro h i c j u hi hj
    have ha := h a List.mem_cons_self
    have hjk : j < c.length := by
      rcases Nat.lt_or_ge j c.length with h | h
      · exact h
      · rw [List.getElem?_eq_none h] at hj; cases hj
    rw [List.flatten_cons]
    cases i with
    | zero =>
      have hac : a = c := by simpa using hi
      subst hac
      rw [Nat.zero_mul, Nat.zero_add, List.getElem?_append_left hjk]
      exact hj
    | succ i =>
      rw [List.getElem?_append_right (by rw [ha, Nat.add_mul]; omega), ha, show (i + 1) * k + j - k = i * k + j from by rw [Nat.add_mul]; omega]
      exact ih (fun c hc => h c (List.mem_cons_of_mem _ hc)) i c j u (by simpa using hi) hj

theorem rowP_own {w : World} {base : Nat} {e : TypeId} {k : Nat} {v : Value} {cs : List (List Value)} (hl : ∀ c, c ∈ cs → c.length = k) (h : w.ownsRow base e k v cs.length cs.flatten) : RowP base w e k v cs := by
  rcases h.2 with ⟨hv, h0⟩ | ⟨g, cap, cur, hv, hg, hbk, r⟩
  · exact ⟨none, 0, by rw [hv, h0], .inl (List.eq_nil_of_length_eq_zero h0)⟩
  · refine ⟨some ⟨g, 0, none⟩, cap, hv, .inr ⟨g, cur, rfl, hg, hbk, fun i c hi j u hj => ?_⟩⟩
    subst hv
    have := h.cells (g := g) rfl _ _ (flat_get k cs hl i c j u hi hj)
    have hadd : ∀ k, ((⟨g, 0, none⟩ : Addr).add k) = ⟨g, 0 + k, none⟩ := fun _ => by simp [Addr.add]; exact fun h => h.symm
    rw [hadd] at this
    simpa using this

/-- Blocks of such rows are as they were. -/
def Keeps (B : Nat) (w w' : World) (E : TypeId → Prop) : Prop := ∀ b cur e fz, E e → B ≤ b → w.heap[b]? = some (.cells cur e fz) → w'.heap[b]? = w.heap[b]?
theorem Keeps.mono {B : Nat} {w w' : World} {E E' : TypeId → Prop} (h : Keeps B w w' E) (hE : ∀ e, E' e → E e) : Keeps B w w' E' := fun b cur e fz he hb hh => h b cur e fz (hE e he) hb hh
theorem Keeps.trans {B : Nat} {w w1 w' : World} {E : TypeId → Prop} (h : Keeps B w w1 E) (h1 : Keeps B w1 w' E) : Keeps B w w' E := fun b cur e fz he hb hh => (h1 b cur e fz he hb ((h b cur e fz he hb hh).trans hh)).trans (h b cur e fz he hb hh)
theorem heap_lt {w : World} {b : Nat} {o : Obj} (h : w.heap[b]? = some o) : b < w.heap.size := by
  rcases Nat.lt_or_ge b w.heap.size with h1 | h1
  · exact h1
  · rw [Array.getElem?_eq_none h1] at h; cases h
theorem keeps_grown {B P : Nat} {w w' : World} (E : TypeId → Prop) (h : w.grownBy w' (some P)) (hP : P < B) : Keeps B w w' E := fun b cur e fz _ hb hh => h.block b (heap_lt hh) (by intro h; injection h; omega)
theorem keeps_below {B : Nat} {w w' : World} (E : TypeId → Prop) (h : Below w.heap.size w w') : Keeps B w w' E := fun b _ _ _ _ _ hh => h.block b (heap_lt hh)
theorem keeps_set {B b : Nat} {w : World} (E : TypeId → Prop) (h : b < B) (o : Nat) (v : Value) : Keeps B w (w.setCell ⟨b, o, none⟩ v) E := fun b' _ _ _ _ hb _ => Below.heap_setCell _ _ _ _ (show ¬ b' = b by omega)
theorem keeps_own {B base k n : Nat} {w w' : World} {E : TypeId → Prop} {e1 : TypeId} {v : Value} {xs : List Value} (h : w.grownBy w' v.ownBlock) (hown : w.ownsRow base e1 k v n xs) (hE : ¬ E e1) : Keeps B w w' E := by
  intro b cur e fz he hb hh
  refine h.block b (heap_lt hh) ?_
  intro hv
  rcases hown.2 with ⟨rfl, h0⟩ | ⟨g, cap, cur', rfl, hg, hbk, r⟩
  · cases hv
  · have hbg : b = g := by simpa [Value.ownBlock] using hv
    subst hbg
    rw [hbk] at hh
    injection hh with hh
    injection hh with h1 h2 h3
    exact hE (h2 ▸ he)

theorem RowP.keep {B : Nat} {w w' : World} {E : TypeId → Prop} {e : TypeId} {k : Nat} {v : Value} {cs : List (List Value)} (h : RowP B w e k v cs) (hk : Keeps B w w' E) (he : E e) : RowP B w' e k v cs := by
  obtain ⟨ao, cap, hv, h⟩ := h
  refine ⟨ao, cap, hv, ?_⟩
  rcases h with h | ⟨b, cur, rfl, hb, hh, hc⟩
  · exact .inl h
  · have hs := hk b cur e (0, 0) he hb hh
    exact .inr ⟨b, cur, rfl, hb, hs.trans hh, fun i c hi j u hj => (World.cell?_of_block (a := ⟨b, _, none⟩) hs).trans (hc i c hi j u hj)⟩
theorem RowP.mono {B B' : Nat} {w : World} {e : TypeId} {k : Nat} {v : Value} {cs : List (List Value)} (h : RowP B w e k v cs) (hB : B' ≤ B) : RowP B' w e k v cs := by
  obtain ⟨ao, cap, hv, h⟩ := h
  refine ⟨ao, cap, hv, ?_⟩
  rcases h with h | ⟨b, cur, rfl, hb, hh, hc⟩
  · exact .inl h
  · exact .inr ⟨b, cur, rfl, Nat.le_trans hB hb, hh, hc⟩

def termCells (t : Tr.Term) : List Value := [.string ⟨t.var.toArray⟩, .int .i64 t.n]
def TermsP (B : Nat) (w : World) (v : Value) (l : List Tr.Term) : Prop := RowP B w 106 2 v (l.map termCells)
def litCells (x : Tr.Lit × Value) : List Value := [.int .i64 x.1.kind, .int .i64 x.1.at_, .int .i64 x.1.op, .string ⟨x.1.name.toArray⟩, x.2]
def LitsP (B : Nat) (w : World) (v : Value) (l : List Tr.Lit) : Prop := ∃ q : List (Tr.Lit × Value), q.map (·.1) = l ∧ RowP B w 100 5 v (q.map litCells) ∧ ∀ p, p ∈ q → TermsP B w p.2 p.1.terms
def ruleCells (x : Tr.Rule × Value × Value) : List Value := [.int .i64 x.1.at_, .string ⟨x.1.name.toArray⟩, x.2.1, .int .i64 x.1.fold, x.2.2]
def RulesP (B : Nat) (w : World) (v : Value) (l : List Tr.Rule) : Prop := ∃ q : List (Tr.Rule × Value × Value), q.map (·.1) = l ∧ RowP B w 85 5 v (q.map ruleCells) ∧ ∀ p, p ∈ q → TermsP B w p.2.1 p.1.terms ∧ LitsP B w p.2.2 p.1.body

theorem TermsP.keep {B : Nat} {w w' : World} {v : Value} {l : List Tr.Term} (h : TermsP B w v l) (hk : Keeps B w w' (· = 106)) : TermsP B w' v l := RowP.keep h hk rfl
theorem TermsP.mono {B B' : Nat} {w : World} {v : Value} {l : List Tr.Term} (h : TermsP B w v l) (hB : B' ≤ B) : TermsP B' w v l := RowP.mono h hB
theorem LitsP.keep {B : Nat} {w w' : World} {v : Value} {l : List Tr.Lit} (h : LitsP B w v l) (hk : Keeps B w w' (fun e => e = 106 ∨ e = 100)) : LitsP B w' v l := by
  obtain ⟨q, h1, h2, h3⟩ := h
  exact ⟨q, h1, h2.keep hk (.inr rfl), fun p hp => (h3 p hp).keep (hk.mono fun e he => .inl he)⟩
theorem LitsP.mono {B B' : Nat} {w : World} {v : Value} {l : List Tr.Lit} (h : LitsP B w v l) (hB : B' ≤ B) : LitsP B' w v l := by
  obtain ⟨q, h1, h2, h3⟩ := h
  exact ⟨q, h1, h2.mono hB, fun p hp => (h3 p hp).mono hB⟩

theorem row_get {B : Nat} {w : World} {e : TypeId} {k : Nat} {v : Value} {α : Type} {cells : α → List Value} {l : List α} (h : RowP B w e k v (l.map cells)) :
    ∃ ao cap, v = .slice ao l.length cap ∧ (l = [] ∨ ∃ b, ao = some ⟨b, 0, none⟩ ∧ ∀ i x, l[i]? = some x → ∀ j u, (cells x)[j]? = some u → w.cell? ⟨b, i * k + j, none⟩ = some u) := by
  obtain ⟨ao, cap, hv, h⟩ := h
  rw [List.length_map] at hv
  refine ⟨ao, cap, hv, ?_⟩
  rcases h with h | ⟨b, cur, rfl, hb, hh, hc⟩
  · exact .inl (by simpa using h)
  · exact .inr ⟨b, rfl, fun i x hi j u hj => hc i (cells x) (by rw [List.getElem?_map, hi]; rfl) j u hj⟩

theorem TermsP.toV {B : Nat} {w : World} {v : Value} {l : List Tr.Term} (h : TermsP B w v l) : TermsV w v l := by
  obtain ⟨ao, cap, hv, h⟩ := row_get h
  refine ⟨ao, cap, hv, ?_⟩
  rcases h with h | ⟨b, rfl, hc⟩
  · exact .inl h
  · refine .inr ⟨b, 0, rfl, fun i hi => ?_⟩
    have hx : l[i]? = some (Tr.termD l i) := by simp [Tr.termD, hi]
    rw [Nat.zero_add]
    exact ⟨hc i _ hx 0 _ rfl, hc i _ hx 1 _ rfl⟩
theorem LitsP.toV {B : Nat} {w : World} {v : Value} {l : List Tr.Lit} (h : LitsP B w v l) : LitsV w v l := by
  obtain ⟨q, rfl, h2, h3⟩ := h
  obtain ⟨ao, cap, hv, h⟩ := row_get h2
  refine ⟨ao, cap, by rw [hv, List.length_map], ?_⟩
  rcases h with h | ⟨b, rfl, hc⟩
  · exact .inl (by simp [h])
  · refine .inr ⟨b, 0, rfl, fun i hi => ?_⟩
    rw [List.length_map] at hi
    have hq : q[i]? = some q[i] := List.getElem?_eq_getElem hi
    have hx : Tr.litD (q.map (·.1)) i = q[i].1 := by simp [Tr.litD, hi]
    rw [Nat.zero_add, hx]
    exact ⟨hc i _ hq 0 _ rfl, hc i _ hq 1 _ rfl, hc i _ hq 2 _ rfl, hc i _ hq 3 _ rfl, q[i].2, hc i _ hq 4 _ rfl, (h3 _ (List.getElem_mem hi)).toV⟩
theorem RulesP.toV {B : Nat} {w : World} {v : Value} {l : List Tr.Rule} (h : RulesP B w v l) : RulesV w v l := by
  obtain ⟨q, rfl, h2, h3⟩ := h
  obtain ⟨ao, cap, hv, h⟩ := row_get h2
  refine ⟨ao, cap, by rw [hv, List.length_map], ?_⟩
  rcases h with h | ⟨b, rfl, hc⟩
  · exact .inl (by simp [h])
  · refine .inr ⟨b, 0, rfl, fun i hi => ?_⟩
    rw [List.length_map] at hi
    have hq : q[i]? = some q[i] := List.getElem?_eq_getElem hi
    have hx : Tr.ruleD (q.map (·.1)) i = q[i].1 := by simp [Tr.ruleD, hi]
    rw [Nat.zero_add, hx]
    have h4 := h3 _ (List.getElem_mem hi)
    exact ⟨hc i _ hq 0 _ rfl, hc i _ hq 1 _ rfl, ⟨q[i].2.1, hc i _ hq 2 _ rfl, h4.1.toV⟩, hc i _ hq 3 _ rfl, q[i].2.2, hc i _ hq 4 _ rfl, h4.2.toV⟩

end Go.Proofs.Ythenjegmigeieaa

/- Small facts on rows of one's own, and on worlds. -/
namespace Go.Proofs.Ythenjegmigeieaa
open Go.RowKit

theorem rl_lt {w : World} {b : Nat} {o : Obj} (h : w.heap[b]? = some o) : b < w.heap.size := by
  rcases Nat.lt_or_ge b w.heap.size with h2 | h2
  · exact h2
  · rw [Array.getElem?_eq_none h2] at h; cases h
theorem rl_new (w : World) (o : Obj) : (w.alloc o).heap[w.heap.size]? = some o := by show (w.heap.push o)[w.heap.size]? = some o; simp
theorem rl_cell_low {w0 y : World} {b o : Nat} {v : Value} (h : w0.cell? ⟨b, o, none⟩ = some v) (hl : ∀ k, k < w0.heap.size → y.heap[k]? = w0.heap[k]?) : y.cell? ⟨b, o, none⟩ = some v := (World.cell?_of_block (a := ⟨b, o, none⟩) (hl b (World.block_lt_of_cell? w0 _ h))).trans h
theorem rl_low_size {w0 y : World} (hl : ∀ k, k < w0.heap.size → y.heap[k]? = w0.heap[k]?) : w0.heap.size ≤ y.heap.size := by
  rcases Nat.eq_zero_or_pos w0.heap.size with h | h
  · omega
  · have h1 := hl (w0.heap.size - 1) (by omega)
    have h2 : w0.heap[w0.heap.size - 1]? = some w0.heap[w0.heap.size - 1] := Array.getElem?_eq_getElem (by omega)
    have := rl_lt (h1.trans h2)
    omega
theorem rl_own_alone {w w' : World} {B k n : Nat} {e : TypeId} {v : Value} {xs : List Value} (h : w.ownsRow B e k v n xs) (hk : ∀ g, v.ownBlock = some g → w'.heap[g]? = w.heap[g]?) : w'.ownsRow B e k v n xs := by
  obtain ⟨h1, h2⟩ := h
  refine ⟨h1, ?_⟩
  rcases h2 with h2 | ⟨g, cap, cur, rfl, hb, hh, r⟩
  · exact .inl h2
  · exact .inr ⟨g, cap, cur, rfl, hb, (hk g rfl).trans hh, r⟩
theorem rl_ints_low {w0 w : World} {v : Value} {l : List Int} (h : IntsV w0 v l) (hl : ∀ k, k < w0.heap.size → w.heap[k]? = w0.heap[k]?) : IntsV w v l := by
  obtain ⟨ao, cap, rfl, h⟩ := h
  refine ⟨ao, cap, rfl, ?_⟩
  rcases h with h | ⟨b, off, rfl, hc⟩
  · exact .inl h
  · exact .inr ⟨b, off, rfl, fun i hi => rl_cell_low (hc i hi) hl⟩

/-- A fact, and the value of its numbers' list. -/
abbrev Fv := Rl.Fc × Value
def fcCells (x : Fv) : List Value := [.int .i64 x.1.pred, x.2]
theorem fc_len (q : List Fv) : ∀ c, c ∈ q.map fcCells → c.length = 2 := by
  intro c hc
  obtain ⟨t, _, rfl⟩ := List.mem_map.mp hc
  rfl
theorem fc_at (q : List Fv) (t : Nat) (ht : t < q.length * 2) : ∃ x, q[t / 2]? = some x ∧ ((q.map fcCells).flatten)[t]? = (fcCells x)[t % 2]? := by
  have h1 : t / 2 < q.length := by omega
  refine ⟨q[t / 2], List.getElem?_eq_getElem h1, ?_⟩
  have h2 : (fcCells q[t / 2])[t % 2]? = some ((fcCells q[t / 2])[t % 2]'(by show _ < 2; omega)) := List.getElem?_eq_getElem _
  have := flat_get 2 (q.map fcCells) (fc_len q) (t / 2) (fcCells q[t / 2]) (t % 2) _ (by rw [List.getElem?_map, List.getElem?_eq_getElem h1]; rfl) h2
  rw [h2, ← this]
  congr 1
  omega
theorem fc_length (q : List Fv) : ((q.map fcCells).flatten).length = q.length * 2 := by
  rw [flat_length 2 _ (fc_len q), List.length_map]
section
variable {w w' : World} {B g cap : Nat} {q : List Fv}
theorem fc_set (q : List Fv) (i : Nat) (hi : i < q.length) (y : Fv) : ((((q.map fcCells).flatten).set (i * 2) (.int .i64 y.1.pred)).set (i * 2 + 1) y.2) = (((q.set i y).map fcCells).flatten) := by
  apply List.ext_getElem?
  intro t
  by_cases ht : t < q.length * 2
  · obtain ⟨x, hx, hx2⟩ := fc_at q t ht
    obtain ⟨z, hz, hz2⟩ := fc_at (q.set i y) t (by rw [List.length_set]; exact ht)
    rw [hz2]
    rw [List.getElem?_set] at hz
    rw [List.getElem?_set, List.getElem?_set, List.length_set, fc_length]
    by_cases hti : i = t / 2
    · rw [if_pos hti, if_pos (by omega)] at hz
      obtain rfl : y = z := by simpa using hz
      by_cases h0 : t % 2 = 0
      · have e1 : ¬ i * 2 + 1 = t := by omega
        have e2 : i * 2 = t := by omega
        rw [if_neg e1, if_pos e2, if_pos (by omega), h0]
        rfl
      · have h1 : t % 2 = 1 := by omega
        have e1 : i * 2 + 1 = t := by omega
        rw [if_pos e1, if_pos (by omega), h1]
        rfl
    · rw [if_neg hti, hx] at hz
      obtain rfl : x = z := by simpa using hz
      rw [if_neg (by omega), if_neg (by omega), hx2]
  · rw [List.getElem?_eq_none, List.getElem?_eq_none]
    · rw [fc_length, List.length_set]; omega
    · rw [List.length_set, List.length_set, fc_length]; omega
end

end Go.Proofs.Ythenjegmigeieaa

/- The library's sort, of facts in a row of one's own. -/
namespace Go.Proofs.Ythenjegmigeieaa
open Go.Shelf Go.RowKit Go.Lib Go.Sort

/-- A fact whose numbers can be read. -/
def FvOk (w : World) (x : Fv) : Prop := IntsV w x.2 x.1.args ∧ FFit x.1
abbrev FvS (w : World) := { x : Fv // FvOk w x }
theorem fvOk_nil (w : World) : FvOk w (⟨0, []⟩, .slice none 0 0) := ⟨⟨none, 0, rfl, .inl rfl⟩, by show ([] : List Int).length ≤ _; decide⟩
theorem fv_lift {w : World} : ∀ {q : List Fv}, (∀ p, p ∈ q → FvOk w p) → ∃ Q : List (FvS w), Q.map (·.1) = q := by
  intro q
  induction q with
  | nil => intro _; exact ⟨[], rfl⟩
  | cons a r ih =>
    intro h
    obtain ⟨Q, hQ⟩ := ih (fun p hp => h p (by simp [hp]))
    exact ⟨⟨a, h a (by simp)⟩ :: Q, by simp [hQ]⟩
abbrev fvInh (w : World) : Inhabited (FvS w) := ⟨⟨_, fvOk_nil w⟩⟩
def fvEnc {w : World} (x : FvS w) : List Value := fcCells x.1
def fvCmp {w : World} (x y : FvS w) : Int := Rl.ord x.1.1 y.1.1
theorem fv_swo (w : World) : SWO (ltOf (fvCmp (w := w))) where
  irrefl x := by unfold ltOf fvCmp; rw [Rl.ord_self]; decide
  trans x y z h1 h2 := by
    unfold ltOf fvCmp at *
    simp only [decide_eq_true_eq] at *
    exact Rl.ord_trans h1 h2
  ntrans x y z h1 h2 := by
    unfold ltOf fvCmp at *
    simp only [decide_eq_false_iff_not] at *
    intro h3
    rcases Rl.lt_or x.1.1 y.1.1 with h4 | h4 | h4
    · exact h1 h4
    · rw [h4] at h3; exact h2 h3
    · exact h2 (Rl.ord_trans h4 h3)
theorem fv_one {w : World} (x : FvS w) : ∀ v ∈ fvEnc x, v.oneCell' = true := by
  intro v hv
  obtain ⟨⟨⟨p, a⟩, u⟩, h⟩ := x
  obtain ⟨⟨ao, cap, hu, _⟩, _⟩ := h
  have hu : u = .slice ao a.length cap := hu
  subst hu
  simp [fvEnc, fcCells] at hv
  rcases hv with rfl | rfl <;> rfl
theorem sortWorldK_block {α : Type} [Inhabited α] (enc : α → List Value) (k : Nat) (w : World) (g m : Nat) (d : Array α) (os : Array Obj) (i : Nat) (hi : i < w.heap.size) (hne : ¬ i = g) : (sortWorldK enc k w g 0 m d os).heap[i]? = w.heap[i]? := by
  unfold sortWorldK putRowK putRow mapBlock Sort.ahead grow
  show ((w.heap.modify g _) ++ os)[i]? = _
  rw [Array.getElem?_append_left (by simpa using hi), Array.getElem?_modify, if_neg (fun e => hne e.symm)]
theorem sortWorldK_size {α : Type} [Inhabited α] (enc : α → List Value) (k : Nat) (w : World) (g m : Nat) (d : Array α) (os : Array Obj) : w.heap.size ≤ (sortWorldK enc k w g 0 m d os).heap.size := by
  unfold sortWorldK putRowK putRow mapBlock Sort.ahead grow
  show _ ≤ ((w.heap.modify g _) ++ os).size
  simp

end Go.Proofs.Ythenjegmigeieaa

/- Of facts in order those that are not as the one ahead; plain. -/
namespace Go.Proofs.Ythenjegmigeieaa
namespace Rl

def ddGo (p : Fc) : List Fv → List Fv
  | [] => []
  | x :: r => if ord x.1 p = 0 then ddGo x.1 r else x :: ddGo x.1 r
def dd : List Fv → List Fv
  | [] => []
  | x :: r => x :: ddGo x.1 r
def lastF (p : Fc) : List Fv → Fc
  | [] => p
  | x :: r => lastF x.1 r
theorem ddGo_snoc : ∀ (l : List Fv) (p : Fc) (x : Fv), ddGo p (l ++ [x]) = if ord x.1 (lastF p l) = 0 then ddGo p l else ddGo p l ++ [x] := by
  intro l
  induction l with
  | nil => intro p x; by_cases h : ord x.1 p = 0 <;> simp [ddGo, lastF, h]
  | cons y r ih =>
    intro p x
    have hi := ih y.1 x
    by_cases h : ord y.1 p = 0
    · by_cases h2 : ord x.1 (lastF y.1 r) = 0
      · rw [if_pos h2] at hi
        simp [ddGo, lastF, h, h2, hi]
      · rw [if_neg h2] at hi
        simp [ddGo, lastF, h, h2, hi]
    · by_cases h2 : ord x.1 (lastF y.1 r) = 0
      · rw [if_pos h2] at hi
        simp [ddGo, lastF, h, h2, hi]
      · rw [if_neg h2] at hi
        simp [ddGo, lastF, h, h2, hi]
theorem lastF_get : ∀ (l : List Fv) (p : Fc) (y : Fv), l.getLast? = some y → lastF p l = y.1 := by
  intro l
  induction l with
  | nil => intro p y h; cases h
  | cons x r ih =>
    intro p y h
    cases r with
    | nil =>
      simp at h
      rw [← h]
      rfl
    | cons z r =>
      rw [List.getLast?_cons_cons] at h
      exact ih x.1 y h
theorem dd_snoc (l : List Fv) (x y : Fv) (h : l.getLast? = some y) : dd (l ++ [x]) = if ord x.1 y.1 = 0 then dd l else dd l ++ [x] := by
  cases l with
  | nil => cases h
  | cons a r =>
    simp only [List.cons_append, dd, ddGo_snoc]
    have hl : lastF a.1 r = y.1 := by
      cases r with
      | nil => simp at h; rw [← h]; rfl
      | cons b r =>
        rw [List.getLast?_cons_cons] at h
        exact lastF_get (b :: r) a.1 y h
    rw [hl]
    by_cases h2 : ord x.1 y.1 = 0
    · rw [if_pos h2, if_pos h2]
    · rw [if_neg h2, if_neg h2]
theorem dd_take (q : List Fv) (m : Nat) (x y : Fv) (h1 : 1 ≤ m) (hx : q[m]? = some x) (hy : q[m - 1]? = some y) : dd (q.take (m + 1)) = if ord x.1 y.1 = 0 then dd (q.take m) else dd (q.take m) ++ [x] := by
  rw [List.take_add_one, hx]
  refine dd_snoc (q.take m) x y ?_
  have hm : m ≤ q.length := by
    rcases Nat.lt_or_ge m q.length with h | h
    · omega
    · rw [List.getElem?_eq_none h] at hx; cases hx
  rw [List.getLast?_eq_getElem?, List.length_take, Nat.min_eq_left hm, List.getElem?_take, if_pos (by omega)]
  exact hy
theorem ddGo_sub : ∀ (l : List Fv) (p : Fc) (x : Fv), x ∈ ddGo p l → x ∈ l := by
  intro l
  induction l with
  | nil => intro p x h; exact h
  | cons y r ih =>
    intro p x h
    simp only [ddGo] at h
    split at h
    · exact List.mem_cons_of_mem _ (ih _ _ h)
    · rcases List.mem_cons.mp h with rfl | h
      · simp
      · exact List.mem_cons_of_mem _ (ih _ _ h)
theorem dd_sub (l : List Fv) (x : Fv) (h : x ∈ dd l) : x ∈ l := by
  cases l with
  | nil => exact h
  | cons a r =>
    rcases List.mem_cons.mp h with rfl | h
    · simp
    · exact List.mem_cons_of_mem _ (ddGo_sub _ _ _ h)
theorem dd_length (l : List Fv) : (dd l).length ≤ l.length := by
  have h : ∀ (l : List Fv) (p : Fc), (ddGo p l).length ≤ l.length := by
    intro l
    induction l with
    | nil => intro p; exact Nat.le_refl _
    | cons y r ih =>
      intro p
      simp only [ddGo]
      split
      · have := ih y.1; simp; omega
      · have := ih y.1; simp; omega
  cases l with
  | nil => exact Nat.le_refl _
  | cons a r => simp only [dd, List.length_cons]; have := h r a.1; omega
theorem ddGo_set : ∀ (l : List Fv) (p : Fc), (∀ x, x ∈ l → ¬ Lt x.1 p) → (l.map (·.1)).Pairwise (fun a b => ¬ Lt b a) →
    Up ((ddGo p l).map (·.1)) ∧ (∀ x, x ∈ (ddGo p l).map (·.1) → Lt p x) ∧ ∀ x, x ∈ l.map (·.1) → x = p ∨ x ∈ (ddGo p l).map (·.1) := by
  intro l
  induction l with
  | nil => intro p _ _; exact ⟨List.Pairwise.nil, fun x h => by simp [ddGo] at h, fun x h => by simp at h⟩
  | cons y r ih =>
    intro p hp hs
    rw [List.map_cons, List.pairwise_cons] at hs
    obtain ⟨i1, i2, i3⟩ := ih y.1 (fun x hx => hs.1 x.1 (List.mem_map.mpr ⟨x, hx, rfl⟩)) hs.2
    simp only [ddGo]
    by_cases h : ord y.1 p = 0
    · rw [if_pos h]
      rw [ord_zero] at h
      refine ⟨i1, fun x hx => by rw [← h]; exact i2 x hx, fun x hx => ?_⟩
      rw [List.map_cons] at hx
      rcases List.mem_cons.mp hx with hx | hx
      · exact .inl (hx.trans h)
      · rcases i3 x hx with h2 | h2
        · exact .inl (h2.trans h)
        · exact .inr h2
    · rw [if_neg h]
      have hlt : Lt p y.1 := by
        rcases lt_or p y.1 with h2 | h2 | h2
        · exact h2
        · exact absurd (ord_zero.mpr h2.symm) h
        · exact absurd h2 (hp y (by simp))
      rw [List.map_cons]
      refine ⟨List.pairwise_cons.mpr ⟨i2, i1⟩, fun x hx => ?_, fun x hx => ?_⟩
      · rcases List.mem_cons.mp hx with rfl | hx
        · exact hlt
        · exact hlt.trans (i2 x hx)
      · rw [List.map_cons] at hx
        rcases List.mem_cons.mp hx with hx | hx
        · exact .inr (by simp [hx])
        · rcases i3 x hx with h2 | h2
          · exact .inr (by simp [h2])
          · exact .inr (List.mem_cons_of_mem _ h2)
theorem dd_set (l : List Fv) (h : (l.map (·.1)).Pairwise (fun a b => ¬ Lt b a)) : IsSet ((dd l).map (·.1)) (l.map (·.1)) := by
  cases l with
  | nil => exact ⟨List.Pairwise.nil, fun x => Iff.rfl⟩
  | cons a r =>
    rw [List.map_cons, List.pairwise_cons] at h
    obtain ⟨i1, i2, i3⟩ := ddGo_set r a.1 (fun x hx => h.1 x.1 (List.mem_map.mpr ⟨x, hx, rfl⟩)) h.2
    refine ⟨?_, fun x => ⟨fun hx => ?_, fun hx => ?_⟩⟩
    · show Up (a.1 :: (ddGo a.1 r).map (·.1))
      exact List.pairwise_cons.mpr ⟨i2, i1⟩
    · obtain ⟨y, hy, rfl⟩ := List.mem_map.mp hx
      exact List.mem_map.mpr ⟨y, dd_sub _ _ hy, rfl⟩
    · rw [List.map_cons] at hx
      show x ∈ a.1 :: (ddGo a.1 r).map (·.1)
      rcases List.mem_cons.mp hx with hx | hx
      · simp [hx]
      · rcases i3 x hx with h2 | h2
        · simp [h2]
        · exact List.mem_cons_of_mem _ h2
end Rl

end Go.Proofs.Ythenjegmigeieaa

/- The library's CompactFunc, of facts in a row of one's own. -/
namespace Go.Proofs.Ythenjegmigeieaa
open Go.RowKit Go.Lib

theorem own_sets {B e k n g cap : Nat} : ∀ (vs : List Value) (o : Nat) (w : World) (xs : List Value), w.ownsRow B e k (.slice (some ⟨g, 0, none⟩) n cap) n xs →
    ∃ ys, ys.length = xs.length ∧ (∀ j, j < o → ys[j]? = xs[j]?) ∧ (w.setCells g o vs).ownsRow B e k (.slice (some ⟨g, 0, none⟩) n cap) n ys ∧ w.grownBy (w.setCells g o vs) (some g) := by
  intro vs
  induction vs with
  | nil => intro o w xs h; exact ⟨xs, rfl, fun _ _ => rfl, h, rfl, rfl, rfl, Nat.le_refl _, fun _ _ _ => rfl⟩
  | cons v r ih =>
    intro o w xs h
    obtain ⟨h1, h2⟩ := World.ownsRow.stored h o v
    obtain ⟨ys, a1, a2, a3, a4⟩ := ih (o + 1) _ _ h1
    refine ⟨ys, by rw [a1, List.length_set], fun j hj => ?_, a3, ⟨a4.os.trans h2.os, a4.tape.trans h2.tape, a4.output.trans h2.output, Nat.le_trans h2.size a4.size, fun i hi hne => (a4.block i (Nat.lt_of_lt_of_le hi h2.size) hne).trans (h2.block i hi hne)⟩⟩
    rw [a2 j (by omega), List.getElem?_set, if_neg (by omega)]
theorem get_lt {q : List Fv} {i : Nat} (h : i < q.length) : ∃ x, q[i]? = some x ∧ x ∈ q := ⟨q[i], List.getElem?_eq_getElem h, List.getElem_mem h⟩

end Go.Proofs.Ythenjegmigeieaa

/- The library's Clone, of numbers. -/
namespace Go.Proofs.Ythenjegmigeieaa
open Go.RowKit

theorem rl_info3 : (Try.prog.info? 3).map (fun i => (i.zero, i.size, i.bytes)) = some (some (.int .i64 0), 1, 8) := by kernel_rfl

set_option maxRecDepth 100000 in
set_option maxHeartbeats 1000000 in
theorem cloneI_any (l : List Int) (v : Value) (w : World) (hV : IntsV w v l) (hl : l.length ≤ 1048576) :
    Calls Try.prog 15 #[v] w fun e w' => ∃ v', e = .returned v' ∧ w'.ownsRow w.heap.size 3 1 v' l.length (l.map (Value.int .i64)) ∧ Below w.heap.size w w' := by
  obtain ⟨i0, hi, hz0, hz1, hz2⟩ := info_parts rl_info3
  obtain ⟨ao, cap, rfl, hA⟩ := hV
  have q22 : ∀ (w : World) (a : Option Addr) (n c : Nat), (binOp .eql 22 (.slice a n c) (.slice none 0 0)).run Try.prog w = .ok (.bool a.isNone) w := fun w a n c => Lib.run_eql_slice_nil w 22 3 a n c 0 0 Try.underlying22
  have u22 : ∀ w, Sem.run Try.prog (underlying 22) w = .ok (TypeDesc.slice 3) w := run_underlying Try.underlying22
  have HA : Hid (IntsAt w ao l) := hA
  clear hA
  cases ao with
  | none =>
    have hl0 : l = [] := by
      rcases HA.out with h | ⟨b, off, h, _⟩
      · exact h
      · cases h
    subst hl0
    go_enter Try.func15, Try.ntmps15
    go_wp2_with fail
    go_ret
    exact ⟨_, rfl, World.ownsRow_nil _ _ _ _, Below.refl _ _⟩
  | some a =>
    obtain ⟨b, off, hao⟩ : ∃ b off, l = [] ∨ a = ⟨b, off, none⟩ := by
      rcases HA.out with h | ⟨b, off, h, _⟩
      · exact ⟨0, 0, .inl h⟩
      · exact ⟨b, off, .inr (Option.some.inj h)⟩
    have HC : Hid (∀ j u, (l.map (Value.int .i64))[j]? = some u → w.cell? (a.add j) = some u) := by
      intro j u hj
      rcases HA.out with h | ⟨b, off, h, hc⟩
      · rw [h] at hj; simp at hj
      · have ha := Option.some.inj h
        have hjl : j < l.length := by
          rcases Nat.lt_or_ge j l.length with h2 | h2
          · exact h2
          · rw [List.getElem?_eq_none (by simpa using h2)] at hj; cases hj
        rw [List.getElem?_map, List.getElem?_eq_getElem hjl] at hj
        have hu : Value.int .i64 l[j] = u := by simpa using hj
        rw [← hu, ha]
        have h3 := hc j hjl
        have h4 : Sc.intD l j = l[j] := by simp [Sc.intD, hjl]
        rw [h4] at h3
        rw [Addr.add_lit]
        exact h3
    clear HA
    go_enter Try.func15, Try.ntmps15
    go_wp2_with (at_builtin; refine wpList_append_own _ rfl _ _ 22 rfl w.heap.size 3 i0 _ 1 8 Try.underlying22 hi hz0 hz1 hz2 rfl (by decide) _ _ _ rfl (World.ownsRow_made w #[] 0 (Nat.le_refl _) (Nat.zero_le _) (by simp)) a l.length cap (l.map (Value.int .i64)) rfl ?qc1 ?qc2 ?qc3 ?qc4 ?qc5 ?qc6 ?_)
    case qc1 => rw [List.length_map, Nat.mul_one]
    case qc2 =>
      intro j u hj
      exact Lib.cell?_alloc_some _ (HC.out j u hj)
    case qc3 =>
      intro u hu
      obtain ⟨x, _, rfl⟩ := List.mem_map.mp hu
      rfl
    case qc4 => unfold maxLen; omega
    case qc5 => omega
    case qc6 => simp
    intro v' w1 hown hgrow hnil
    obtain ⟨ao9, cap9, rfl⟩ := own_slice hown
    have HB : Hid (Below w.heap.size w w1) := ((Below.refl _ w).alloc (Nat.le_refl _) _).grown hgrow (by simp) (by intro k hk; simp [Value.ownBlock] at hk; omega)
    have HO : Hid _ := hown
    clear hown hgrow hnil HC
    go_wp2_with fail
    go_ret
    exact ⟨_, rfl, HO.out, HB.out⟩

end Go.Proofs.Ythenjegmigeieaa

/- The library's Clone: of texts, of terms, of literals. -/
namespace Go.Proofs.Ythenjegmigeieaa
open Go.RowKit

theorem cl_info9 : (Try.prog.info? 9).map (fun i => (i.zero, i.size, i.bytes)) = some (some (.string ByteArray.empty), 1, 16) := by kernel_rfl
set_option maxRecDepth 100000 in
set_option maxHeartbeats 1000000 in
theorem cloneS_nil (n cap : Nat) (w : World) : Calls Try.prog 16 #[.slice none n cap] w fun e w' => e = .returned (.slice none 0 0) ∧ Below w.heap.size w w' := by
  have q22 : ∀ (w : World) (a : Option Addr) (n c : Nat), (binOp .eql 23 (.slice a n c) (.slice none 0 0)).run Try.prog w = .ok (.bool a.isNone) w := fun w a n c => Lib.run_eql_slice_nil w 23 9 a n c 0 0 Try.underlying23
  go_enter Try.func16, Try.ntmps16
  go_wp2_with fail
  go_ret
  exact ⟨rfl, Below.refl _ _⟩
set_option maxRecDepth 100000 in
set_option maxHeartbeats 1000000 in
theorem cloneS_some (a : Addr) (n cap : Nat) (cells : List Value) (w : World) (hlen : cells.length = n * 1) (hc : ∀ j u, cells[j]? = some u → w.cell? (a.add j) = some u) (h1 : ∀ u, u ∈ cells → u.oneCell' = true) (hn : n ≤ 1048576) :
    Calls Try.prog 16 #[.slice (some a) n cap] w fun e w' => ∃ v', e = .returned v' ∧ w'.ownsRow w.heap.size 9 1 v' n cells ∧ Below w.heap.size w w' := by
  obtain ⟨i0, hi, hz0, hz1, hz2⟩ := info_parts cl_info9
  have q22 : ∀ (w : World) (a : Option Addr) (n c : Nat), (binOp .eql 23 (.slice a n c) (.slice none 0 0)).run Try.prog w = .ok (.bool a.isNone) w := fun w a n c => Lib.run_eql_slice_nil w 23 9 a n c 0 0 Try.underlying23
  have u22 : ∀ w, Sem.run Try.prog (underlying 23) w = .ok (TypeDesc.slice 9) w := run_underlying Try.underlying23
  have HC : Hid _ := hc
  have H1 : Hid _ := h1
  have HLN : Hid _ := hlen
  clear hc h1 hlen
  go_enter Try.func16, Try.ntmps16
  go_wp2_with (at_builtin; refine wpList_append_own _ rfl _ _ 23 rfl w.heap.size 9 i0 _ 1 16 Try.underlying23 hi hz0 hz1 hz2 rfl (by decide) _ _ _ rfl (World.ownsRow_made w #[] 0 (Nat.le_refl _) (Nat.zero_le _) (by simp)) a n cap cells rfl ?qc1 ?qc2 ?qc3 ?qc4 ?qc5 ?qc6 ?_)
  case qc1 => exact HLN.out
  case qc2 =>
    intro j u hj
    exact Lib.cell?_alloc_some _ (HC.out j u hj)
  case qc3 =>
    intro u hu
    exact H1.out u hu
  case qc4 => unfold maxLen; omega
  case qc5 => omega
  case qc6 => simp
  intro v' w1 hown hgrow hnil
  obtain ⟨ao9, cap9, rfl⟩ := own_slice hown
  have HB : Hid (Below w.heap.size w w1) := ((Below.refl _ w).alloc (Nat.le_refl _) _).grown hgrow (by simp) (by intro k hk; simp [Value.ownBlock] at hk; omega)
  have HO : Hid _ := hown
  clear hown hgrow hnil HC
  go_wp2_with fail
  go_ret
  exact ⟨_, rfl, HO.out, HB.out⟩

theorem cl_info95 : (Try.prog.info? 57).map (fun i => (i.zero, i.size, i.bytes)) = some (some (.agg #[.int .i64 0, .int .i64 0]), 2, 16) := by kernel_rfl
set_option maxRecDepth 100000 in
set_option maxHeartbeats 1000000 in
theorem cloneT_nil (n cap : Nat) (w : World) : Calls Try.prog 27 #[.slice none n cap] w fun e w' => e = .returned (.slice none 0 0) ∧ Below w.heap.size w w' := by
  have q22 : ∀ (w : World) (a : Option Addr) (n c : Nat), (binOp .eql 45 (.slice a n c) (.slice none 0 0)).run Try.prog w = .ok (.bool a.isNone) w := fun w a n c => Lib.run_eql_slice_nil w 45 57 a n c 0 0 Try.underlying45
  go_enter Try.func27, Try.ntmps27
  go_wp2_with fail
  go_ret
  exact ⟨rfl, Below.refl _ _⟩
set_option maxRecDepth 100000 in
set_option maxHeartbeats 1000000 in
theorem cloneT_some (a : Addr) (n cap : Nat) (cells : List Value) (w : World) (hlen : cells.length = n * 2) (hc : ∀ j u, cells[j]? = some u → w.cell? (a.add j) = some u) (h1 : ∀ u, u ∈ cells → u.oneCell' = true) (hn : n ≤ 1048576) :
    Calls Try.prog 27 #[.slice (some a) n cap] w fun e w' => ∃ v', e = .returned v' ∧ w'.ownsRow w.heap.size 57 2 v' n cells ∧ Below w.heap.size w w' := by
  obtain ⟨i0, hi, hz0, hz1, hz2⟩ := info_parts cl_info95
  have q22 : ∀ (w : World) (a : Option Addr) (n c : Nat), (binOp .eql 45 (.slice a n c) (.slice none 0 0)).run Try.prog w = .ok (.bool a.isNone) w := fun w a n c => Lib.run_eql_slice_nil w 45 57 a n c 0 0 Try.underlying45
  have u22 : ∀ w, Sem.run Try.prog (underlying 45) w = .ok (TypeDesc.slice 57) w := run_underlying Try.underlying45
  have HC : Hid _ := hc
  have H1 : Hid _ := h1
  have HLN : Hid _ := hlen
  clear hc h1 hlen
  go_enter Try.func27, Try.ntmps27
  go_wp2_with (at_builtin; refine wpList_append_own _ rfl _ _ 45 rfl w.heap.size 57 i0 _ 2 16 Try.underlying45 hi hz0 hz1 hz2 rfl (by decide) _ _ _ rfl (World.ownsRow_made w #[] 0 (Nat.le_refl _) (Nat.zero_le _) (by simp)) a n cap cells rfl ?qc1 ?qc2 ?qc3 ?qc4 ?qc5 ?qc6 ?_)
  case qc1 => exact HLN.out
  case qc2 =>
    intro j u hj
    exact Lib.cell?_alloc_some _ (HC.out j u hj)
  case qc3 =>
    intro u hu
    exact H1.out u hu
  case qc4 => unfold maxLen; omega
  case qc5 => omega
  case qc6 => simp
  intro v' w1 hown hgrow hnil
  obtain ⟨ao9, cap9, rfl⟩ := own_slice hown
  have HB : Hid (Below w.heap.size w w1) := ((Below.refl _ w).alloc (Nat.le_refl _) _).grown hgrow (by simp) (by intro k hk; simp [Value.ownBlock] at hk; omega)
  have HO : Hid _ := hown
  clear hown hgrow hnil HC
  go_wp2_with fail
  go_ret
  exact ⟨_, rfl, HO.out, HB.out⟩

theorem cl_info71 : (Try.prog.info? 52).map (fun i => (i.zero, i.size, i.bytes)) = some (some (.agg #[.int .i64 0, .int .i64 0, .int .i64 0, .slice none 0 0]), 4, 48) := by kernel_rfl
set_option maxRecDepth 100000 in
set_option maxHeartbeats 1000000 in
theorem cloneL_nil (n cap : Nat) (w : World) : Calls Try.prog 28 #[.slice none n cap] w fun e w' => e = .returned (.slice none 0 0) ∧ Below w.heap.size w w' := by
  have q22 : ∀ (w : World) (a : Option Addr) (n c : Nat), (binOp .eql 46 (.slice a n c) (.slice none 0 0)).run Try.prog w = .ok (.bool a.isNone) w := fun w a n c => Lib.run_eql_slice_nil w 46 52 a n c 0 0 Try.underlying46
  go_enter Try.func28, Try.ntmps28
  go_wp2_with fail
  go_ret
  exact ⟨rfl, Below.refl _ _⟩
set_option maxRecDepth 100000 in
set_option maxHeartbeats 1000000 in
theorem cloneL_some (a : Addr) (n cap : Nat) (cells : List Value) (w : World) (hlen : cells.length = n * 4) (hc : ∀ j u, cells[j]? = some u → w.cell? (a.add j) = some u) (h1 : ∀ u, u ∈ cells → u.oneCell' = true) (hn : n ≤ 1048576) :
    Calls Try.prog 28 #[.slice (some a) n cap] w fun e w' => ∃ v', e = .returned v' ∧ w'.ownsRow w.heap.size 52 4 v' n cells ∧ Below w.heap.size w w' := by
  obtain ⟨i0, hi, hz0, hz1, hz2⟩ := info_parts cl_info71
  have q22 : ∀ (w : World) (a : Option Addr) (n c : Nat), (binOp .eql 46 (.slice a n c) (.slice none 0 0)).run Try.prog w = .ok (.bool a.isNone) w := fun w a n c => Lib.run_eql_slice_nil w 46 52 a n c 0 0 Try.underlying46
  have u22 : ∀ w, Sem.run Try.prog (underlying 46) w = .ok (TypeDesc.slice 52) w := run_underlying Try.underlying46
  have HC : Hid _ := hc
  have H1 : Hid _ := h1
  have HLN : Hid _ := hlen
  clear hc h1 hlen
  go_enter Try.func28, Try.ntmps28
  go_wp2_with (at_builtin; refine wpList_append_own _ rfl _ _ 46 rfl w.heap.size 52 i0 _ 4 48 Try.underlying46 hi hz0 hz1 hz2 rfl (by decide) _ _ _ rfl (World.ownsRow_made w #[] 0 (Nat.le_refl _) (Nat.zero_le _) (by simp)) a n cap cells rfl ?qc1 ?qc2 ?qc3 ?qc4 ?qc5 ?qc6 ?_)
  case qc1 => exact HLN.out
  case qc2 =>
    intro j u hj
    exact Lib.cell?_alloc_some _ (HC.out j u hj)
  case qc3 =>
    intro u hu
    exact H1.out u hu
  case qc4 => unfold maxLen; omega
  case qc5 => omega
  case qc6 => simp
  intro v' w1 hown hgrow hnil
  obtain ⟨ao9, cap9, rfl⟩ := own_slice hown
  have HB : Hid (Below w.heap.size w w1) := ((Below.refl _ w).alloc (Nat.le_refl _) _).grown hgrow (by simp) (by intro k hk; simp [Value.ownBlock] at hk; omega)
  have HO : Hid _ := hown
  clear hown hgrow hnil HC
  go_wp2_with fail
  go_ret
  exact ⟨_, rfl, HO.out, HB.out⟩

end Go.Proofs.Ythenjegmigeieaa


/- Numbers that are raised along edges, round by round: they settle in as many rounds as there are numbers, or never; and are then the least. -/
namespace Go.Proofs.Ythenjegmigeieaa
namespace Fx

abbrev Edge := Nat × Nat × Int
def step (l : List Int) (e : Edge) : List Int := if l.getD e.1 0 < l.getD e.2.1 0 + e.2.2 then l.set e.1 (l.getD e.2.1 0 + e.2.2) else l
def round (E : List Edge) (l : List Int) : List Int := E.foldl step l
def iter (E : List Edge) : Nat → List Int → List Int
  | 0, l => l
  | k + 1, l => iter E k (round E l)
def Le (l o : List Int) : Prop := l.length = o.length ∧ ∀ i : Nat, l.getD i 0 ≤ o.getD i 0
def Fit (E : List Edge) (o : List Int) : Prop := ∀ e, e ∈ E → o.getD e.2.1 0 + e.2.2 ≤ o.getD e.1 0
def In (E : List Edge) (n : Nat) : Prop := ∀ e, e ∈ E → e.1 < n

theorem Le.refl (l : List Int) : Le l l := ⟨rfl, fun _ => Int.le_refl _⟩
theorem Le.trans {a b c : List Int} (h : Le a b) (k : Le b c) : Le a c := ⟨h.1.trans k.1, fun i => Int.le_trans (h.2 i) (k.2 i)⟩
theorem Le.anti {a b : List Int} (h : Le a b) (k : Le b a) : a = b := by
  refine List.ext_getElem h.1 fun i h1 h2 => ?_
  have := Int.le_antisymm (h.2 i) (k.2 i)
  rw [List.getD_eq_getElem?_getD, List.getD_eq_getElem?_getD, List.getElem?_eq_getElem h1, List.getElem?_eq_getElem h2] at this
  exact this
theorem getD_set (l : List Int) (h i : Nat) (v : Int) : (l.set h v).getD i 0 = if i = h ∧ h < l.length then v else l.getD i 0 := by
  rw [List.getD_eq_getElem?_getD, List.getElem?_set, List.getD_eq_getElem?_getD]
  by_cases hi : h = i
  · subst hi
    by_cases hl : h < l.length
    · simp [hl]
    · simp [hl]
  · rw [if_neg hi, if_neg (fun h => hi h.1.symm)]
theorem step_le (l : List Int) (e : Edge) : Le l (step l e) := by
  unfold step
  split
  · rename_i h
    refine ⟨by simp, fun i => ?_⟩
    rw [getD_set]
    split
    · rename_i h2; rw [h2.1]; omega
    · exact Int.le_refl _
  · exact Le.refl l
theorem step_length (l : List Int) (e : Edge) : (step l e).length = l.length := (step_le l e).1.symm
theorem round_le : ∀ (E : List Edge) (l : List Int), Le l (round E l)
  | [], l => Le.refl l
  | e :: E, l => (step_le l e).trans (round_le E (step l e))
theorem round_length (E : List Edge) (l : List Int) : (round E l).length = l.length := (round_le E l).1.symm
theorem step_fit {l o : List Int} {e : Edge} (h : Le l o) (hf : o.getD e.2.1 0 + e.2.2 ≤ o.getD e.1 0) : Le (step l e) o := by
  unfold step
  split
  · refine ⟨by simp [h.1], fun i => ?_⟩
    rw [getD_set]
    split
    · rename_i h2; rw [h2.1]; have := h.2 e.2.1; omega
    · exact h.2 i
  · exact h
theorem round_fit : ∀ (E : List Edge) {l o : List Int}, Le l o → Fit E o → Le (round E l) o
  | [], _, _, h, _ => h
  | e :: E, _, _, h, hf => round_fit E (step_fit h (hf e List.mem_cons_self)) (fun e' he => hf e' (List.mem_cons_of_mem _ he))
theorem step_reaches {l : List Int} {e : Edge} (h : e.1 < l.length) : l.getD e.2.1 0 + e.2.2 ≤ (step l e).getD e.1 0 := by
  unfold step
  split
  · rw [getD_set, if_pos ⟨rfl, h⟩]; exact Int.le_refl _
  · rename_i h2; omega
theorem round_reaches : ∀ (E : List Edge) {l : List Int}, In E l.length → ∀ e, e ∈ E → l.getD e.2.1 0 + e.2.2 ≤ (round E l).getD e.1 0
  | e0 :: E, l, hi, e, he => by
    rcases List.mem_cons.mp he with rfl | he
    · exact Int.le_trans (step_reaches (hi _ List.mem_cons_self)) ((round_le E (step l e)).2 _)
    · have h1 := round_reaches E (l := step l e0) (fun e' h' => by rw [step_length]; exact hi e' (List.mem_cons_of_mem _ h')) e he
      have h2 := (step_le l e0).2 e.2.1
      show _ ≤ (round E (step l e0)).getD e.1 0
      omega
theorem fit_of_fix {E : List Edge} {l : List Int} (hi : In E l.length) (h : round E l = l) : Fit E l := fun e he => by
  have := round_reaches E hi e he
  rw [h] at this
  exact this
theorem fix_of_fit {E : List Edge} {l : List Int} (h : Fit E l) : round E l = l := (round_fit E (Le.refl l) h).anti (round_le E l)

theorem iter_succ (E : List Edge) : ∀ (k : Nat) (l : List Int), iter E (k + 1) l = round E (iter E k l)
  | 0, _ => rfl
  | k + 1, l => by show iter E (k + 1) (round E l) = _; rw [iter_succ E k (round E l)]; rfl
theorem iter_le (E : List Edge) : ∀ (k : Nat) (l : List Int), Le l (iter E k l)
  | 0, l => Le.refl l
  | k + 1, l => (round_le E l).trans (iter_le E k (round E l))
theorem iter_length (E : List Edge) (k : Nat) (l : List Int) : (iter E k l).length = l.length := (iter_le E k l).1.symm
theorem iter_fit (E : List Edge) : ∀ (k : Nat) {l o : List Int}, Le l o → Fit E o → Le (iter E k l) o
  | 0, _, _, h, _ => h
  | k + 1, _, _, h, hf => iter_fit E k (round_fit E h hf) hf
theorem iter_add (E : List Edge) : ∀ (j k : Nat) (l : List Int), iter E (j + k) l = iter E k (iter E j l)
  | 0, k, l => by rw [Nat.zero_add]; rfl
  | j + 1, k, l => by rw [Nat.add_right_comm]; exact iter_add E j k (round E l)
theorem iter_fix {E : List Edge} {l : List Int} (h : round E l = l) : ∀ k, iter E k l = l
  | 0 => rfl
  | k + 1 => by rw [iter_succ, iter_fix h k, h]

theorem sum_le : ∀ {a b : List Int}, Le a b → a.sum ≤ b.sum
  | [], [], _ => Int.le_refl _
  | [], _ :: _, h => absurd h.1 (by simp)
  | _ :: _, [], h => absurd h.1 (by simp)
  | x :: a, y :: b, h => by
    have h0 := h.2 0
    have h1 : Le a b := ⟨by have := h.1; simpa using this, fun i => by have := h.2 (i + 1); simpa using this⟩
    have h2 := sum_le h1
    simp only [List.getD_cons_zero] at h0
    simp only [List.sum_cons]
    omega
theorem sum_lt : ∀ {a b : List Int}, Le a b → a ≠ b → a.sum < b.sum
  | [], [], _, hn => absurd rfl hn
  | [], _ :: _, h, _ => absurd h.1 (by simp)
  | _ :: _, [], h, _ => absurd h.1 (by simp)
  | x :: a, y :: b, h, hn => by
    have h0 := h.2 0
    have h1 : Le a b := ⟨by have := h.1; simpa using this, fun i => by have := h.2 (i + 1); simpa using this⟩
    simp only [List.getD_cons_zero] at h0
    simp only [List.sum_cons]
    by_cases hab : a = b
    · have : x ≠ y := fun h => hn (by rw [h, hab])
      have h2 := sum_le h1
      omega
    · have h2 := sum_lt h1 hab
      omega

theorem settles {E : List Edge} {o : List Int} (hf : Fit E o) : ∀ (m : Nat) (l : List Int), Le l o → (o.sum - l.sum).toNat ≤ m → ∃ k, round E (iter E k l) = iter E k l := by
  intro m
  induction m with
  | zero =>
    intro l h hm
    refine ⟨0, ?_⟩
    show round E l = l
    have h1 := sum_le h
    by_cases hlo : l = o
    · rw [hlo]; exact fix_of_fit hf
    · have := sum_lt h hlo; omega
  | succ m ih =>
    intro l h hm
    by_cases hr : round E l = l
    · exact ⟨0, hr⟩
    · have h1 := sum_lt (round_le E l) (fun h => hr h.symm)
      have h2 := round_fit E h hf
      have h3 := sum_le h2
      obtain ⟨k, hk⟩ := ih (round E l) h2 (by omega)
      exact ⟨k + 1, hk⟩

theorem countP_lt {P Q : Nat → Bool} : ∀ (L : List Nat), (∀ i, i ∈ L → P i = true → Q i = true) → (∃ i, i ∈ L ∧ Q i = true ∧ P i = false) → L.countP P < L.countP Q
  | [], _, ⟨_, h, _⟩ => absurd h (by simp)
  | x :: L, hpq, ⟨i, hi, hq, hp⟩ => by
    rw [List.countP_cons, List.countP_cons]
    have hle : L.countP P ≤ L.countP Q := List.countP_mono_left fun j hj h => hpq j (List.mem_cons_of_mem _ hj) h
    rcases List.mem_cons.mp hi with rfl | hi
    · rw [hq, hp]; simp only [if_true, Bool.false_eq_true, if_false]; omega
    · have h1 := countP_lt L (fun j hj h => hpq j (List.mem_cons_of_mem _ hj) h) ⟨i, hi, hq, hp⟩
      have h2 := hpq x List.mem_cons_self
      cases hx : P x
      · simp only [Bool.false_eq_true, if_false]; omega
      · rw [h2 hx]; omega

/-- What is not yet as it will be: one of it is, a round later. -/
theorem one_more {E : List Edge} {l F : List Int} {N : Nat} (hi : In E l.length) (hF : F = iter E N l) (hx : round E F = F) (hne : l ≠ F) :
    ∃ p, p < l.length ∧ l.getD p 0 ≠ F.getD p 0 ∧ (round E l).getD p 0 = F.getD p 0 := by
  have hlF : Le l F := hF ▸ iter_le E N l
  have hiF : In E F.length := fun e he => hlF.1 ▸ hi e he
  have hfit := fit_of_fix hiF hx
  have hrF : Le (round E l) F := round_fit E hlF hfit
  refine Classical.byContradiction fun hno => ?_
  have hno' : ∀ p, p < l.length → l.getD p 0 ≠ F.getD p 0 → (round E l).getD p 0 ≠ F.getD p 0 := fun p h1 h2 h3 => hno ⟨p, h1, h2, h3⟩
  -- one less, where it is not yet
  obtain ⟨G, hG⟩ : ∃ G : List Int, G = (List.range F.length).map (fun i => if l.getD i 0 = F.getD i 0 then F.getD i 0 else F.getD i 0 - 1) := ⟨_, rfl⟩
  have hGl : G.length = F.length := by rw [hG]; simp
  have hGd : ∀ i, i < F.length → G.getD i 0 = if l.getD i 0 = F.getD i 0 then F.getD i 0 else F.getD i 0 - 1 := fun i hi => by
    rw [hG, List.getD_eq_getElem?_getD, List.getElem?_map, List.getElem?_range hi]; rfl
  have hGo : ∀ i, ¬ i < F.length → G.getD i 0 = 0 ∧ F.getD i 0 = 0 := fun i hi => by
    constructor
    · rw [List.getD_eq_getElem?_getD, List.getElem?_eq_none (by omega)]; rfl
    · rw [List.getD_eq_getElem?_getD, List.getElem?_eq_none (by omega)]; rfl
  have hGF : ∀ i, G.getD i 0 ≤ F.getD i 0 := fun i => by
    by_cases h : i < F.length
    · rw [hGd i h]; split <;> omega
    · rw [(hGo i h).1, (hGo i h).2]; exact Int.le_refl _
  have hlG : Le l G := ⟨hlF.1.trans hGl.symm, fun i => by
    by_cases h : i < F.length
    · rw [hGd i h]
      have := hlF.2 i
      split <;> omega
    · rw [(hGo i h).1]
      have := hlF.2 i
      rw [(hGo i h).2] at this
      exact this⟩
  have hGfit : Fit E G := fun e he => by
    have h1 := hiF e he
    have h2 := hfit e he
    rw [hGd e.1 h1]
    split
    · have := hGF e.2.1; omega
    · rename_i hu
      have h3 := hno' e.1 (hi e he) hu
      have h4 := hrF.2 e.1
      have h5 := round_reaches E hi e he
      by_cases hb : e.2.1 < F.length
      · rw [hGd _ hb]
        split
        · rename_i hs
          rw [hs] at h5
          omega
        · omega
      · have h6 := hlF.2 e.2.1
        rw [(hGo _ hb).1]
        have h7 : l.getD e.2.1 0 = 0 := by rw [List.getD_eq_getElem?_getD, List.getElem?_eq_none (by rw [hlF.1]; omega)]; rfl
        rw [h7] at h5
        omega
  have hFG : Le F G := hF ▸ iter_fit E N hlG hGfit
  refine hne (hlF.anti ⟨hlF.1.symm, fun i => ?_⟩)
  by_cases h : i < F.length
  · have := hFG.2 i
    rw [hGd i h] at this
    split at this
    · rename_i h2; rw [h2]; exact Int.le_refl _
    · omega
  · rw [(hGo i h).2, List.getD_eq_getElem?_getD, List.getElem?_eq_none (by rw [hlF.1]; omega)]; exact Int.le_refl _

/-- In as many rounds as there are numbers. -/
theorem conv {E : List Edge} {l o : List Int} (hi : In E l.length) (h : Le l o) (hf : Fit E o) : round E (iter E l.length l) = iter E l.length l := by
  obtain ⟨N, hN⟩ := settles hf _ l h (Nat.le_refl _)
  obtain ⟨F, hF⟩ : ∃ F, F = iter E N l := ⟨_, rfl⟩
  rw [← hF] at hN
  have hlF : Le l F := hF ▸ iter_le E N l
  have hfit : Fit E F := fit_of_fix (fun e he => hlF.1 ▸ hi e he) hN
  have hkF : ∀ k, Le (iter E k l) F := fun k => iter_fit E k hlF hfit
  have hend : ∀ k, ∃ N', F = iter E N' (iter E k l) := fun k => ⟨N, by
    rw [← iter_add, Nat.add_comm, iter_add, ← hF, iter_fix hN]⟩
  have hc : ∀ k, iter E k l = F ∨ k ≤ (List.range l.length).countP (fun i => decide ((iter E k l).getD i 0 = F.getD i 0)) := by
    intro k
    induction k with
    | zero => exact .inr (Nat.zero_le _)
    | succ k ih =>
      by_cases hk : iter E k l = F
      · left; rw [iter_succ, hk, hN]
      · right
        have ih := ih.resolve_left hk
        obtain ⟨N', hN'⟩ := hend k
        obtain ⟨p, hp, hp1, hp2⟩ := one_more (l := iter E k l) (fun e he => by rw [iter_length]; exact hi e he) hN' hN hk
        rw [iter_length] at hp
        refine Nat.lt_of_le_of_lt ih (countP_lt _ (fun i _ h1 => ?_) ⟨p, List.mem_range.mpr hp, ?_, ?_⟩)
        · have h1 := of_decide_eq_true h1
          refine decide_eq_true ?_
          have h2 := (hkF (k + 1)).2 i
          have h3 : (iter E k l).getD i 0 ≤ (iter E (k + 1) l).getD i 0 := by rw [iter_succ]; exact (round_le E _).2 i
          omega
        · refine decide_eq_true ?_
          rw [iter_succ]; exact hp2
        · exact decide_eq_false hp1
  have hn : iter E l.length l = F := by
    rcases hc l.length with h1 | h1
    · exact h1
    · have h2 : (List.range l.length).countP (fun i => decide ((iter E l.length l).getD i 0 = F.getD i 0)) = (List.range l.length).length := by
        have := List.countP_le_length (p := fun i => decide ((iter E l.length l).getD i 0 = F.getD i 0)) (l := List.range l.length)
        simp only [List.length_range] at this ⊢
        omega
      rw [List.countP_eq_length] at h2
      have hL : (iter E l.length l).length = F.length := by rw [iter_length, hlF.1]
      refine (hkF l.length).anti ⟨hL.symm, fun i => ?_⟩
      by_cases hil : i < l.length
      · have := of_decide_eq_true (h2 i (List.mem_range.mpr hil))
        rw [this]; exact Int.le_refl _
      · rw [List.getD_eq_getElem?_getD, List.getElem?_eq_none (by rw [← hlF.1]; omega), List.getD_eq_getElem?_getD, List.getElem?_eq_none (by rw [iter_length]; omega)]; exact Int.le_refl _
  rw [hn, hN]

end Fx
end Go.Proofs.Ythenjegmigeieaa

/- Levels, needs and focus, plain. -/
namespace Go.Proofs.Ythenjegmigeieaa
namespace St
open Sc

/-! ### What a head hangs on -/
def hang (x : Sc.Lit) : Bool := decide (x.kind = 1 ∨ x.kind = 2)
def strict (r : Sc.Rule) (x : Sc.Lit) : Int := if x.kind = 2 ∨ r.fold ≠ 0 then 1 else 0
def ruleE (r : Sc.Rule) : List Fx.Edge := (r.body.filter hang).map fun x => (r.pred.toNat, x.pred.toNat, strict r x)
def edges (p : Sc.Prog) : List Fx.Edge := p.rules.flatMap ruleE
def zeros (n : Nat) : List Int := List.replicate n 0
def level (p : Sc.Prog) : List Int := Fx.iter (edges p) p.arity.length (zeros p.arity.length)
/-- Do they settle? -/
def flat (p : Sc.Prog) : Bool := decide (Fx.round (edges p) (level p) = level p)

theorem zeros_getD (n i : Nat) : (zeros n).getD i 0 = 0 := by
  unfold zeros
  rw [List.getD_eq_getElem?_getD, List.getElem?_replicate]
  split <;> rfl
theorem zeros_le {o : List Int} (h : ∀ i : Nat, 0 ≤ o.getD i 0) : Fx.Le (zeros o.length) o := ⟨by simp [zeros], fun i => by rw [zeros_getD]; exact h i⟩
theorem level_length (p : Sc.Prog) : (level p).length = p.arity.length := by unfold level; rw [Fx.iter_length]; simp [zeros]
theorem level_nonneg (p : Sc.Prog) (i : Nat) : 0 ≤ (level p).getD i 0 := by
  have := (Fx.iter_le (edges p) p.arity.length (zeros p.arity.length)).2 i
  rw [zeros_getD] at this
  exact this

/-- Numbers such as levels must be. -/
def fits (p : Sc.Prog) (o : List Int) : Prop := o.length = p.arity.length ∧ (∀ i : Nat, 0 ≤ o.getD i 0) ∧ Fx.Fit (edges p) o
theorem flat_of_fits {p : Sc.Prog} {o : List Int} (hi : Fx.In (edges p) p.arity.length) (h : fits p o) : flat p = true := by
  have h1 : Fx.Le (zeros p.arity.length) o := by rw [← h.1]; exact zeros_le h.2.1
  have hz : (zeros p.arity.length).length = p.arity.length := by simp [zeros]
  have h2 := Fx.conv (E := edges p) (l := zeros p.arity.length) (by rw [hz]; exact hi) h1 h.2.2
  rw [hz] at h2
  exact decide_eq_true h2
theorem least {p : Sc.Prog} {o : List Int} (h : fits p o) (i : Nat) : (level p).getD i 0 ≤ o.getD i 0 := by
  have h1 : Fx.Le (zeros p.arity.length) o := by rw [← h.1]; exact zeros_le h.2.1
  exact (Fx.iter_fit (edges p) p.arity.length h1 h.2.2).2 i
theorem fits_level {p : Sc.Prog} (hi : Fx.In (edges p) p.arity.length) (h : flat p = true) : fits p (level p) :=
  ⟨level_length p, level_nonneg p, Fx.fit_of_fix (by rw [level_length]; exact hi) (of_decide_eq_true h)⟩

/-! ### What a predicate needs -/
def ruleN (r : Sc.Rule) : List Fx.Edge := (r.body.filter hang).map fun x => (x.pred.toNat, r.pred.toNat, 0)
def back (p : Sc.Prog) : List Fx.Edge := p.rules.flatMap ruleN
def nstep (s : List Bool) (e : Fx.Edge) : List Bool := if s.getD e.2.1 false then s.set e.1 true else s
def nround (E : List Fx.Edge) (s : List Bool) : List Bool := E.foldl nstep s
def niter (E : List Fx.Edge) : Nat → List Bool → List Bool
  | 0, s => s
  | k + 1, s => niter E k (nround E s)
def enc (s : List Bool) : List Int := s.map fun b => if b then 1 else 0
def only (n k : Nat) : List Bool := (List.replicate n false).set k true
def needs (p : Sc.Prog) (k : Nat) : List Bool := niter (back p) p.arity.length (only p.arity.length k)

theorem enc_getD (s : List Bool) (i : Nat) : (enc s).getD i 0 = if s.getD i false then 1 else 0 := by
  unfold enc
  rw [List.getD_eq_getElem?_getD, List.getElem?_map, List.getD_eq_getElem?_getD]
  cases s[i]? with
  | none => rfl
  | some b => rfl
theorem enc_inj {s t : List Bool} (h : enc s = enc t) : s = t := by
  have hl : s.length = t.length := by have := congrArg List.length h; simpa [enc] using this
  refine List.ext_getElem hl fun i h1 h2 => ?_
  have h3 := congrArg (fun l => l.getD i 0) h
  simp only [enc_getD] at h3
  rw [List.getD_eq_getElem?_getD, List.getD_eq_getElem?_getD, List.getElem?_eq_getElem h1, List.getElem?_eq_getElem h2] at h3
  simp only [Option.getD_some] at h3
  cases hs : s[i] <;> cases ht : t[i] <;> simp [hs, ht] at h3 ⊢
theorem enc_set (s : List Bool) (i : Nat) : enc (s.set i true) = (enc s).set i 1 := by unfold enc; rw [List.map_set]; rfl
theorem set_same_true {s : List Bool} {i : Nat} (h : s.getD i false = true) : s.set i true = s := by
  have hi : i < s.length := by
    refine Classical.byContradiction fun hn => ?_
    rw [List.getD_eq_getElem?_getD, List.getElem?_eq_none (by omega)] at h
    simp at h
  refine List.ext_getElem (by simp) fun j h1 h2 => ?_
  rw [List.getElem_set]
  split
  · rename_i hj
    subst hj
    rw [List.getD_eq_getElem?_getD, List.getElem?_eq_getElem hi] at h
    exact h.symm
  · rfl
theorem enc_nstep (s : List Bool) (e : Fx.Edge) (h0 : e.2.2 = 0) : enc (nstep s e) = Fx.step (enc s) e := by
  unfold nstep Fx.step
  rw [enc_getD, enc_getD, h0]
  cases h1 : s.getD e.2.1 false
  · cases h2 : s.getD e.1 false <;> simp
  · cases h2 : s.getD e.1 false
    · simp [enc_set]
    · simp [set_same_true h2]
theorem enc_nround : ∀ (E : List Fx.Edge) (s : List Bool), (∀ e, e ∈ E → e.2.2 = 0) → enc (nround E s) = Fx.round E (enc s)
  | [], _, _ => rfl
  | e :: E, s, h => by
    show enc (nround E (nstep s e)) = Fx.round E (Fx.step (enc s) e)
    rw [enc_nround E _ (fun e' he => h e' (List.mem_cons_of_mem _ he)), enc_nstep s e (h e List.mem_cons_self)]
theorem enc_niter (E : List Fx.Edge) (h : ∀ e, e ∈ E → e.2.2 = 0) : ∀ (k : Nat) (s : List Bool), enc (niter E k s) = Fx.iter E k (enc s)
  | 0, _ => rfl
  | k + 1, s => by
    show enc (niter E k (nround E s)) = Fx.iter E k (Fx.round E (enc s))
    rw [enc_niter E h k, enc_nround E s h]
theorem back_zero (p : Sc.Prog) : ∀ e, e ∈ back p → e.2.2 = 0 := fun e he => by
  unfold back at he
  obtain ⟨r, _, hr⟩ := List.mem_flatMap.mp he
  unfold ruleN at hr
  obtain ⟨x, _, rfl⟩ := List.mem_map.mp hr
  rfl
theorem nstep_length (s : List Bool) (e : Fx.Edge) : (nstep s e).length = s.length := by unfold nstep; split <;> simp
theorem nround_length : ∀ (E : List Fx.Edge) (s : List Bool), (nround E s).length = s.length
  | [], _ => rfl
  | e :: E, s => by show (nround E (nstep s e)).length = _; rw [nround_length E, nstep_length]
theorem niter_length (E : List Fx.Edge) : ∀ (k : Nat) (s : List Bool), (niter E k s).length = s.length
  | 0, _ => rfl
  | k + 1, s => by show (niter E k (nround E s)).length = _; rw [niter_length E k, nround_length]
theorem needs_length (p : Sc.Prog) (k : Nat) : (needs p k).length = p.arity.length := by unfold needs only; rw [niter_length]; simp
theorem niter_succ (E : List Fx.Edge) : ∀ (k : Nat) (s : List Bool), niter E (k + 1) s = nround E (niter E k s)
  | 0, _ => rfl
  | k + 1, s => by show niter E (k + 1) (nround E s) = _; rw [niter_succ E k (nround E s)]; rfl

/-- Closed. -/
def Closed (E : List Fx.Edge) (s : List Bool) : Prop := ∀ e, e ∈ E → s.getD e.2.1 false = true → s.getD e.1 false = true
theorem closed_iff {E : List Fx.Edge} {s : List Bool} (h : ∀ e, e ∈ E → e.2.2 = 0) : Closed E s ↔ Fx.Fit E (enc s) := by
  constructor
  · intro hc e he
    have := hc e he
    rw [enc_getD, enc_getD, h e he]
    cases h1 : s.getD e.2.1 false
    · cases h2 : s.getD e.1 false <;> simp
    · rw [this h1]; simp
  · intro hf e he h1
    have := hf e he
    rw [enc_getD, enc_getD, h e he, h1] at this
    cases h2 : s.getD e.1 false
    · rw [h2] at this; simp at this
    · rfl
theorem needs_fix {p : Sc.Prog} (k : Nat) (hi : Fx.In (back p) p.arity.length) : nround (back p) (needs p k) = needs p k := by
  refine enc_inj ?_
  rw [enc_nround _ _ (back_zero p)]
  unfold needs
  rw [enc_niter _ (back_zero p)]
  have hl : (enc (only p.arity.length k)).length = p.arity.length := by simp [enc, only]
  have h1 : Fx.Le (enc (only p.arity.length k)) (List.replicate p.arity.length 1) := ⟨by rw [hl]; simp, fun i => by
    rw [enc_getD, List.getD_eq_getElem?_getD (l := List.replicate p.arity.length (1 : Int)), List.getElem?_replicate]
    split
    · rename_i h2
      split
      · simp
      · rename_i h3
        unfold only at h2
        rw [List.getD_eq_getElem?_getD, List.getElem?_eq_none (by simp; omega)] at h2
        simp at h2
    · split <;> simp⟩
  have h2 := Fx.conv (E := back p) (l := enc (only p.arity.length k)) (o := List.replicate p.arity.length 1) (by rw [hl]; exact hi) h1 (fun e he => by
    rw [back_zero p e he]
    have ha : (List.replicate p.arity.length (1 : Int)).getD e.1 0 = 1 := by
      rw [List.getD_eq_getElem?_getD, List.getElem?_replicate, if_pos (hi e he)]; rfl
    rw [ha, List.getD_eq_getElem?_getD, List.getElem?_replicate]
    split <;> simp)
  rw [hl] at h2
  exact h2
theorem needs_closed {p : Sc.Prog} (k : Nat) (hi : Fx.In (back p) p.arity.length) : Closed (back p) (needs p k) := by
  refine (closed_iff (back_zero p)).mpr (Fx.fit_of_fix ?_ ?_)
  · have : (enc (needs p k)).length = p.arity.length := by unfold enc; rw [List.length_map, needs_length]
    rw [this]; exact hi
  · rw [← enc_nround _ _ (back_zero p), needs_fix k hi]
theorem needs_self {p : Sc.Prog} {k : Nat} (hk : k < p.arity.length) : (needs p k).getD k false = true := by
  have h1 := (Fx.iter_le (back p) p.arity.length (enc (only p.arity.length k))).2 k
  rw [← enc_niter _ (back_zero p), enc_getD, enc_getD] at h1
  have h2 : (only p.arity.length k).getD k false = true := by unfold only; rw [List.getD_eq_getElem?_getD, List.getElem?_set]; simp [hk]
  rw [h2] at h1
  show (niter (back p) p.arity.length (only p.arity.length k)).getD k false = true
  cases h3 : (niter (back p) p.arity.length (only p.arity.length k)).getD k false
  · rw [h3] at h1; simp at h1
  · rfl
theorem needs_least {p : Sc.Prog} {k : Nat} {s : List Bool} (hl : s.length = p.arity.length) (hs : s.getD k false = true) (hc : Closed (back p) s) (i : Nat) (h : (needs p k).getD i false = true) : s.getD i false = true := by
  have h1 : Fx.Le (enc (only p.arity.length k)) (enc s) := ⟨by simp [enc, only, hl], fun j => by
    rw [enc_getD, enc_getD]
    by_cases hj : j = k
    · subst hj; rw [hs]; split <;> simp
    · have : (only p.arity.length k).getD j false = false := by
        unfold only
        rw [List.getD_eq_getElem?_getD, List.getElem?_set, if_neg (fun h => hj h.symm), List.getElem?_replicate]
        split <;> rfl
      rw [this, if_neg (by simp)]
      split <;> omega⟩
  have h2 := (Fx.iter_fit (back p) p.arity.length h1 ((closed_iff (back_zero p)).mp hc)).2 i
  rw [← enc_niter _ (back_zero p), enc_getD, enc_getD] at h2
  unfold needs at h
  rw [h] at h2
  cases h3 : s.getD i false
  · rw [h3] at h2; simp at h2
  · rfl

def focus (p : Sc.Prog) (k : Nat) : Sc.Prog := ⟨p.arity, p.names, p.rules.filter fun r => (needs p k).getD r.pred.toNat false⟩
theorem focus_needs {p : Sc.Prog} {k : Nat} (hk : k < p.arity.length) (hi : Fx.In (back p) p.arity.length) : needs (focus p k) k = needs p k := by
  have hsub : ∀ e, e ∈ back (focus p k) → e ∈ back p := fun e he => by
    obtain ⟨r, hr, h2⟩ := List.mem_flatMap.mp he
    exact List.mem_flatMap.mpr ⟨r, (List.mem_filter.mp hr).1, h2⟩
  have hi2 : Fx.In (back (focus p k)) (focus p k).arity.length := fun e he => hi e (hsub e he)
  have hA : ∀ i, (needs (focus p k) k).getD i false = true → (needs p k).getD i false = true := fun i h =>
    needs_least (p := focus p k) (needs_length p k) (needs_self hk) (fun e he => needs_closed k hi e (hsub e he)) i h
  have hB : ∀ i, (needs p k).getD i false = true → (needs (focus p k) k).getD i false = true := fun i h =>
    needs_least (p := p) (needs_length (focus p k) k) (needs_self (p := focus p k) hk) (fun e he h1 => by
      obtain ⟨r, hr, h2⟩ := List.mem_flatMap.mp he
      refine needs_closed (p := focus p k) k hi2 e (List.mem_flatMap.mpr ⟨r, List.mem_filter.mpr ⟨hr, ?_⟩, h2⟩) h1
      obtain ⟨x, _, hx⟩ := List.mem_map.mp h2
      have h3 : e.2.1 = r.pred.toNat := by rw [← hx]
      rw [← h3]
      exact hA _ h1) i h
  refine List.ext_getElem (by rw [needs_length, needs_length]; rfl) fun i h1 h2 => ?_
  have ha := hA i
  have hb := hB i
  rw [List.getD_eq_getElem?_getD, List.getD_eq_getElem?_getD, List.getElem?_eq_getElem h1, List.getElem?_eq_getElem h2] at ha hb
  simp only [Option.getD_some] at ha hb
  cases h3 : (needs (focus p k) k)[i]
  · cases h4 : (needs p k)[i]
    · rfl
    · exact absurd (hb h4) (by rw [h3]; simp)
  · exact (ha h3).symm
theorem focus_focus {p : Sc.Prog} {k : Nat} (hk : k < p.arity.length) (hi : Fx.In (back p) p.arity.length) : focus (focus p k) k = focus p k := by
  have h := focus_needs hk hi
  show (⟨p.arity, p.names, (p.rules.filter fun r => (needs p k).getD r.pred.toNat false).filter fun r => (needs (focus p k) k).getD r.pred.toNat false⟩ : Sc.Prog) = ⟨p.arity, p.names, p.rules.filter fun r => (needs p k).getD r.pred.toNat false⟩
  rw [h, List.filter_filter]
  simp only [Bool.and_self]

end St

end Go.Proofs.Ythenjegmigeieaa

/- Package scope: literals that reckon, and what is no literal. -/
namespace Go.Proofs.Ythenjegmigeieaa
open Go.RowKit

set_option maxRecDepth 100000 in
set_option maxHeartbeats 1000000 in
theorem checkLit_3 (ar : List Int) (va vn vr : Value) (op pred : Int) (ts : List Sc.Term) (at_ : Option Addr) (ct : Nat) (w : World) :
    Calls Try.prog 45 #[progVal va vn vr, plitVal ⟨3, op, pred, ts⟩ (.slice at_ ts.length ct)] w fun e w' => e = finE (Sc.litErr ar ⟨3, op, pred, ts⟩) ∧ Below w.heap.size w w' := by
  have hb0 : Below w.heap.size w ((w.alloc (.cells #[va, vn, vr] 26)).alloc (.cells #[.int .i64 3, .int .i64 op, .int .i64 pred, .slice at_ ts.length ct] 52)) := below_two w _ _
  have HL : Hid (Sc.litErr ar ⟨3, op, pred, ts⟩ = if Tr.between op 1 4 then (if pred ≠ 0 ∨ ¬ ts.length = 2 then 1 else 0) else 3) := by
    show _ = _
    simp [Sc.litErr]
  by_cases h1 : op < 1
  · have HV : Hid (Sc.litErr ar ⟨3, op, pred, ts⟩ = 3) := by
      show _ = _
      have : ¬ 1 ≤ op := by omega
      rw [HL.out]; simp [Tr.between, this]
    have g1 : decide (op < 1) = true := decide_eq_true h1
    clear HL
    go_enter Try.func45, Try.ntmps45
    go_wp2_with fail
    refine (refuse_yes 3 _).mono ?_
    rintro e w1 ⟨rfl, hb1⟩
    go_wp2_with fail
    exact ⟨rfl, by rw [HV.out]; rfl, hb0.trans (hb1.mono hb0.size)⟩
  · have g1 : decide (op < 1) = false := decide_eq_false h1
    by_cases h2 : 4 < op
    · have HV : Hid (Sc.litErr ar ⟨3, op, pred, ts⟩ = 3) := by
        show _ = _
        have : ¬ op ≤ 4 := by omega
        rw [HL.out]; simp [Tr.between, this]
      have g2 : decide (4 < op) = true := decide_eq_true h2
      clear HL
      go_enter Try.func45, Try.ntmps45
      go_wp2_with fail
      refine (refuse_yes 3 _).mono ?_
      rintro e w1 ⟨rfl, hb1⟩
      go_wp2_with fail
      exact ⟨rfl, by rw [HV.out]; rfl, hb0.trans (hb1.mono hb0.size)⟩
    · have g2 : decide (4 < op) = false := decide_eq_false h2
      have HL2 : Hid (Sc.litErr ar ⟨3, op, pred, ts⟩ = if pred ≠ 0 ∨ ¬ ts.length = 2 then 1 else 0) := by
        show _ = _
        have p1 : 1 ≤ op := by omega
        have p2 : op ≤ 4 := by omega
        rw [HL.out]; simp [Tr.between, p1, p2]
      clear HL
      cases g3 : (pred != 0)
      · have p0 : pred = 0 := by simpa using g3
        by_cases h4 : ts.length = 2
        · have HV : Hid (Sc.litErr ar ⟨3, op, pred, ts⟩ = 0) := by show _ = _; rw [HL2.out]; simp [p0, h4]
          have g4 : ((ts.length : Int) != 2) = false := by rw [h4]; rfl
          clear HL2 p0 h4
          go_enter Try.func45, Try.ntmps45
          go_wp2_with fail
          refine (refuse_no 3 _).mono ?_
          rintro e w1 ⟨rfl, rfl⟩
          go_wp2_with fail
          refine (refuse_no 1 _).mono ?_
          rintro e w1 ⟨rfl, rfl⟩
          go_wp2_with fail
          exact ⟨rfl, .tuple #[], by simp [results, Try.results45], by rw [HV.out]; rfl, hb0⟩
        · have HV : Hid (Sc.litErr ar ⟨3, op, pred, ts⟩ = 1) := by show _ = _; rw [HL2.out]; simp [h4]
          have g4 : ((ts.length : Int) != 2) = true := by simp; omega
          clear HL2 p0 h4
          go_enter Try.func45, Try.ntmps45
          go_wp2_with fail
          refine (refuse_no 3 _).mono ?_
          rintro e w1 ⟨rfl, rfl⟩
          go_wp2_with fail
          refine (refuse_yes 1 _).mono ?_
          rintro e w1 ⟨rfl, hb1⟩
          go_wp2_with fail
          exact ⟨rfl, by rw [HV.out]; rfl, hb0.trans (hb1.mono hb0.size)⟩
      · have p0 : ¬ pred = 0 := by simpa using g3
        have HV : Hid (Sc.litErr ar ⟨3, op, pred, ts⟩ = 1) := by show _ = _; rw [HL2.out]; simp [p0]
        clear HL2 p0
        go_enter Try.func45, Try.ntmps45
        go_wp2_with fail
        refine (refuse_no 3 _).mono ?_
        rintro e w1 ⟨rfl, rfl⟩
        go_wp2_with fail
        refine (refuse_yes 1 _).mono ?_
        rintro e w1 ⟨rfl, hb1⟩
        go_wp2_with fail
        exact ⟨rfl, by rw [HV.out]; rfl, hb0.trans (hb1.mono hb0.size)⟩

set_option maxRecDepth 100000 in
set_option maxHeartbeats 1000000 in
theorem checkLit_4 (ar : List Int) (va vn vr : Value) (op pred : Int) (ts : List Sc.Term) (at_ : Option Addr) (ct : Nat) (w : World) :
    Calls Try.prog 45 #[progVal va vn vr, plitVal ⟨4, op, pred, ts⟩ (.slice at_ ts.length ct)] w fun e w' => e = finE (Sc.litErr ar ⟨4, op, pred, ts⟩) ∧ Below w.heap.size w w' := by
  have hb0 : Below w.heap.size w ((w.alloc (.cells #[va, vn, vr] 26)).alloc (.cells #[.int .i64 4, .int .i64 op, .int .i64 pred, .slice at_ ts.length ct] 52)) := below_two w _ _
  have HL : Hid (Sc.litErr ar ⟨4, op, pred, ts⟩ = if Tr.between op 5 7 then (if pred ≠ 0 ∨ ¬ ts.length = 3 then 1 else 0) else 3) := by
    show _ = _
    simp [Sc.litErr]
  by_cases h1 : op < 5
  · have HV : Hid (Sc.litErr ar ⟨4, op, pred, ts⟩ = 3) := by
      show _ = _
      have : ¬ 5 ≤ op := by omega
      rw [HL.out]; simp [Tr.between, this]
    have g1 : decide (op < 5) = true := decide_eq_true h1
    clear HL
    go_enter Try.func45, Try.ntmps45
    go_wp2_with fail
    refine (refuse_yes 3 _).mono ?_
    rintro e w1 ⟨rfl, hb1⟩
    go_wp2_with fail
    exact ⟨rfl, by rw [HV.out]; rfl, hb0.trans (hb1.mono hb0.size)⟩
  · have g1 : decide (op < 5) = false := decide_eq_false h1
    by_cases h2 : 7 < op
    · have HV : Hid (Sc.litErr ar ⟨4, op, pred, ts⟩ = 3) := by
        show _ = _
        have : ¬ op ≤ 7 := by omega
        rw [HL.out]; simp [Tr.between, this]
      have g2 : decide (7 < op) = true := decide_eq_true h2
      clear HL
      go_enter Try.func45, Try.ntmps45
      go_wp2_with fail
      refine (refuse_yes 3 _).mono ?_
      rintro e w1 ⟨rfl, hb1⟩
      go_wp2_with fail
      exact ⟨rfl, by rw [HV.out]; rfl, hb0.trans (hb1.mono hb0.size)⟩
    · have g2 : decide (7 < op) = false := decide_eq_false h2
      have HL2 : Hid (Sc.litErr ar ⟨4, op, pred, ts⟩ = if pred ≠ 0 ∨ ¬ ts.length = 3 then 1 else 0) := by
        show _ = _
        have p1 : 5 ≤ op := by omega
        have p2 : op ≤ 7 := by omega
        rw [HL.out]; simp [Tr.between, p1, p2]
      clear HL
      cases g3 : (pred != 0)
      · have p0 : pred = 0 := by simpa using g3
        by_cases h4 : ts.length = 3
        · have HV : Hid (Sc.litErr ar ⟨4, op, pred, ts⟩ = 0) := by show _ = _; rw [HL2.out]; simp [p0, h4]
          have g4 : ((ts.length : Int) != 3) = false := by rw [h4]; rfl
          clear HL2 p0 h4
          go_enter Try.func45, Try.ntmps45
          go_wp2_with fail
          refine (refuse_no 3 _).mono ?_
          rintro e w1 ⟨rfl, rfl⟩
          go_wp2_with fail
          refine (refuse_no 1 _).mono ?_
          rintro e w1 ⟨rfl, rfl⟩
          go_wp2_with fail
          exact ⟨rfl, .tuple #[], by simp [results, Try.results45], by rw [HV.out]; rfl, hb0⟩
        · have HV : Hid (Sc.litErr ar ⟨4, op, pred, ts⟩ = 1) := by show _ = _; rw [HL2.out]; simp [h4]
          have g4 : ((ts.length : Int) != 3) = true := by simp; omega
          clear HL2 p0 h4
          go_enter Try.func45, Try.ntmps45
          go_wp2_with fail
          refine (refuse_no 3 _).mono ?_
          rintro e w1 ⟨rfl, rfl⟩
          go_wp2_with fail
          refine (refuse_yes 1 _).mono ?_
          rintro e w1 ⟨rfl, hb1⟩
          go_wp2_with fail
          exact ⟨rfl, by rw [HV.out]; rfl, hb0.trans (hb1.mono hb0.size)⟩
      · have p0 : ¬ pred = 0 := by simpa using g3
        have HV : Hid (Sc.litErr ar ⟨4, op, pred, ts⟩ = 1) := by show _ = _; rw [HL2.out]; simp [p0]
        clear HL2 p0
        go_enter Try.func45, Try.ntmps45
        go_wp2_with fail
        refine (refuse_no 3 _).mono ?_
        rintro e w1 ⟨rfl, rfl⟩
        go_wp2_with fail
        refine (refuse_yes 1 _).mono ?_
        rintro e w1 ⟨rfl, hb1⟩
        go_wp2_with fail
        exact ⟨rfl, by rw [HV.out]; rfl, hb0.trans (hb1.mono hb0.size)⟩

set_option maxRecDepth 100000 in
set_option maxHeartbeats 1000000 in
theorem checkLit_else (ar : List Int) (va vn vr : Value) (kind op pred : Int) (ts : List Sc.Term) (at_ : Option Addr) (ct : Nat) (w : World) (h1 : ¬ kind = 1) (h2 : ¬ kind = 2) (h3 : ¬ kind = 3) (h4 : ¬ kind = 4) :
    Calls Try.prog 45 #[progVal va vn vr, plitVal ⟨kind, op, pred, ts⟩ (.slice at_ ts.length ct)] w fun e w' => e = finE (Sc.litErr ar ⟨kind, op, pred, ts⟩) ∧ Below w.heap.size w w' := by
  have hb0 : Below w.heap.size w ((w.alloc (.cells #[va, vn, vr] 26)).alloc (.cells #[.int .i64 kind, .int .i64 op, .int .i64 pred, .slice at_ ts.length ct] 52)) := below_two w _ _
  have HV : Hid (Sc.litErr ar ⟨kind, op, pred, ts⟩ = 7) := by show _ = _; simp [Sc.litErr, h1, h2, h3, h4]
  have g1 : (kind == 1) = false := by simpa using h1
  have g2 : (kind == 2) = false := by simpa using h2
  have g3 : (kind == 3) = false := by simpa using h3
  have g4 : (kind == 4) = false := by simpa using h4
  clear h1 h2 h3 h4
  go_enter Try.func45, Try.ntmps45
  go_wp2_with fail
  refine (refuse_yes 7 _).mono ?_
  rintro e w1 ⟨rfl, hb1⟩
  go_wp2_with fail
  exact ⟨rfl, by rw [HV.out]; rfl, hb0.trans (hb1.mono hb0.size)⟩

/-- A literal, all but its terms. -/
theorem checkLit_any (ar : List Int) (va vn vr : Value) (x : Sc.Lit) (v : Value) (w : World) (hA : IntsV w va ar) (hT : ∃ ao cap, v = .slice ao x.terms.length cap) :
    Calls Try.prog 45 #[progVal va vn vr, plitVal x v] w fun e w' => e = finE (Sc.litErr ar x) ∧ Below w.heap.size w w' := by
  obtain ⟨kind, op, pred, ts⟩ := x
  obtain ⟨at_, ct, rfl⟩ := hT
  obtain ⟨ao, cap, rfl, hA⟩ := hA
  by_cases h : kind = 1 ∨ kind = 2
  · exact checkLit_pred ar ao cap vn vr kind op pred ts at_ ct w hA h
  · by_cases h3 : kind = 3
    · subst h3; exact checkLit_3 ar _ vn vr op pred ts at_ ct w
    · by_cases h4 : kind = 4
      · subst h4; exact checkLit_4 ar _ vn vr op pred ts at_ ct w
      · exact checkLit_else ar _ vn vr kind op pred ts at_ ct w (fun e => h (.inl e)) (fun e => h (.inr e)) h3 h4

end Go.Proofs.Ythenjegmigeieaa

/- Package scope: which variables are bound. -/
namespace Go.Proofs.Ythenjegmigeieaa
open Go.RowKit

/-- The block of what is bound: a box with a slice of bools. -/
structure Bd (w : World) (X : Nat) (R : Nat) (bs : List Bool) : Prop where
  box : w.heap[X]? = some (.cells #[.slice (some ⟨R, 0, none⟩) bs.length bs.length] 38 (0, 0))
  row : w.heap[R]? = some (.cells (bs.map Value.bool).toArray 4 (0, 0))
theorem Bd.c0 {w : World} {X R : Nat} {bs : List Bool} (h : Bd w X R bs) : w.cell? ⟨X, 0, none⟩ = some (.slice (some ⟨R, 0, none⟩) bs.length bs.length) := by rw [Lib.cell_of_heap h.box]; rfl
theorem Bd.at {w : World} {X R : Nat} {bs : List Bool} (h : Bd w X R bs) (i : Nat) (hi : i < bs.length) : w.cell? ⟨R, i, none⟩ = some (.bool (bs.getD i false)) := by
  rw [Lib.cell_of_heap h.row]
  simp [List.getD_eq_getElem?_getD, hi]
theorem Bd.below {w w' : World} {X R : Nat} {bs : List Bool} (h : Bd w X R bs) (hb : Below w.heap.size w w') : Bd w' X R bs :=
  ⟨(hb.block _ (heap_lt h.box)).trans h.box, (hb.block _ (heap_lt h.row)).trans h.row⟩

set_option maxRecDepth 100000 in
set_option maxHeartbeats 400000 in
theorem known_any (X R : Nat) (bs : List Bool) (t : Sc.Term) (w : World) (hB : Bd w X R bs) (ht : t.var < bs.length) :
    Calls Try.prog 53 #[ptermVal t, .pointer (some ⟨X, 0, none⟩)] w fun e w' => e = .returned (.bool (Sc.known bs t)) ∧ Below w.heap.size w w' := by
  have hc0 := hB.c0
  have hX := heap_lt hB.box
  have hR := heap_lt hB.row
  have hb0 : ∀ o, Below w.heap.size w (w.alloc o) := fun o => (Below.refl _ _).alloc (Nat.le_refl _) o
  unfold Sc.known
  by_cases h : t.var < 0
  · have g : decide (t.var < 0) = true := decide_eq_true h
    go_enter Try.func53, Try.ntmps53
    go_wp2
    go_ret
    exact ⟨by rw [g]; rfl, hb0 _⟩
  · have g : decide (t.var < 0) = false := decide_eq_false h
    obtain ⟨k, hk⟩ : ∃ k : Nat, t.var = k := ⟨t.var.toNat, by omega⟩
    have hkl : k < bs.length := by omega
    have hcR := hB.at k hkl
    obtain ⟨var, nn⟩ := t
    simp only at hk ht h g
    subst hk
    clear h ht hB
    go_enter Try.func53, Try.ntmps53
    go_wp2_with fail
    go_ret
    exact ⟨by rw [g]; simp [hkl], hb0 _⟩

theorem enters53 : Enters 53 := enters_of Try.func53 (by kernel_rfl) rfl
/-- What binds may lean on. -/
def LitGood (n : Nat) (x : Sc.Lit) : Prop := (x.kind = 4 → x.terms.length = 3) ∧ (∀ t, t ∈ x.terms → t.var < n) ∧ x.terms.length ≤ 9223372036854775807
theorem good_at {n : Nat} {x : Sc.Lit} (h : LitGood n x) (i : Nat) (hi : i < x.terms.length) : (Sc.termD x.terms i).var < n := by
  refine h.2.1 _ ?_
  unfold Sc.termD
  rw [List.getD_eq_getElem?_getD, List.getElem?_eq_getElem hi]
  exact List.getElem_mem hi
theorem pterms_at {w : World} {ao : Option Addr} {l : List Sc.Term} (h : PTermsAt w ao l) (n : Nat) (hn : n < l.length) : ∃ b off, ao = some ⟨b, off, none⟩ ∧ ∀ i, i < l.length → PTermIn w b (off + i * 2) (Sc.termD l i) := by
  rcases h with h | ⟨b, off, ha, hc⟩
  · rw [h] at hn; exact absurd hn (by simp)
  · exact ⟨b, off, ha, hc⟩

set_option maxRecDepth 100000 in
set_option maxHeartbeats 1000000 in
theorem binds_any (X R : Nat) (bs : List Bool) (x : Sc.Lit) (v : Value) (w : World) (hB : Bd w X R bs) (hT : PTermsV w v x.terms) (hG : LitGood bs.length x) :
    Calls Try.prog 54 #[plitVal x v, .func (.func 53) #[] #[.pointer (some ⟨X, 0, none⟩)]] w fun e w' => ∃ u, e = .returned u ∧ (∀ y, PTermsV y v x.terms → PTermsV y u (Sc.binds bs x)) ∧ Below w.heap.size w w' := by
  have he := enters53
  unfold Enters at he
  have hb0 : ∀ o, Below w.heap.size w (w.alloc o) := fun o => (Below.refl _ _).alloc (Nat.le_refl _) o
  obtain ⟨kind, op, pred, ts⟩ := x
  obtain ⟨ao, cap, rfl, hcap, hA⟩ := hT
  have hA : PTermsAt w ao ts := hA
  have HT : Hid (PTermsAt w ao ts) := hA
  have hcap : ts.length ≤ cap := hcap
  cases g1 : (kind == 1)
  · have h1 : ¬ kind = 1 := by simpa using g1
    cases g4 : (kind == 4)
    · have h4 : ¬ kind = 4 := by simpa using g4
      have HV : Hid (Sc.binds bs ⟨kind, op, pred, ts⟩ = []) := by show _ = _; simp [Sc.binds, h1, h4]
      clear h1 h4 hA
      go_enter Try.func54, Try.ntmps54
      go_wp2_with fail
      go_ret
      exact ⟨_, rfl, by rw [HV.out]; exact fun _ _ => ⟨none, 0, rfl, Nat.le_refl _, .inl rfl⟩, hb0 _⟩
    · have h4 : kind = 4 := by simpa using g4
      have hl : ts.length = 3 := hG.1 h4
      obtain ⟨b, off, rfl, hc⟩ := pterms_at hA 0 (by omega)
      obtain ⟨a0, a1⟩ := hc 0 (by omega)
      obtain ⟨a2, a3⟩ := hc 1 (by omega)
      have hv0 : (Sc.termD ts 0).var < bs.length := good_at hG 0 (show 0 < ts.length by omega)
      have hv1 : (Sc.termD ts 1).var < bs.length := good_at hG 1 (show 1 < ts.length by omega)
      simp only [Nat.zero_mul, Nat.one_mul, Nat.add_zero] at a0 a1 a2 a3
      have hbw : b < w.heap.size := World.block_lt_of_cell? w _ a0
      have HK0 : Hid (∀ y, Below w.heap.size w y → Calls Try.prog 53 #[ptermVal (Sc.termD ts 0), .pointer (some ⟨X, 0, none⟩)] y fun e w' => e = .returned (.bool (Sc.known bs (Sc.termD ts 0))) ∧ Below y.heap.size y w') := fun y hy => known_any X R bs _ y (hB.below hy) hv0
      have HK1 : Hid (∀ y, Below w.heap.size w y → Calls Try.prog 53 #[ptermVal (Sc.termD ts 1), .pointer (some ⟨X, 0, none⟩)] y fun e w' => e = .returned (.bool (Sc.known bs (Sc.termD ts 1))) ∧ Below y.heap.size y w') := fun y hy => known_any X R bs _ y (hB.below hy) hv1
      have HB : Hid (Sc.binds bs ⟨kind, op, pred, ts⟩ = if Sc.known bs (Sc.termD ts 0) = true ∧ Sc.known bs (Sc.termD ts 1) = true then ts.drop 2 else []) := by show _ = _; simp [Sc.binds, h4]
      have HC : Hid (∀ i, i < ts.length → PTermIn w b (off + i * 2) (Sc.termD ts i)) := hc
      subst h4
      have hl' : Hid (ts.length = 3) := hl
      have hcap3 : 3 ≤ cap := by omega
      have hX0 := heap_alloc_new w (.cells #[.int .i64 4, .int .i64 op, .int .i64 pred, .slice (some ⟨b, off, none⟩) 3 cap] 52)
      have hbx := hb0 (.cells #[.int .i64 4, .int .i64 op, .int .i64 pred, .slice (some ⟨b, off, none⟩) 3 cap] 52)
      rw [show ts.length = 3 from hl]
      clear hc hA HT hB hG hcap hl h1
      generalize hT0 : Sc.termD ts 0 = t0 at *
      generalize hT1 : Sc.termD ts 1 = t1 at *
      clear hT0 hT1
      go_enter Try.func54, Try.ntmps54
      go_wp2_with fail
      refine Calls.mono (HK0.out _ hbx) ?_
      rintro e w1 ⟨rfl, hb1⟩
      have hX1 := (hb1.block _ (heap_lt hX0)).trans hX0
      have hw1 := hbx.trans (hb1.mono hbx.size)
      have b0 := cell_below hw1 a0
      have b1 := cell_below hw1 a1
      have b2 := cell_below hw1 a2
      have b3 := cell_below hw1 a3
      have d0 : w1.cell? ⟨w.heap.size, 3, none⟩ = some (.slice (some ⟨b, off, none⟩) 3 cap) := by rw [Lib.cell_of_heap hX1]; rfl
      clear hb1 hX0 hbx HK0
      cases hk0 : Sc.known bs t0
      · have HV : Hid (Sc.binds bs ⟨4, op, pred, ts⟩ = []) := by show _ = _; rw [HB.out, hk0]; simp
        go_wp2_with fail
        go_ret
        exact ⟨_, rfl, by rw [HV.out]; exact fun _ _ => ⟨none, 0, rfl, Nat.le_refl _, .inl rfl⟩, hw1⟩
      · go_wp2_with fail
        refine Calls.mono (HK1.out _ hw1) ?_
        rintro e w2 ⟨rfl, hb2⟩
        have hX2 := (hb2.block _ (heap_lt hX1)).trans hX1
        have hw2 := hw1.trans (hb2.mono hw1.size)
        have d2 : w2.cell? ⟨w.heap.size, 3, none⟩ = some (.slice (some ⟨b, off, none⟩) 3 cap) := by rw [Lib.cell_of_heap hX2]; rfl
        clear hb2 hX1 d0 b0 b1 b2 b3
        cases hk1 : Sc.known bs t1
        · have HV : Hid (Sc.binds bs ⟨4, op, pred, ts⟩ = []) := by show _ = _; rw [HB.out, hk0, hk1]; simp
          go_wp2_with fail
          go_ret
          exact ⟨_, rfl, by rw [HV.out]; exact fun _ _ => ⟨none, 0, rfl, Nat.le_refl _, .inl rfl⟩, hw2⟩
        · have HV : Hid (Sc.binds bs ⟨4, op, pred, ts⟩ = ts.drop 2) := by show _ = _; rw [HB.out, hk0, hk1]; simp
          go_wp2_with fail
          go_ret
          refine ⟨_, rfl, ?_, hw2⟩
          rw [HV.out]
          show ∀ y, PTermsV y (.slice (some ⟨b, off, none⟩) 3 cap) ts → PTermsV y (.slice (some ⟨b, off + 4, none⟩) 1 (cap - 2)) (ts.drop 2)
          intro y hy
          have hl1 : (ts.drop 2).length = 1 := by rw [List.length_drop, hl'.out]
          refine ⟨some ⟨b, off + 4, none⟩, cap - 2, by rw [hl1], by omega, .inr ⟨b, off + 4, rfl, fun i hi => ?_⟩⟩
          obtain rfl : i = 0 := by omega
          obtain ⟨ao', cap', hv, _, hy⟩ := hy
          injection hv with e1 e2 e3
          subst e1
          obtain ⟨b', off', hb', hy⟩ := pterms_at hy 2 (by rw [hl'.out]; omega)
          obtain ⟨rfl, rfl⟩ : b = b' ∧ off = off' := by simpa using hb'
          have h2 := hy 2 (by rw [hl'.out]; omega)
          have hd : Sc.termD (ts.drop 2) 0 = Sc.termD ts 2 := by simp [Sc.termD, List.getD_eq_getElem?_getD]
          rw [hd]
          exact h2
  · have h1 : kind = 1 := by simpa using g1
    have HV : Hid (Sc.binds bs ⟨kind, op, pred, ts⟩ = ts) := by show _ = _; simp [Sc.binds, h1]
    clear h1 hA
    go_enter Try.func54, Try.ntmps54
    go_wp2_with fail
    go_ret
    exact ⟨_, rfl, by rw [HV.out]; exact fun _ h => h, hb0 _⟩

set_option maxRecDepth 100000 in
set_option maxHeartbeats 400000 in
theorem index_any (R : Nat) (bs : List Bool) (n cap : Nat) (w : World) (hn : bs.length = n) (hmax : n ≤ 9223372036854775807) (hB : ∀ i, i < n → w.cell? ⟨R, i, none⟩ = some (.bool (bs.getD i false))) :
    Calls Try.prog 60 #[.slice (some ⟨R, 0, none⟩) n cap, .bool false] w fun e w' => ∃ r : Int, e = .returned (.int .i64 r) ∧ decide (0 ≤ r) = !(bs.all id) ∧ ∃ k, w' = w.drewN k := by
  have HN : Hid (bs.length = n) := hn
  clear hn
  go_enter Try.func60, Try.ntmps60
  go_wp2_with fail
  go_loopw [8] (fun i wr => ∃ k : Nat, k ≤ n ∧ i = .int .i64 k ∧ bs.all id = (bs.drop k).all id ∧ ∃ q, wr = w.drewN q) (fun i _ => n - (intOf i).toNat)
  case atStart => exact ⟨0, Nat.zero_le _, rfl, rfl, 0, rfl⟩
  case round =>
    obtain ⟨k, hk, rfl, hall, q, rfl⟩ := hrel
    have HA : Hid (bs.all id = (bs.drop k).all id) := hall
    clear hall
    by_cases hlt : k < n
    · have hc := hB k hlt
      have HD : Hid (bs.all id = (bs.getD k false && (bs.drop (k + 1)).all id)) := HA.out.trans (all_drop _ _ _ k (by rw [HN.out]; exact hlt))
      clear hB HA
      generalize bs.getD k false = x at *
      cases x
      · have HV : Hid (bs.all id = false) := HD.out
        go_wp2_with fail
        go_ret
        exact ⟨k, rfl, by rw [HV.out]; simp, _, rfl⟩
      · have HV : Hid (bs.all id = (bs.drop (k + 1)).all id) := by show _ = _; rw [HD.out]; rfl
        clear HD
        go_wp2_with fail
        go_roundw
        case rel => exact ⟨k + 1, by omega, by go_num, HV.out, _, rfl⟩
        case measure => simp [intOf]; omega
    · have HV : Hid (bs.all id = true) := by show _ = _; rw [HA.out, List.drop_of_length_le (by rw [HN.out]; omega)]; rfl
      clear hB
      go_wp2_with fail
      go_ret
      exact ⟨-1, rfl, by rw [HV.out]; rfl, _, rfl⟩

set_option maxRecDepth 100000 in
set_option maxHeartbeats 400000 in
theorem contains_any (R : Nat) (bs : List Bool) (n cap : Nat) (w : World) (hn : bs.length = n) (hmax : n ≤ 9223372036854775807) (hB : ∀ i, i < n → w.cell? ⟨R, i, none⟩ = some (.bool (bs.getD i false))) :
    Calls Try.prog 55 #[.slice (some ⟨R, 0, none⟩) n cap, .bool false] w fun e w' => e = .returned (.bool (!(bs.all id))) ∧ ∃ k, w' = w.drewN k := by
  go_enter Try.func55, Try.ntmps55
  go_wp2_with fail
  refine (index_any R bs n cap w hn hmax hB).mono ?_
  rintro e w1 ⟨r, rfl, hr, k, rfl⟩
  go_wp2_with fail
  go_ret
  exact ⟨rfl, _, rfl⟩

/-- A rule whose literals are right. -/
def RuleGood (r : Sc.Rule) : Prop := 0 ≤ r.vars ∧ r.vars ≤ 8 ∧ r.body.length ≤ 4 ∧ ∀ i, i < r.body.length → LitGood r.vars.toNat (Sc.litD r.body i)

/-- What stands while isSafe goes on. -/
structure SInv (w : World) (rb : Obj) (X R : Nat) (bs : List Bool) (wr : World) : Prop where
  bel : Below w.heap.size w wr
  box : wr.heap[w.heap.size]? = some rb
  bd : Bd wr X R bs
  r0 : w.heap.size < R
  r1 : R < X
theorem SInv.below {w wr w2 : World} {rb : Obj} {X R : Nat} {bs : List Bool} (h : SInv w rb X R bs wr) (hb : Below wr.heap.size wr w2) : SInv w rb X R bs w2 :=
  ⟨h.bel.trans (hb.mono h.bel.size), (hb.block _ (heap_lt h.box)).trans h.box, h.bd.below hb, h.r0, h.r1⟩
theorem SInv.set {w wr : World} {rb : Obj} {X R : Nat} {bs : List Bool} (h : SInv w rb X R bs wr) (k : Nat) : SInv w rb X R (bs.set k true) (wr.setCell ⟨R, k, none⟩ (.bool true)) := by
  have h0 := h.r0
  have h1 := h.r1
  refine ⟨h.bel.setCell (p := ⟨R, k, none⟩) (Nat.le_of_lt h0) _, ?_, ⟨?_, ?_⟩, h0, h1⟩
  · rw [Below.heap_setCell _ _ _ _ (show ¬ w.heap.size = R by omega)]; exact h.box
  · rw [Below.heap_setCell _ _ _ _ (show ¬ X = R by omega), List.length_set]; exact h.bd.box
  · rw [Lib.heap_setCell_same h.bd.row]
    simp [List.map_set]
theorem made_bools (n : Nat) : madeCells #[Value.bool false] n = ((List.replicate n false).map Value.bool).toArray := by
  apply Array.ext
  · simp [size_madeCells]
  · intro i h1 h2
    simp [madeCells, Nat.mod_one]
theorem rounds_step (body : List Sc.Lit) (n k : Nat) (h : k < n) (b : List Bool) : Sc.rounds body (n - k) b = Sc.rounds body (n - (k + 1)) (Sc.round body b) := by
  obtain ⟨m, hm⟩ : ∃ m, n - k = m + 1 := ⟨n - k - 1, by omega⟩
  rw [hm, show n - (k + 1) = m by omega]
  rfl
theorem foldl_drop {α β : Type} (f : β → α → β) (d : α) (l : List α) (k : Nat) (h : k < l.length) (b : β) : (l.drop k).foldl f b = (l.drop (k + 1)).foldl f (f b (l.getD k d)) := by
  rw [List.drop_eq_getElem_cons h, List.foldl_cons, List.getD_eq_getElem?_getD, List.getElem?_eq_getElem h]
  rfl
theorem binds_sub {bs : List Bool} {x : Sc.Lit} {t : Sc.Term} (h : t ∈ Sc.binds bs x) : t ∈ x.terms := by
  unfold Sc.binds at h
  split at h
  · exact h
  · split at h
    · exact List.mem_of_mem_drop h
    · simp at h
theorem binds_len (bs : List Bool) (x : Sc.Lit) : (Sc.binds bs x).length ≤ x.terms.length := by
  unfold Sc.binds
  split
  · exact Nat.le_refl _
  · split
    · simp
    · simp
theorem termD_mem {l : List Sc.Term} {i : Nat} (h : i < l.length) : Sc.termD l i ∈ l := by
  unfold Sc.termD
  rw [List.getD_eq_getElem?_getD, List.getElem?_eq_getElem h]
  exact List.getElem_mem h
theorem plits_at {w : World} {ao : Option Addr} {l : List Sc.Lit} (h : PLitsAt w ao l) (n : Nat) (hn : n < l.length) : ∃ b off, ao = some ⟨b, off, none⟩ ∧ PLitIn w b (off + n * 4) (Sc.litD l n) := by
  rcases h with h | ⟨b, off, ha, hc⟩
  · rw [h] at hn; exact absurd hn (by simp)
  · exact ⟨b, off, ha, hc n hn⟩

set_option maxRecDepth 100000 in
set_option maxHeartbeats 1000000 in
theorem isSafe_any (r : Sc.Rule) (vt vb : Value) (w : World) (hL : PLitsV w vb r.body) (hG : RuleGood r) :
    Calls Try.prog 46 #[pruleVal r vt vb] w fun e w' => e = .returned (.bool (Sc.safe r)) ∧ Below w.heap.size w w' := by
  obtain ⟨pred, ts, fold, body, vars⟩ := r
  obtain ⟨h0, h8, h4, hG⟩ := hG
  obtain ⟨nv, hnv⟩ : ∃ nv : Nat, vars = nv := ⟨vars.toNat, by simp only at h0; omega⟩
  subst hnv
  simp only [Int.toNat_natCast] at *
  obtain ⟨ab, cb, rfl, hL⟩ := hL
  have hmk := run_make_row' (P := Try.prog) 38 4 (.bool false) 1 Try.underlying38 (by kernel_rfl) rfl .i64 .i64 nv (by omega) (by omega)
  have hmf : ∀ (fn : Fn) (first cap : Array Value) (w : World), (Instr.makeFunc fn first cap).run Try.prog w = .ok (.func fn first cap) w := fun _ _ _ _ => rfl
  have hst : SInv w (.cells #[.int .i64 pred, vt, .int .i64 fold, .slice ab body.length cb, .int .i64 nv] 48) (w.heap.size + 1 + 1) (w.heap.size + 1) (List.replicate nv false) (((w.alloc (.cells #[.int .i64 pred, vt, .int .i64 fold, .slice ab body.length cb, .int .i64 nv] 48)).alloc (.cells (madeCells #[Value.bool false] nv) 4)).alloc (.cells #[.slice (some ⟨w.heap.size + 1, 0, none⟩) nv nv] 38)) := by
    have e1 := heap_alloc_new w (.cells #[.int .i64 pred, vt, .int .i64 fold, .slice ab body.length cb, .int .i64 nv] 48)
    have e2 := heap_alloc_new (w.alloc (.cells #[.int .i64 pred, vt, .int .i64 fold, .slice ab body.length cb, .int .i64 nv] 48)) (.cells (madeCells #[Value.bool false] nv) 4)
    have e3 := heap_alloc_new ((w.alloc (.cells #[.int .i64 pred, vt, .int .i64 fold, .slice ab body.length cb, .int .i64 nv] 48)).alloc (.cells (madeCells #[Value.bool false] nv) 4)) (.cells #[.slice (some ⟨w.heap.size + 1, 0, none⟩) nv nv] 38)
    have s1 : (w.alloc (.cells #[.int .i64 pred, vt, .int .i64 fold, .slice ab body.length cb, .int .i64 nv] 48)).heap.size = w.heap.size + 1 := by simp
    have s2 : ((w.alloc (.cells #[.int .i64 pred, vt, .int .i64 fold, .slice ab body.length cb, .int .i64 nv] 48)).alloc (.cells (madeCells #[Value.bool false] nv) 4)).heap.size = w.heap.size + 1 + 1 := by simp
    rw [s1] at e2
    rw [s2] at e3
    have B : ∀ (u : World) (o : Obj), Below u.heap.size u (u.alloc o) := fun u o => (Below.refl _ _).alloc (Nat.le_refl _) o
    have b2 := B (w.alloc (.cells #[.int .i64 pred, vt, .int .i64 fold, .slice ab body.length cb, .int .i64 nv] 48)) (.cells (madeCells #[Value.bool false] nv) 4)
    have b3 := B ((w.alloc (.cells #[.int .i64 pred, vt, .int .i64 fold, .slice ab body.length cb, .int .i64 nv] 48)).alloc (.cells (madeCells #[Value.bool false] nv) 4)) (.cells #[.slice (some ⟨w.heap.size + 1, 0, none⟩) nv nv] 38)
    have b1 := B w (.cells #[.int .i64 pred, vt, .int .i64 fold, .slice ab body.length cb, .int .i64 nv] 48)
    have b12 := b1.trans (b2.mono b1.size)
    refine ⟨b12.trans (b3.mono b12.size), (b3.block _ (by rw [s2]; omega)).trans ((b2.block _ (by rw [s1]; omega)).trans e1), ⟨by simpa using e3, ?_⟩, by omega, by omega⟩
    rw [← made_bools]
    exact (b3.block _ (by rw [s2]; omega)).trans e2
  have HS : Hid (Sc.safe ⟨pred, ts, fold, body, nv⟩ = (Sc.rounds body body.length (List.replicate nv false)).all id) := rfl
  have hlen0 : (List.replicate nv false).length = nv := by simp
  go_enter Try.func46, Try.ntmps46
  go_wp2_with fail
  generalize ((w.alloc (.cells #[.int .i64 pred, vt, .int .i64 fold, .slice ab body.length cb, .int .i64 nv] 48)).alloc (.cells (madeCells #[Value.bool false] nv) 4)).alloc (.cells #[.slice (some ⟨w.heap.size + 1, 0, none⟩) nv nv] 38) = w0 at *
  generalize w.heap.size + 1 + 1 = X at *
  generalize hR : w.heap.size + 1 = R at *
  clear hR
  generalize List.replicate nv false = bz at *
  generalize hrb : Obj.cells #[.int .i64 pred, vt, .int .i64 fold, .slice ab body.length cb, .int .i64 nv] 48 = rb at *
  have HRB : Hid _ := hrb
  clear hrb
  go_loopw [16] (fun i wr => ∃ (k : Nat) (bs : List Bool), k ≤ body.length ∧ i = .int .i64 k ∧ SInv w rb X R bs wr ∧ bs.length = nv ∧ Sc.rounds body (body.length - k) bs = Sc.rounds body body.length bz) (fun i _ => body.length - (intOf i).toNat)
  case atStart => exact ⟨0, bz, Nat.zero_le _, rfl, hst, hlen0, rfl⟩
  case round =>
    obtain ⟨k, bs0, hk, rfl, hI, hn0, hrd⟩ := hrel
    have HR : Hid _ := hrd
    clear hrd hst hlen0
    have cb3 : wr.cell? ⟨w.heap.size, 3, none⟩ = some (.slice ab body.length cb) := by rw [Lib.cell_of_heap (hI.box.trans (congrArg some HRB.out.symm))]; rfl
    by_cases hlt : k < body.length
    · go_wp2_with fail
      go_loopw [21] (fun i wq => ∃ (j : Nat) (bs : List Bool), j ≤ body.length ∧ i = .int .i64 j ∧ SInv w rb X R bs wq ∧ bs.length = nv ∧ (body.drop j).foldl Sc.bindLit bs = Sc.round body bs0) (fun i _ => body.length - (intOf i).toNat)
      case atStart => exact ⟨0, bs0, Nat.zero_le _, rfl, hI, hn0, rfl⟩
      case round =>
        clear hI cb3 hn0
        obtain ⟨j, bs1, hj, rfl, hI, hn1, hfd⟩ := hrel
        have HFD : Hid _ := hfd
        clear hfd
        by_cases hjl : j < body.length
        · obtain ⟨b, off, rfl, p0, p1, p2, v, p3, hT⟩ := plits_at hL j hjl
          have HT : Hid (PTermsV w v (Sc.litD body j).terms) := hT
          obtain ⟨at_, ct, rfl, _, _⟩ := hT
          have q0 := cell_below hI.bel p0
          have q1 := cell_below hI.bel p1
          have q2 := cell_below hI.bel p2
          have q3 := cell_below hI.bel p3
          have hg := hG j hjl
          rw [← hn1] at hg
          have HF2 : Hid ((body.drop (j + 1)).foldl Sc.bindLit (Sc.bindLit bs1 (Sc.litD body j)) = Sc.round body bs0) := (foldl_drop Sc.bindLit ⟨0, 0, 0, []⟩ body j hjl bs1).symm.trans HFD.out
          have hb1 : Below wr.heap.size wr (wr.alloc (.cells #[.int .i64 (Sc.litD body j).kind, .int .i64 (Sc.litD body j).op, .int .i64 (Sc.litD body j).pred, .slice at_ (Sc.litD body j).terms.length ct] 52)) := (Below.refl _ _).alloc (Nat.le_refl _) _
          have hI1 := hI.below hb1
          clear p0 p1 p2 p3 hb1 hI HFD
          generalize hx : Sc.litD body j = x at *
          clear hx
          go_wp2_with fail
          refine Calls.mono (binds_any X R bs1 x (.slice at_ x.terms.length ct) _ hI1.bd (ptermsV_below HT.out hI1.bel) hg) ?_
          rintro e w2 ⟨u, rfl, hu, hb2⟩
          have hI2 := hI1.below hb2
          have hU := hu w HT.out
          have hv : ∀ i, i < (Sc.binds bs1 x).length → (Sc.termD (Sc.binds bs1 x) i).var < nv := fun i hi => by
            have := hg.2.1 _ (binds_sub (termD_mem hi))
            rw [hn1] at this
            exact this
          have hql : (Sc.binds bs1 x).length ≤ 9223372036854775807 := Nat.le_trans (binds_len bs1 x) hg.2.2
          have HV2 : Hid ((body.drop (j + 1)).foldl Sc.bindLit (Sc.bindAll bs1 (Sc.binds bs1 x)) = Sc.round body bs0) := HF2.out
          clear hu hI1 hb2 q0 q1 q2 q3 HT HF2
          generalize Sc.binds bs1 x = q at *
          obtain ⟨ao, cp, rfl, _, hU⟩ := hU
          go_wp2_with fail
          go_loopw [29] (fun i wz => ∃ (m : Nat) (bs : List Bool), m ≤ q.length ∧ i = .int .i64 m ∧ SInv w rb X R bs wz ∧ bs.length = nv ∧ Sc.bindAll bs (q.drop m) = Sc.bindAll bs1 q) (fun i _ => q.length - (intOf i).toNat)
          case atStart => exact ⟨0, bs1, Nat.zero_le _, rfl, hI2, hn1, rfl⟩
          case round =>
            clear hI2
            obtain ⟨m, bs2, hm, rfl, hI, hn2, hbd⟩ := hrel
            have HBD : Hid _ := hbd
            clear hbd
            by_cases hml : m < q.length
            · obtain ⟨b3, off3, rfl, hc⟩ := pterms_at hU m hml
              obtain ⟨r0, r1⟩ := hc m hml
              have s0 := cell_below hI.bel r0
              have s1 := cell_below hI.bel r1
              have hvm := hv m hml
              have HB2 : Hid (Sc.bindAll (Sc.bind1 bs2 (Sc.termD q m)) (q.drop (m + 1)) = Sc.bindAll bs1 q) := (foldl_drop Sc.bind1 ⟨0, 0⟩ q m hml bs2).symm.trans HBD.out
              clear HBD r0 r1 hc hU hv
              generalize hT0 : Sc.termD q m = t0 at *
              clear hT0
              obtain ⟨var, nn⟩ := t0
              have hb1 : Below wr.heap.size wr (wr.alloc (.cells #[.int .i64 var, .int .i64 nn] 57)) := (Below.refl _ _).alloc (Nat.le_refl _) _
              have hI3 := hI.below hb1
              have hRlt := heap_lt hI.bd.row
              have hXlt := heap_lt hI.bd.box
              by_cases h5 : 0 ≤ var
              · have g5 : decide (0 ≤ var) = true := decide_eq_true h5
                obtain ⟨kv, rfl⟩ : ∃ kv : Nat, var = kv := ⟨var.toNat, by omega⟩
                have hkl : kv < nv := by simp only at hvm; omega
                have hc0 := hI3.bd.c0
                rw [hn2] at hc0
                have hcR := hI3.bd.at kv (by omega)
                have hfR := Lib.frozen_of_heap hI3.bd.row kv
                have hI4 := (hI.set kv).below ((Below.refl _ _).alloc (Nat.le_refl _) (.cells #[.int .i64 kv, .int .i64 nn] 57))
                have HV : Hid (Sc.bindAll (bs2.set kv true) (q.drop (m + 1)) = Sc.bindAll bs1 q) := by
                  show _ = _
                  rw [← HB2.out]
                  simp [Sc.bind1]
                have hn4 : (bs2.set kv true).length = nv := by rw [List.length_set]; exact hn2
                clear HB2
                go_wp2_with fail
                go_roundw
                case rel => exact ⟨m + 1, _, by omega, by go_num, hI4, hn4, HV.out⟩
                case measure => simp [intOf]; omega
              · have g5 : decide (0 ≤ var) = false := decide_eq_false h5
                have HV : Hid (Sc.bindAll bs2 (q.drop (m + 1)) = Sc.bindAll bs1 q) := by
                  show _ = _
                  rw [← HB2.out]
                  simp [Sc.bind1, h5]
                clear HB2
                go_wp2_with fail
                go_roundw
                case rel => exact ⟨m + 1, _, by omega, by go_num, hI3, hn2, HV.out⟩
                case measure => simp [intOf]; omega
            · have hend : Sc.bindAll bs2 (q.drop m) = bs2 := by rw [List.drop_of_length_le (by omega)]; rfl
              have HV : Hid ((body.drop (j + 1)).foldl Sc.bindLit bs2 = Sc.round body bs0) := by
                show _ = _
                rw [← HV2.out, ← HBD.out, hend]
              clear hU hv hend
              go_wp2_with fail
              go_roundw
              case rel => exact ⟨j + 1, _, by omega, by go_num, hI, hn2, HV.out⟩
              case measure => simp [intOf]; omega
        · have hend : (body.drop j).foldl Sc.bindLit bs1 = bs1 := by rw [List.drop_of_length_le (by omega)]; rfl
          have HV : Hid (Sc.rounds body (body.length - (k + 1)) bs1 = Sc.rounds body body.length bz) := by
            show _ = _
            rw [← HR.out, rounds_step body _ k hlt, ← HFD.out, hend]
          clear hend
          go_wp2_with fail
          go_roundw
          case rel => exact ⟨k + 1, _, by omega, by go_num, hI, hn1, HV.out⟩
          case measure => simp [intOf]; omega
    · have hk2 : k = body.length := by omega
      have HV : Hid (bs0 = Sc.rounds body body.length bz) := by
        show _ = _
        have := HR.out
        rw [hk2, Nat.sub_self] at this
        exact this
      have hc0 := hI.bd.c0
      rw [hn0] at hc0
      clear hk2
      go_wp2_with fail
      refine Calls.mono (contains_any R bs0 nv nv _ hn0 (by omega) (fun i hi => hI.bd.at i (by omega))) ?_
      rintro e w2 ⟨rfl, q, rfl⟩
      have hbel := hI.bel
      go_wp2_with fail
      go_ret
      exact ⟨by rw [HS.out, ← HV.out]; simp, below_drewN hbel _⟩

end Go.Proofs.Ythenjegmigeieaa

/- Package strata: hangs, and the iterator that it hands back. -/
namespace Go.Proofs.Ythenjegmigeieaa
open Go.RowKit Go.Shelf

attribute [local go_sem] Oper.semAt_some

/-- What comes of a rule: a predicate that there is, and 0 or 1. -/
abbrev HP (n : Nat) := { p : Int × Int // 0 ≤ p.1 ∧ p.1 < (n : Int) ∧ (p.2 = 0 ∨ p.2 = 1) }
namespace St
theorem strict01 (r : Sc.Rule) (x : Sc.Lit) : strict r x = 0 ∨ strict r x = 1 := by
  unfold strict
  split
  · exact .inr rfl
  · exact .inl rfl
/-- The predicates on which a rule's head hangs, and how much more. -/
def pair1 (n : Nat) (r : Sc.Rule) (x : Sc.Lit) : Option (HP n) := if h : hang x = true ∧ 0 ≤ x.pred ∧ x.pred < (n : Int) then some ⟨(x.pred, strict r x), h.2.1, h.2.2, strict01 r x⟩ else none
def pairs (n : Nat) (r : Sc.Rule) (l : List Sc.Lit) : List (HP n) := l.filterMap (pair1 n r)
theorem pairs_snoc (n : Nat) (r : Sc.Rule) (l : List Sc.Lit) (x : Sc.Lit) : pairs n r (l ++ [x]) = pairs n r l ++ (pair1 n r x).toList := by
  unfold pairs
  rw [List.filterMap_append, List.filterMap_cons, List.filterMap_nil]
  cases pair1 n r x <;> rfl
theorem pairs_length (n : Nat) (r : Sc.Rule) (l : List Sc.Lit) : (pairs n r l).length ≤ l.length := List.length_filterMap_le _ _
/-- All that a rule hangs on is there. -/
def Bound (n : Nat) (l : List Sc.Lit) : Prop := ∀ x, x ∈ l → hang x = true → 0 ≤ x.pred ∧ x.pred < (n : Int)
theorem pair1_some {n : Nat} {r : Sc.Rule} {x : Sc.Lit} (h : hang x = true) (h0 : 0 ≤ x.pred) (h1 : x.pred < (n : Int)) : pair1 n r x = some ⟨(x.pred, strict r x), h0, h1, strict01 r x⟩ := by
  unfold pair1
  rw [dif_pos ⟨h, h0, h1⟩]
theorem pair1_none {n : Nat} {r : Sc.Rule} {x : Sc.Lit} (h : ¬ hang x = true) : pair1 n r x = none := by
  unfold pair1
  rw [dif_neg (fun k => h k.1)]
theorem pairs_edges {n : Nat} {r : Sc.Rule} : ∀ {l : List Sc.Lit}, Bound n l → (pairs n r l).map (fun p => ((r.pred.toNat, p.1.1.toNat, p.1.2) : Fx.Edge)) = (l.filter hang).map fun x => (r.pred.toNat, x.pred.toNat, strict r x)
  | [], _ => rfl
  | x :: l, h => by
    have ih := pairs_edges (r := r) (l := l) (fun y hy => h y (List.mem_cons_of_mem _ hy))
    unfold pairs at ih ⊢
    by_cases hx : hang x = true
    · have hb := h x List.mem_cons_self hx
      rw [List.filterMap_cons, pair1_some hx hb.1 hb.2, List.filter_cons, if_pos hx, List.map_cons, List.map_cons, ih]
    · rw [List.filterMap_cons, pair1_none hx, List.filter_cons, if_neg hx, ih]
end St

/-- What a round keeps: what lay below n0, and the box of the rule. -/
def HK (n0 RB : Nat) (W W' : World) : Prop := Below n0 W W' ∧ ∀ o : Obj, o.isCells = true → W.heap[RB]? = some o → W'.heap[RB]? = some o
theorem HK.refl (n0 RB : Nat) (W : World) : HK n0 RB W W := ⟨Below.refl _ _, fun _ _ h => h⟩
theorem HK.trans {n0 RB : Nat} {A B C : World} (h : HK n0 RB A B) (k : HK n0 RB B C) : HK n0 RB A C := ⟨h.1.trans k.1, fun o ho hA => k.2 o ho (h.2 o ho hA)⟩
theorem HK.put {n0 RB : Nat} {w : World} (hn : n0 ≤ w.heap.size) (W : World) (l : Nat) (o o' : Obj) (hl : w.heap.size ≤ l) (h : W.heap[l]? = some o) (h1 : o.isCells = false) (h2 : o.isWalk = false) : HK n0 RB W (W.putObj l o') := by
  refine ⟨belowK_b hn W l o o' hl h h1 h2, fun q hq hR => ?_⟩
  by_cases hlr : RB = l
  · subst hlr
    rw [h] at hR
    cases hR
    rw [h1] at hq
    cases hq
  · rw [World.putObj_heap_other hlr]
    exact hR
theorem HK.alloc {n0 RB : Nat} {W : World} (hn : n0 ≤ W.heap.size) (o : Obj) : HK n0 RB W (W.alloc o) :=
  ⟨(Below.refl _ _).alloc hn o, fun _ _ hR => ((Below.refl W.heap.size W).alloc (Nat.le_refl _) o).block RB (Array.getElem?_eq_some_iff.mp hR).1 |>.trans hR⟩

abbrev hangEnc {n : Nat} (p : HP n) : Array Value := #[.int .i64 p.1.1, .int .i64 p.1.2]

set_option maxRecDepth 100000 in
set_option maxHeartbeats 2000000 in
theorem hangs1_in (F : Fence) (n : Nat) (h78 : F.fn 38) (hro : F.round = none) (hn : 1 ≤ n) (l RB : Nat) (wp : World) (np : Nat) (r : Sc.Rule) (vt : Value) (ab : Option Addr) (cb : Nat) (hL : PLitsAt wp ab r.body) (hlen : r.body.length ≤ 9223372036854775807) (hG : St.Bound np r.body) (J Jx : List (HP np) → World → Prop) (W : World)
    (hJa : ∀ s A B, J s A → A.grownBy B none → J s B) (hWp : Below wp.heap.size wp W)
    (hY : ∀ pre x W1, J pre W1 → pre.length < r.body.length → YieldAt F (n - 1) Try.prog l (hangEnc x) W1 fun e W' =>
      (e = .returned (.bool true) ∧ J (pre ++ [x]) W' ∧ HK wp.heap.size RB W1 W') ∨ (e = .returned (.bool false) ∧ Jx (pre ++ [x]) W'))
    (hR : W.heap[RB]? = some (.cells #[.int .i64 r.pred, vt, .int .i64 r.fold, .slice ab r.body.length cb, .int .i64 r.vars] 48)) (h0 : J [] W) :
    CallsIn F n Try.prog 38 #[.func (.yield l) #[] #[], .pointer (some ⟨RB, 0, none⟩)] W fun e W' => (∃ v, e = .returned v) ∧
      ((∃ ys, ys = St.pairs np r r.body ∧ J ys W') ∨ (∃ pre, (∃ k, pre = St.pairs np r (r.body.take k)) ∧ Jx pre W')) := by
  refine callsIn_of_wp Try.func38 rfl h78 ?_ hro
  simp only [Try.ntmps38, List.size_toArray, List.length_cons, List.length_nil, Nat.reduceAdd, Nat.reduceSub, Array.replicate_succ, Array.replicate_zero, List.push_toArray, List.append_toArray, List.nil_append, List.cons_append]
  have c3 : W.cell? ⟨RB, 3, none⟩ = some (.slice ab r.body.length cb) := by rw [Lib.cell_of_heap hR]; rfl
  have HL : Hid (PLitsAt wp ab r.body) := hL
  have HY : Hid _ := hY
  have HGG : Hid _ := hG
  have HJA : Hid _ := hJa
  have HR : Hid _ := hR
  clear hL hY hJa hR hG
  gi_wp2
  gi_loopw [9] (fun i wr => ∃ k : Nat, k ≤ r.body.length ∧ i = .int .i64 k ∧ J (St.pairs np r (r.body.take k)) wr ∧ HK wp.heap.size RB W wr) (fun i _ => r.body.length - (intOf i).toNat)
  case atStart => exact ⟨0, Nat.zero_le _, rfl, h0, HK.refl _ _ _⟩
  case round =>
    clear c3 h0
    obtain ⟨k, hk, rfl, hJs, hK⟩ := hrel
    have hBp : Below wp.heap.size wp wr := hWp.trans hK.1
    have HBP : Hid _ := hBp
    have hRr := hK.2 _ rfl HR.out
    have HKK : Hid _ := hK
    have HJS : Hid _ := hJs
    have c2 : wr.cell? ⟨RB, 2, none⟩ = some (.int .i64 r.fold) := by rw [Lib.cell_of_heap hRr]; rfl
    clear hK hJs
    by_cases hlt : k < r.body.length
    · obtain ⟨b, off, rfl, p0, p1, p2, v, p3, hT⟩ := plits_at HL.out k hlt
      obtain ⟨at_, ct, rfl, _, _⟩ := hT
      have q0 := cell_below hBp p0
      have q1 := cell_below hBp p1
      have q2 := cell_below hBp p2
      have q3 := cell_below hBp p3
      have hnw : wp.heap.size ≤ wr.heap.size := hBp.size
      have HTK : Hid (r.body.take (k + 1) = r.body.take k ++ [Sc.litD r.body k]) := by
        show _ = _
        rw [List.take_add_one]
        congr 1
        unfold Sc.litD
        rw [List.getD_eq_getElem?_getD, List.getElem?_eq_getElem hlt]
        rfl
      have HPL : Hid ((St.pairs np r (r.body.take k)).length < r.body.length) := by
        show _ < _
        have := St.pairs_length np r (r.body.take k)
        rw [List.length_take] at this
        omega
      have HBX : Hid (St.hang (Sc.litD r.body k) = true → 0 ≤ (Sc.litD r.body k).pred ∧ (Sc.litD r.body k).pred < (np : Int)) := HGG.out _ (by unfold Sc.litD; rw [List.getD_eq_getElem?_getD, List.getElem?_eq_getElem hlt]; exact List.getElem_mem hlt)
      clear p0 p1 p2 p3 hBp
      generalize Sc.litD r.body k = x at *
      have e2 : (wr.alloc (.cells #[.int .i64 x.kind, .int .i64 x.op, .int .i64 x.pred, .slice at_ x.terms.length ct] 52)).cell? ⟨RB, 2, none⟩ = some (.int .i64 r.fold) := cell_below ((Below.refl _ _).alloc (Nat.le_refl _) _) c2
      have HG : Hid (J (St.pairs np r (r.body.take k)) (wr.alloc (.cells #[.int .i64 x.kind, .int .i64 x.op, .int .i64 x.pred, .slice at_ x.terms.length ct] 52))) := HJA.out _ _ _ HJS.out (World.grownBy_alloc _ _ none)
      have HA : Hid (HK wp.heap.size RB wr (wr.alloc (.cells #[.int .i64 x.kind, .int .i64 x.op, .int .i64 x.pred, .slice at_ x.terms.length ct] 52))) := HK.alloc hnw _
      obtain ⟨kd, op, pd, ts⟩ := x
      dsimp only at *
      by_cases h1 : kd = 1
      · subst h1
        have hh : St.hang ⟨1, op, pd, ts⟩ = true := by simp [St.hang]
        by_cases hfo : r.fold = 0
        · have hfb : (r.fold == 0) = true := by simp [hfo]
          have hpd := HBX.out hh
          have HS : Hid (St.pairs np r (r.body.take (k + 1)) = St.pairs np r (r.body.take k) ++ [⟨(pd, 0), hpd.1, hpd.2, .inl rfl⟩]) := by
            show _ = _
            rw [HTK.out, St.pairs_snoc, St.pair1_some hh hpd.1 hpd.2]
            simp [St.strict, hfo]
          clear hh hfo
          obtain ⟨fn, tmps, assign, body, hy, hR⟩ := HY.out _ ⟨(pd, 0), hpd.1, hpd.2, .inl rfl⟩ _ HG.out HPL.out
          dsimp only [hangEnc] at hy
          gi_wp2
          refine hR.mono ?_
          rintro e W3 (⟨rfl, hJ3, hk3⟩ | ⟨rfl, hJx3⟩)
          · gi_wp2
            go_roundw
            case rel => exact ⟨k + 1, hlt, by simp, by rw [HS.out]; exact hJ3, HK.trans HKK.out (HK.trans HA.out hk3)⟩
            case measure => simp [intOf]; omega
          · gi_wp2
            refine bodyPost_ret (results_none rfl _ _ _) rfl ?_
            exact ⟨⟨_, rfl⟩, .inr ⟨_, ⟨k + 1, HS.out.symm⟩, hJx3⟩⟩
        · have hfb : (r.fold == 0) = false := by simp [hfo]
          have hpd := HBX.out hh
          have HS : Hid (St.pairs np r (r.body.take (k + 1)) = St.pairs np r (r.body.take k) ++ [⟨(pd, 1), hpd.1, hpd.2, .inr rfl⟩]) := by
            show _ = _
            rw [HTK.out, St.pairs_snoc, St.pair1_some hh hpd.1 hpd.2]
            simp [St.strict, hfo]
          clear hh hfo
          obtain ⟨fn, tmps, assign, body, hy, hR⟩ := HY.out _ ⟨(pd, 1), hpd.1, hpd.2, .inr rfl⟩ _ HG.out HPL.out
          dsimp only [hangEnc] at hy
          gi_wp2
          refine hR.mono ?_
          rintro e W3 (⟨rfl, hJ3, hk3⟩ | ⟨rfl, hJx3⟩)
          · gi_wp2
            go_roundw
            case rel => exact ⟨k + 1, hlt, by simp, by rw [HS.out]; exact hJ3, HK.trans HKK.out (HK.trans HA.out hk3)⟩
            case measure => simp [intOf]; omega
          · gi_wp2
            refine bodyPost_ret (results_none rfl _ _ _) rfl ?_
            exact ⟨⟨_, rfl⟩, .inr ⟨_, ⟨k + 1, HS.out.symm⟩, hJx3⟩⟩
      · have h1b : (kd == 1) = false := by simp [h1]
        by_cases h2 : kd = 2
        · subst h2
          have hh : St.hang ⟨2, op, pd, ts⟩ = true := by simp [St.hang]
          clear h1 h1b
          have hpd := HBX.out hh
          have HS : Hid (St.pairs np r (r.body.take (k + 1)) = St.pairs np r (r.body.take k) ++ [⟨(pd, 1), hpd.1, hpd.2, .inr rfl⟩]) := by
            show _ = _
            rw [HTK.out, St.pairs_snoc, St.pair1_some hh hpd.1 hpd.2]
            simp [St.strict]
          clear hh
          obtain ⟨fn, tmps, assign, body, hy, hR⟩ := HY.out _ ⟨(pd, 1), hpd.1, hpd.2, .inr rfl⟩ _ HG.out HPL.out
          dsimp only [hangEnc] at hy
          gi_wp2
          refine hR.mono ?_
          rintro e W3 (⟨rfl, hJ3, hk3⟩ | ⟨rfl, hJx3⟩)
          · gi_wp2
            go_roundw
            case rel => exact ⟨k + 1, hlt, by simp, by rw [HS.out]; exact hJ3, HK.trans HKK.out (HK.trans HA.out hk3)⟩
            case measure => simp [intOf]; omega
          · gi_wp2
            refine bodyPost_ret (results_none rfl _ _ _) rfl ?_
            exact ⟨⟨_, rfl⟩, .inr ⟨_, ⟨k + 1, HS.out.symm⟩, hJx3⟩⟩
        · have h2b : (kd == 2) = false := by simp [h2]
          have HS : Hid (St.pairs np r (r.body.take (k + 1)) = St.pairs np r (r.body.take k)) := by
            show _ = _
            rw [HTK.out, St.pairs_snoc, St.pair1_none (by simp [St.hang, h1, h2])]
            simp
          have hn1 : (kd != 1) = true := by simp [h1]
          have hn2 : (kd != 2) = true := by simp [h2]
          clear h1 h2 h1b h2b
          gi_wp2
          go_roundw
          case rel => exact ⟨k + 1, hlt, by simp, by rw [HS.out]; exact HG.out, HK.trans HKK.out HA.out⟩
          case measure => simp [intOf]; omega
    · obtain rfl : k = r.body.length := by omega
      clear c2 hRr
      gi_wp2
      go_end0
      have h9 := HJS.out
      rw [List.take_length] at h9
      exact ⟨⟨_, rfl⟩, .inl ⟨_, rfl, h9⟩⟩

set_option maxHeartbeats 1000000 in
theorem hangs_in (F : Fence) (n : Nat) (h61 : F.fn 26) (hro : F.round = none) (r : Sc.Rule) (at_ ab : Option Addr) (ct cb : Nat) (w : World) :
    CallsIn F n Try.prog 26 #[pruleVal r (.slice at_ r.terms.length ct) (.slice ab r.body.length cb)] w fun e w' => e = .returned (.func (.func 38) #[] #[.pointer (some ⟨w.heap.size, 0, none⟩)]) ∧
      w' = w.alloc (.cells #[.int .i64 r.pred, .slice at_ r.terms.length ct, .int .i64 r.fold, .slice ab r.body.length cb, .int .i64 r.vars] 48) := by
  have hmf : ∀ (fn : Fn) (first cap : Array Value) (w : World), (Instr.makeFunc fn first cap).run Try.prog w = .ok (.func fn first cap) w := fun _ _ _ _ => rfl
  refine callsIn_of_wp Try.func26 rfl h61 ?_ hro
  simp only [Try.ntmps26, List.size_toArray, List.length_cons, List.length_nil, Nat.reduceAdd, Nat.reduceSub, Array.replicate_succ, Array.replicate_zero, List.push_toArray, List.append_toArray, List.nil_append, List.cons_append]
  gi_wp2
  go_ret
  exact ⟨rfl, rfl⟩

/-- What hangs hands back gives the pairs of the rule, one by one. -/
theorem hangs_stops (F : Fence) (n : Nat) (h78 : F.fn 38) (hro : F.round = none) (hn : 1 ≤ n) (RB : Nat) (wp : World) (np : Nat) (r : Sc.Rule) (vt : Value) (ab : Option Addr) (cb : Nat) (hL : PLitsAt wp ab r.body) (hlen : r.body.length ≤ 9223372036854775807) (hG : St.Bound np r.body) (w : World)
    (hWp : Below wp.heap.size wp w) (hR : w.heap[RB]? = some (.cells #[.int .i64 r.pred, vt, .int .i64 r.fold, .slice ab r.body.length cb, .int .i64 r.vars] 48)) :
    SeqStopsK F n Try.prog 38 #[.pointer (some ⟨RB, 0, none⟩)] (fun x : HP np => hangEnc x) (HK wp.heap.size RB) (fun ys => ys = St.pairs np r r.body) (fun pre => ∃ k, pre = St.pairs np r (r.body.take k)) r.body.length w := fun l J Jx W hW hJ _ hY h0 =>
  hangs1_in F n h78 hro hn l RB wp np r vt ab cb hL hlen hG J Jx W (fun s A B hs hg => hJ s A B none hs hg (fun _ e => by cases e)) (hWp.trans (hW.mono hWp.size)) hY ((hW.block RB (Array.getElem?_eq_some_iff.mp hR).1).trans hR) h0

end Go.Proofs.Ythenjegmigeieaa

/- Rows of numbers that are written; marks of loops over iterators; how far numbers are raised. -/
namespace Go.Proofs.Ythenjegmigeieaa
open Go.RowKit Go.Shelf

def intRow (l : List Int) : Array Value := (l.map (Value.int .i64)).toArray
theorem intRow_cell {w : World} {b : Nat} {l : List Int} (h : w.heap[b]? = some (.cells (intRow l) 3)) {i : Nat} (hi : i < l.length) : w.cell? ⟨b, i, none⟩ = some (.int .i64 (l.getD i 0)) := by
  rw [Lib.cell_of_heap h]
  unfold intRow
  simp [hi]
theorem intRow_set {w : World} {b : Nat} {l : List Int} (h : w.heap[b]? = some (.cells (intRow l) 3)) (i : Nat) (v : Int) : (w.setCell ⟨b, i, none⟩ (.int .i64 v)).heap[b]? = some (.cells (intRow (l.set i v)) 3) := by
  rw [Lib.heap_setCell_same h]
  unfold intRow
  simp [List.map_set]
theorem heap_set_other {w : World} {b c i : Nat} {v : Value} (h : ¬ c = b) : (w.setCell ⟨b, i, none⟩ v).heap[c]? = w.heap[c]? := Below.heap_setCell _ _ _ _ h

/-! ### Marks -/
def MarksL (B : Nat) (w : World) : List Deferred → Prop
  | [] => True
  | d :: ds => (∃ D, B ≤ D ∧ d = { target := .collected D, args := #[] } ∧ w.heap[D]? = some (.deferred (some [])) ∧ ∀ d', d' ∈ ds → d' ≠ d) ∧ MarksL B w ds
theorem MarksL.keep {B : Nat} {w w' : World} : ∀ {ds : List Deferred}, MarksL B w ds → (∀ D, B ≤ D → { target := .collected D, args := #[] } ∈ ds → w.heap[D]? = some (.deferred (some [])) → w'.heap[D]? = some (.deferred (some []))) → MarksL B w' ds
  | [], _, _ => trivial
  | _ :: _, ⟨⟨D, hB, hd, hD, hn⟩, h⟩, hk => ⟨⟨D, hB, hd, hk D hB (hd ▸ List.mem_cons_self) hD, hn⟩, h.keep fun D' hB' hm hD' => hk D' hB' (List.mem_cons_of_mem _ hm) hD'⟩
theorem MarksL.mem {B : Nat} {w : World} : ∀ {ds : List Deferred}, MarksL B w ds → ∀ D, { target := .collected D, args := #[] } ∈ ds → w.heap[D]? = some (.deferred (some []))
  | d :: ds, ⟨⟨D0, hB, hd, hD, hn⟩, h⟩, D, hm => by
    rcases List.mem_cons.mp hm with hm | hm
    · rw [hd] at hm
      injection hm with h1 _
      injection h1 with h1
      rw [h1]; exact hD
    · exact h.mem D hm
theorem marks_leave {F : Fence} {n : Nat} {P : Program} {fn : Func} {tmps : Array Value} {R : Ending → World → Prop} {v : Value} {B : Nat} (hres : ∀ w, (results fn tmps).run P w = .ok v w) :
    ∀ (ds : List Deferred) (w : World), MarksL B w ds → (∀ w', Below B w w' → R (.returned v) w') → LeavesInM F n P fn tmps R ds .returning w
  | [], w, _, hR => ⟨v, hres w, hR w (Below.refl _ _)⟩
  | d :: ds, w, ⟨⟨D, hB, hd, hD, hn⟩, h⟩, hR => by
    subst hd
    refine ⟨by simp, .inl ⟨D, _, rfl, run_takeDeferred hD, ?_⟩⟩
    have hlt := (Array.getElem?_eq_some_iff.mp hD).1
    have hb : Below B w (w.putObj D (.deferred none)) := (Below.refl B w).grown (grownBy_putObj' w D (.deferred none)) (by omega) (fun k e => by cases e; exact hB)
    refine marks_leave hres ds _ (h.keep fun D' hB' hm hD' => ?_) (fun w' hb' => hR w' (hb.trans hb'))
    rw [World.putObj_heap_other (fun e => hn _ hm (by rw [e]))]
    exact hD'

/-! ### How far -/
theorem Fx.step_bound {l : List Int} {e : Fx.Edge} {K : Int} (h : ∀ i : Nat, l.getD i 0 ≤ K) (he : e.2.2 ≤ 1) (i : Nat) : (Fx.step l e).getD i 0 ≤ K + 1 := by
  unfold Fx.step
  split
  · rw [Fx.getD_set]
    split
    · have := h e.2.1; omega
    · have := h i; omega
  · have := h i; omega
theorem Fx.round_bound : ∀ (E : List Fx.Edge) {l : List Int} {K : Int}, (∀ i : Nat, l.getD i 0 ≤ K) → (∀ e, e ∈ E → e.2.2 ≤ 1) → ∀ i : Nat, (Fx.round E l).getD i 0 ≤ K + E.length
  | [], l, K, h, _, i => by have := h i; simpa [Fx.round] using this
  | e :: E, l, K, h, he, i => by
    have h1 := Fx.round_bound E (l := Fx.step l e) (K := K + 1) (Fx.step_bound h (he e List.mem_cons_self)) (fun e' h' => he e' (List.mem_cons_of_mem _ h')) i
    show (Fx.round E (Fx.step l e)).getD i 0 ≤ _
    rw [List.length_cons]
    omega
theorem Fx.round_snoc (E : List Fx.Edge) (e : Fx.Edge) (l : List Int) : Fx.round (E ++ [e]) l = Fx.step (Fx.round E l) e := by unfold Fx.round; rw [List.foldl_append]; rfl
theorem Fx.round_app (E E' : List Fx.Edge) (l : List Int) : Fx.round (E ++ E') l = Fx.round E' (Fx.round E l) := by unfold Fx.round; rw [List.foldl_append]
/-- Whether anything was raised, step by step. -/
theorem Fx.rose_snoc (E : List Fx.Edge) (e : Fx.Edge) (l : List Int) (hi : e.1 < l.length) :
    decide (Fx.round (E ++ [e]) l ≠ l) = (decide (Fx.round E l ≠ l) || decide ((Fx.round E l).getD e.1 0 < (Fx.round E l).getD e.2.1 0 + e.2.2)) := by
  rw [Fx.round_snoc]
  by_cases hr : (Fx.round E l).getD e.1 0 < (Fx.round E l).getD e.2.1 0 + e.2.2
  · have h1 := Fx.round_le E l
    have h2 := Fx.step_le (Fx.round E l) e
    have hne : Fx.step (Fx.round E l) e ≠ l := fun hc => by
      rw [hc] at h2
      have h3 := Fx.Le.anti h1 h2
      have h4 : (Fx.step (Fx.round E l) e).getD e.1 0 = (Fx.round E l).getD e.2.1 0 + e.2.2 := by
        unfold Fx.step
        rw [if_pos hr, Fx.getD_set, if_pos ⟨rfl, by rw [Fx.round_length]; exact hi⟩]
      rw [hc] at h4
      have h5 : l.getD e.1 0 = (Fx.round E l).getD e.1 0 := congrArg (fun x : List Int => x.getD e.1 0) h3
      omega
    rw [decide_eq_true hne, decide_eq_true hr, Bool.or_true]
  · have h1 : Fx.step (Fx.round E l) e = Fx.round E l := by unfold Fx.step; rw [if_neg hr]
    rw [h1, decide_eq_false hr, Bool.or_false]

end Go.Proofs.Ythenjegmigeieaa

/- Package scope: numbers of names, in the order in which they were first asked for. -/
namespace Go.Proofs.Ythenjegmigeieaa
open Go.RowKit
open Go.Maps

/-- A map's datum that gives each of these names its place. -/
structure NumD (ns : List (List UInt8)) (D : DataW Unit) : Prop where
  size : Maps.size D = ns.length
  has : ∀ s : List UInt8, Maps.has D (.string s) = ns.contains s
  at_ : ∀ s : List UInt8, s ∈ ns → D.atKey (.string s) (.lit (.int .i64 0)) = .lit (.int .i64 (ns.idxOf s))
def NumAt (w : World) (B : Nat) (ns : List (List UInt8)) : Prop := ∃ D : DataW Unit, w.ownsMap Try.prog 9 (plainElem Try.prog 3) B ns.length D ∧ NumD ns D
theorem idx_mem {x : List UInt8} : ∀ {l m : List (List UInt8)}, x ∈ l → (l ++ m).idxOf x = l.idxOf x := by
  intro l
  induction l with
  | nil => exact fun h => absurd h (by simp)
  | cons a r ih =>
    intro m h
    rw [List.cons_append, List.idxOf_cons, List.idxOf_cons]
    by_cases ha : a = x
    · simp [ha]
    · have hx : x ∈ r := by
        rcases List.mem_cons.mp h with h | h
        · exact absurd h.symm ha
        · exact h
      rw [ih hx]
theorem idx_new {x : List UInt8} : ∀ {l : List (List UInt8)}, ¬ x ∈ l → (l ++ [x]).idxOf x = l.length := by
  intro l
  induction l with
  | nil => intro _; simp
  | cons a r ih =>
    intro h
    have ha : ¬ a = x := fun e => h (by simp [e])
    rw [List.cons_append, List.idxOf_cons, ih (fun e => h (List.mem_cons_of_mem _ e)), beq_false_of_ne ha]
    rfl
theorem idx_none {x : List UInt8} : ∀ {l : List (List UInt8)}, ¬ x ∈ l → l.idxOf x = l.length := by
  intro l
  induction l with
  | nil => intro _; simp
  | cons a r ih =>
    intro h
    have ha : ¬ a = x := fun e => h (by simp [e])
    rw [List.idxOf_cons, ih (fun e => h (List.mem_cons_of_mem _ e)), beq_false_of_ne ha]
    rfl
theorem numLaw : Keyed Try.prog 9 := string_keyed Try.underlying9
theorem numZero (w : World) : (zeroValue 3).run Try.prog w = .ok (.int .i64 0) w := by kernel_rfl
theorem NumD.nil : NumD [] (.map []) := ⟨rfl, fun _ => rfl, fun _ h => absurd h (by simp)⟩
theorem NumD.push {ns : List (List UInt8)} {D : DataW Unit} (h : NumD ns D) (hT : Tidy D) (s : List UInt8) (hs : ns.contains s = false) : NumD (ns ++ [s]) (D.put (.string s) (.lit (.int .i64 ns.length))) := by
  have hk : WideAt.IsKeyLit (.string s) := by simp [WideAt.IsKeyLit]
  have hnm : ¬ s ∈ ns := by simpa using hs
  refine ⟨?_, fun x => ?_, fun x hx => ?_⟩
  · rw [size_put hT, h.has, hs, h.size]
    simp
  · by_cases hx : x = s
    · subst hx
      rw [has_put_same hT.isMap hk]
      simp
    · rw [has_put_other (by simpa using hx), h.has]
      simp [hx]
  · by_cases hxs : x = s
    · subst hxs
      rw [atKey_put_same hT.isMap hk, idx_new hnm]
    · have hxm : x ∈ ns := by
        rcases List.mem_append.mp hx with h | h
        · exact h
        · exact absurd (by simpa using h) hxs
      rw [atKey_put_other (by simpa using hxs), h.at_ x hxm, idx_mem hxm]

theorem NumAt.below {w w' : World} {B : Nat} {ns : List (List UInt8)} (h : NumAt w B ns) (hb : Below w.heap.size w w') : NumAt w' B ns := by
  obtain ⟨D, ⟨es, clock, h1, h2, h3, h4⟩, hN⟩ := h
  exact ⟨D, ⟨es, clock, (hb.block _ (heap_lt h1)).trans h1, h2, h3, h4⟩, hN⟩
theorem NumAt.lt {w : World} {B : Nat} {ns : List (List UInt8)} (h : NumAt w B ns) : B < w.heap.size := by
  obtain ⟨D, ⟨es, clock, h1, h2, h3, h4⟩, hN⟩ := h
  exact heap_lt h1
theorem numAt_made (w : World) : NumAt (w.alloc (.map #[] 0)) w.heap.size [] := ⟨_, World.ownsMap_made _ _ _ _, NumD.nil⟩

set_option maxRecDepth 100000 in
set_option maxHeartbeats 1000000 in
theorem of_any (B : Nat) (ns : List (List UInt8)) (s : List UInt8) (w : World) (h : NumAt w B ns) (hs : s.length ≤ 5000) (hl : ns.length ≤ 1000000) :
    Calls Try.prog 36 #[.map (some B), .string ⟨s.toArray⟩] w fun e w' => e = .returned (.int .i64 (ns.idxOf s)) ∧ NumAt w' B (if ns.contains s then ns else ns ++ [s]) ∧ w.grownBy w' (some B) := by
  obtain ⟨D, hown, hN⟩ := h
  have hkey : keyOf Try.prog 9 (.string ⟨s.toArray⟩) = some (.string s) := by
    have : keyOf Try.prog 9 (.string ⟨s.toArray⟩) = some (.string (⟨s.toArray⟩ : ByteArray).data.toList) := Go.WideMaps.keyOf_string_mk Try.underlying9 (by unfold maxLen; simp [ByteArray.size]; omega)
    simpa using this
  have hT := hown.tidy numLaw
  have hh := hN.has s
  cases hc : ns.contains s
  · rw [hc] at hh
    have hsz := hN.size
    have HP : Hid (NumD (ns ++ [s]) (D.put (.string s) (.lit (.int .i64 ns.length)))) := hN.push hT s hc
    have hidx : ns.idxOf s = ns.length := idx_none (by simpa using hc)
    clear hN hT
    have hwl : (Lit.int IntKind.i64 (ns.length : Int)).wf = true := WalkArith.wf_i64 (by omega)
    go_enter Try.func36, Try.ntmps36
    go_wp2_with (first
      | (at_lookup; refine wpList_lookup_own_ok_int _ rfl _ _ 73 rfl 9 3 .i64 numLaw Try.underlying73 Try.underlying3 (numZero _) B ns.length D rfl hown _ _ rfl hkey ?_; intro c hat hwc)
      | (at_len; refine wpList_len_own _ rfl _ 73 rfl 9 3 Try.underlying73 _ B ns.length D rfl hown ?_)
      | (at_mapUpdate; refine wpList_mapUpdate_own _ rfl _ _ _ 73 rfl 9 3 numLaw Try.underlying73 _ B ns.length _ rfl hown (by unfold maxLen; omega) _ _ _ rfl rfl hkey _ [] (plainElem_int Try.underlying3 hwl) ?_; intro w1 hown1 hgrow1))
    go_ret
    exact ⟨rfl, ⟨_, by rw [List.length_append]; exact hown1, HP.out⟩, hgrow1⟩
  · rw [hc] at hh
    have hat := hN.at_ s (by simpa using hc)
    have HN : Hid (NumD ns D) := hN
    clear hN hT
    go_enter Try.func36, Try.ntmps36
    go_wp2_with (at_lookup; refine wpList_lookup_own_ok_int _ rfl _ _ 73 rfl 9 3 .i64 numLaw Try.underlying73 Try.underlying3 (numZero _) B ns.length D rfl hown _ _ rfl hkey ?_; intro c hac hwc)
    go_ret
    have hcc : c = (ns.idxOf s : Int) := by
      rw [hat] at hac
      simpa using hac.symm
    subst hcc
    exact ⟨rfl, ⟨D, hown, HN.out⟩, grownBy_of_below (Below.refl _ _) _⟩

end Go.Proofs.Ythenjegmigeieaa

