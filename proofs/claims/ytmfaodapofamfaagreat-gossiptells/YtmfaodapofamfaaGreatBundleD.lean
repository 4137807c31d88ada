/- Own texts, one behind the other (part 4). -/
import Derived.Test.YtmfaodapofamfaaGreatBundleC
import Derived.Test.YtmfaodapofamfaaGreatRows
import Derived.Lib.BufferMore
/- The goals of a region by a table, operation by operation. -/
namespace Go.Proofs.YtmfaodapofamfaaGreat
open Go.RowKit

/-- Does an operation wait for the one that writes t? -/
def waitsFor (ops : Array Oper) (o : Oper) (t : Nat) : Bool := o.after.toList.any fun e => Region.binds .any e && ((ops[e.on]?).map fun o' => o'.dst == some t).getD false
def stays (ops : Array Oper) (t : Nat) : Bool := !(ops.toList.filterMap (·.dst)).contains t

section
variable {P : Program} {ops : Array Oper} {Q : Exit → Act → World → Prop} {T : Nat → Value → World → Prop} {a0 a : Act} {w0 w : World} {o : Oper}

theorem OpIn.of (h : OpIn ops T a0 w0 o a w) (t : Nat) (hw : waitsFor ops o t = true) : T t (a.tmps.getD t undef) w := by
  unfold waitsFor at hw
  obtain ⟨e, he, hb⟩ := List.any_eq_true.mp hw
  rw [Bool.and_eq_true] at hb
  cases ho : ops[e.on]? with
  | none => rw [ho] at hb; simp at hb
  | some o' =>
    rw [ho, Option.map_some, Option.getD_some] at hb
    exact h.has e (by simpa using he) hb.1 o' t ho (by simpa using hb.2)
theorem OpIn.old (h : OpIn ops T a0 w0 o a w) (t : Nat) (hs : stays ops t = true) : a.tmps.getD t undef = a0.tmps.getD t undef := by
  refine h.still t fun hm => ?_
  unfold stays at hs
  simp [hm] at hs
theorem wanted_none {y : Nat → Option Bool} (hg : o.guard = none) : Region.wanted o y = true := by simp [Region.wanted, hg]
theorem wanted_some {j t : Nat} {b : Bool} {oj : Oper} (hg : o.guard = some (j, b)) (hj : ops[j]? = some oj) (hd : oj.dst = some t) (hv : a.tmps.getD t undef = .bool b) : Region.wanted o (yielded ops a.tmps) = true := by
  have ht : a.tmps[t]? = some (.bool b) := by
    rw [Array.getD_eq_getD_getElem?] at hv
    cases h : a.tmps[t]? with
    | none => rw [h] at hv; simp [undef] at hv
    | some v => rw [h] at hv; simpa using hv
  unfold Region.wanted
  rw [hg]
  dsimp only
  unfold yielded
  rw [hj, Option.bind_some, hd, Option.bind_some, ht]
  simp
theorem opOk_val {v : Value} {w' : World} (hw : Region.wanted o (yielded ops a.tmps) = true) (hr : (execOp a.eval o).run P w = .ok (.value v) w') (hT : ∀ t, o.dst = some t → T t v w') (hb : Below w.heap.size w w') : OpOk P ops Q T o a w := by
  unfold OpOk
  rw [if_pos hw]
  left
  unfold Oper.wp
  rw [hr, Oper.upon_value]
  exact ⟨v, rfl, hT, hb⟩
theorem opOk_call {f : FuncId} {args : Array Value} (hw : Region.wanted o (yielded ops a.tmps) = true) (hr : (execOp a.eval o).run P w = .ok (.enter f args) w)
    (hc : Calls P f args w fun e w' => ∃ v, e = .returned v ∧ (∀ t, o.dst = some t → T t v w') ∧ Below w.heap.size w w') : OpOk P ops Q T o a w := by
  unfold OpOk
  rw [if_pos hw]
  left
  unfold Oper.wp
  rw [hr, Oper.upon_enter]
  refine Calls.mono hc ?_
  rintro e w' ⟨v, rfl, hT, hb⟩
  exact ⟨v, rfl, hT, hb⟩

/-- All operations, one by one. -/
def AllOps (Φ : Oper → Prop) : List Oper → Prop
  | [] => True
  | o :: l => Φ o ∧ AllOps Φ l
theorem AllOps.nil {Φ : Oper → Prop} : AllOps Φ [] := trivial
theorem AllOps.cons {Φ : Oper → Prop} {o : Oper} {l : List Oper} (h : Φ o) (hl : AllOps Φ l) : AllOps Φ (o :: l) := ⟨h, hl⟩
theorem AllOps.mem {Φ : Oper → Prop} : ∀ (l : List Oper), AllOps Φ l → ∀ o, o ∈ l → Φ o
  | [], _, o, ho => absurd ho (by simp)
  | x :: l, h, o, ho => by
    rcases List.mem_cons.mp ho with rfl | ho
    · exact h.1
    · exact AllOps.mem l h.2 o ho
theorem AllOps.at {Φ : Oper → Prop} {ops : Array Oper} (h : AllOps Φ ops.toList) (i : Nat) (o : Oper) (ho : ops[i]? = some o) : Φ o := by
  rw [← Array.getElem?_toList] at ho
  exact AllOps.mem _ h o (List.mem_of_getElem? ho)
theorem ends_at {t : Nat} (h : ∀ t, t ∈ ops.toList.filterMap (·.dst) → T t (a.tmps.getD t undef) w) (hs : stays ops t = false) : T t (a.tmps.getD t undef) w := by
  refine h t ?_
  unfold stays at hs
  simpa [List.contains_iff_mem] using hs
theorem wp_region_tabA (T : Nat → Value → World → Prop) {id : Nat} {a0 : Act} {w0 : World} (hm : P.follows .mixedOrders = true) (hf : tabFine ops a0.tmps.size = true)
    (hmono : ∀ t v w w', Below w.heap.size w w' → T t v w → T t v w')
    (hop : AllOps (fun o => ∀ a w, OpIn ops T a0 w0 o a w → OpOk P ops Q T o a w) ops.toList)
    (hend : ∀ a w, Below w0.heap.size w0 w → a.defers = a0.defers → a.tmps.size = a0.tmps.size → (∀ t, t ∉ ops.toList.filterMap (·.dst) → a.tmps.getD t undef = a0.tmps.getD t undef) → (∀ t, t ∈ ops.toList.filterMap (·.dst) → T t (a.tmps.getD t undef) w) → Q .normal a w) :
    (Code.region id ops true).wp P Q a0 w0 :=
  wp_region_tab T hm hf hmono (fun i o ho => AllOps.at hop i o ho) hend
end

end Go.Proofs.YtmfaodapofamfaaGreat

/- Behind a region by a table: the frame, written out. -/
namespace Go.Proofs.YtmfaodapofamfaaGreat
open Go.RowKit

theorem tmps_fold : ∀ (D : List Nat) (x y : Array Value), x.size = y.size → (∀ t, t ∉ D → x.getD t undef = y.getD t undef) → x = D.foldl (fun arr t => arr.setIfInBounds t (x.getD t undef)) y
  | [], x, y, hs, h => by
    show x = y
    refine Array.ext hs fun i h1 h2 => ?_
    have := h i (by simp)
    rw [Array.getD_eq_getD_getElem?, Array.getD_eq_getD_getElem?, Array.getElem?_eq_getElem h1, Array.getElem?_eq_getElem h2] at this
    exact this
  | t :: D, x, y, hs, h => by
    show x = D.foldl (fun arr t => arr.setIfInBounds t (x.getD t undef)) (y.setIfInBounds t (x.getD t undef))
    refine tmps_fold D x _ (by simp [hs]) fun s hsD => ?_
    by_cases hst : s = t
    · subst hst
      by_cases hl : s < y.size
      · simp [Array.getD_eq_getD_getElem?, hl]
      · have h1 : x[s]? = none := by rw [Array.getElem?_eq_none_iff]; omega
        have h2 : ∀ v, (y.setIfInBounds s v)[s]? = none := fun v => by rw [Array.getElem?_eq_none_iff]; simp; omega
        rw [Array.getD_eq_getD_getElem?, Array.getD_eq_getD_getElem?, h1, h2]
    · rw [h s (by simp [hst, hsD])]
      simp [Array.getD_eq_getD_getElem?, Ne.symm hst]

/-- The region by itself, then what follows. -/
theorem wp_mid {P : Program} {c : Code} {Q : Exit → Act → World → Prop} {a0 : Act} {w : World} (R : Act → Act → World → Prop) (first : c.wp P (fun e a w => e = .normal ∧ R a0 a w) a0 w) (rest : ∀ a w, R a0 a w → Q .normal a w) : c.wp P Q a0 w :=
  Code.wp_mono (fun e a w h => by obtain ⟨rfl, h⟩ := h; exact rest a w h) first

section
variable {P : Program} {ops : Array Oper} {Q : Exit → Act → World → Prop} {T : Nat → Value → World → Prop} {a : Act} {w : World} {o : Oper}
end

end Go.Proofs.YtmfaodapofamfaaGreat

/- A region by a table whose last operation comes behind all others, and may change anything. -/
namespace Go.Proofs.YtmfaodapofamfaaGreat
open Go.RowKit

/-- The last one waits for all. -/
def lastFine (ops : Array Oper) (oL : Oper) : Bool := (List.range (ops.size - 1)).all fun i => oL.after.toList.any fun e => Region.binds .any e && (e.on == i || ((ops[e.on]?).map fun o => o.after.toList.any fun f => f.on == i && Region.binds .any f).getD false)
/-- The table, for all but the last. -/
structure OpInL (ops : Array Oper) (T : Nat → Value → World → Prop) (a0 : Act) (w0 : World) (a : Act) (w : World) : Prop where
  below : Below w0.heap.size w0 w
  defers : a.defers = a0.defers
  size : a.tmps.size = a0.tmps.size
  still : ∀ t, t ∉ ops.toList.filterMap (·.dst) → a.tmps.getD t undef = a0.tmps.getD t undef
  all : ∀ (i : Nat) (o : Oper) (t : Nat), i + 1 < ops.size → ops[i]? = some o → o.dst = some t → T t (a.tmps.getD t undef) w

theorem wpOp_skip {P : Program} {ops : Array Oper} {Q : Exit → Act → World → Prop} {i : Nat} {o : Oper} {K : Act → World → Prop} {a : Act} {w w' : World} (ho : ops[i]? = some o) (hw : Region.wanted o (yielded ops a.tmps) = true) (hd : o.dst = none) (hr : (execOp a.eval o).run P w = .ok .skip w') (h : K a w') : wpOp P ops Q i K a w := by
  unfold wpOp
  rw [ho]
  dsimp only
  rw [if_pos hw]
  left
  unfold Oper.wp
  rw [hr, Oper.upon_skip, hd]
  exact h
section
variable {P : Program} {ops : Array Oper} {Q : Exit → Act → World → Prop}
theorem wp_region_tabL (T : Nat → Value → World → Prop) {id : Nat} {a0 : Act} {w0 : World} (oL : Oper) (hoL : ops[ops.size - 1]? = some oL) (hlf : lastFine ops oL = true) (hm : P.follows .mixedOrders = true)
    (hf : tabFine ops a0.tmps.size = true)
    (hmono : ∀ t v w w', Below w.heap.size w w' → T t v w → T t v w')
    (hop : AllOps (fun o => ∀ a w, OpIn ops T a0 w0 o a w → OpOk P ops Q T o a w) (ops.toList.take (ops.size - 1)))
    (hlast : ∀ a w, OpInL ops T a0 w0 a w → wpOp P ops Q (ops.size - 1) (fun a' w' => Q .normal a' w') a w) :
    (Code.region id ops true).wp P Q a0 w0 := by
  have hLs : ops.size - 1 < ops.size := (Array.getElem?_eq_some_iff.mp hoL).1
  unfold tabFine at hf
  rw [Bool.and_eq_true, Bool.and_eq_true] at hf
  obtain ⟨⟨hnd, hlt⟩, hah⟩ := hf
  have hnd := of_decide_eq_true hnd
  have hlt' : ∀ t, t ∈ ops.toList.filterMap (·.dst) → t < a0.tmps.size := fun t ht => of_decide_eq_true (List.all_eq_true.mp hlt t ht)
  have hah' : ∀ (i : Nat) (o : Oper), ops[i]? = some o → ∀ e, e ∈ o.after → e.on < i := fun i o ho e he => by
    have hi : i < ops.size := (Array.getElem?_eq_some_iff.mp ho).1
    have h := List.all_eq_true.mp hah i (List.mem_range.mpr hi)
    rw [ho, Option.map_some, Option.getD_some] at h
    exact of_decide_eq_true (List.all_eq_true.mp h e (by simpa using he))
  refine wp_region_inv (fun s a w => (s.size = ops.size ∧ ∀ (i : Nat) (o : Oper), s[i]? = some true → ops[i]? = some o → ∀ e, e ∈ o.after → Region.binds .any e = true → s[e.on]? = some true) ∧ ((s[ops.size - 1]? = some false ∧ Tabbed ops T a0 w0 s a w) ∨ ((∀ i, i < ops.size → s[i]? = some true) ∧ Q .normal a w))) hm ?_ ?_ ?_
  · rintro s a w hr ⟨⟨hs, hC⟩, ⟨hsL, hI⟩ | ⟨_, hQ⟩⟩
    · exfalso
      have hall : ∀ n : Nat, n ≤ ops.size → ∀ i : Nat, i < n → s[i]? = some true := by
        intro n
        induction n with
        | zero => intro _ i hi; exact absurd hi (Nat.not_lt_zero _)
        | succ n ih =>
          intro hn i hi
          have ih := ih (by omega)
          by_cases hin : i < n
          · exact ih i hin
          · have hin : i = n := by omega
            subst hin
            cases hsi : s[i]? with
            | none => rw [Array.getElem?_eq_none_iff] at hsi; omega
            | some b =>
              cases b with
              | true => rfl
              | false =>
                exfalso
                have hio : i < ops.size := by omega
                have : i ∈ Region.ready .any ops s := by
                  unfold Region.ready
                  refine List.mem_filter.mpr ⟨List.mem_range.mpr hio, ?_⟩
                  rw [Bool.and_eq_true]
                  refine ⟨by simp [Array.getD_eq_getD_getElem?, hsi], ?_⟩
                  have ho : ops[i]? = some ops[i] := Array.getElem?_eq_getElem hio
                  rw [ho, Option.map_some, Option.getD_some, Array.all_eq_true_iff_forall_mem]
                  intro e he
                  have h1 := ih e.on (hah' i _ ho e he)
                  simp [Array.getD_eq_getD_getElem?, h1]
                rw [hr] at this
                exact absurd this (by simp)
      have := hall ops.size (Nat.le_refl _) (ops.size - 1) hLs
      rw [hsL] at this
      cases this
    · exact hQ
  · rintro s a w i hi ⟨⟨hs, hC⟩, hI⟩
    obtain ⟨hsi, o, ho, haf⟩ := ready_mem hi
    have hup : ∀ j, s[j]? = some true → (s.setIfInBounds i true)[j]? = some true := fun j hj => by
      rw [Array.getElem?_setIfInBounds]
      by_cases hij : i = j
      · rw [if_pos hij, if_pos (by have := (Array.getElem?_eq_some_iff.mp hsi).1; omega)]
      · rw [if_neg hij]; exact hj
    have hss : (s.setIfInBounds i true).size = ops.size ∧ ∀ (i' : Nat) (o' : Oper), (s.setIfInBounds i true)[i']? = some true → ops[i']? = some o' → ∀ e, e ∈ o'.after → Region.binds .any e = true → (s.setIfInBounds i true)[e.on]? = some true := by
      refine ⟨by simp [hs], fun i' o' hi' ho' e he hb => ?_⟩
      by_cases hii : i = i'
      · subst hii
        rw [ho] at ho'
        cases ho'
        exact hup _ (haf e he hb)
      · rw [Array.getElem?_setIfInBounds, if_neg hii] at hi'
        exact hup _ (hC i' o' hi' ho' e he hb)
    rcases hI with ⟨hsL, hI⟩ | ⟨hall, _⟩
    · by_cases hiL : i = ops.size - 1
      · subst hiL
        rw [hoL] at ho
        cases ho
        have hdone : ∀ j, j + 1 < ops.size → s[j]? = some true := fun j hj => by
          unfold lastFine at hlf
          have h1 := List.all_eq_true.mp hlf j (List.mem_range.mpr (by omega))
          obtain ⟨e, he, h2⟩ := List.any_eq_true.mp h1
          rw [Bool.and_eq_true, Bool.or_eq_true] at h2
          have hse := haf e (by simpa using he) h2.1
          rcases h2.2 with h3 | h3
          · have h3 : e.on = j := by simpa using h3
            rw [← h3]
            exact hse
          · cases hoe : ops[e.on]? with
            | none => rw [hoe] at h3; simp at h3
            | some oe =>
              rw [hoe, Option.map_some, Option.getD_some] at h3
              obtain ⟨f, hf, h4⟩ := List.any_eq_true.mp h3
              rw [Bool.and_eq_true] at h4
              have h5 : f.on = j := by simpa using h4.1
              rw [← h5]
              exact hC e.on oe hse hoe f (by simpa using hf) h4.2
        refine wpOp_mono ?_ (hlast a w ⟨hI.below, hI.defers, hI.size, hI.still, fun j oj t hj hoj hd => hI.done j oj t (hdone j hj) hoj hd⟩)
        intro a' w' hQ
        refine ⟨hss, .inr ⟨fun j hj => ?_, hQ⟩⟩
        rw [Array.getElem?_setIfInBounds]
        by_cases hj2 : ops.size - 1 = j
        · rw [if_pos hj2, if_pos (by omega)]
        · rw [if_neg hj2]
          exact hdone j (by omega)
      · have hop' : OpOk P ops Q T o a w := by
          have hil : i < ops.size := (Array.getElem?_eq_some_iff.mp ho).1
          refine AllOps.mem _ hop o ?_ a w ⟨hI.below, hI.still, fun e he hb o' t ho' hd => hI.done e.on o' t (haf e he hb) ho' hd⟩
          rw [← Array.getElem?_toList] at ho
          refine List.mem_of_getElem? (i := i) ?_
          rw [List.getElem?_take, if_pos (by omega)]
          exact ho
        have hset : ∀ {v : Value} {w' : World}, (∀ t, o.dst = some t → T t v w') → Below w.heap.size w w' → Tabbed ops T a0 w0 (s.setIfInBounds i true) (a.put o.dst v) w' := by
          intro v w' hv hb
          refine ⟨hI.below.trans (hb.mono hI.below.size), by rw [put_defers]; exact hI.defers, by rw [put_size]; exact hI.size, fun t ht => ?_, fun j oj t hj hoj hd => ?_⟩
          · cases hd : o.dst with
            | none => exact hI.still t ht
            | some u =>
              have hne : t ≠ u := fun h => ht (h ▸ dst_mem ho hd)
              rw [put_get_ne hne]
              exact hI.still t ht
          · by_cases hij : j = i
            · subst hij
              rw [ho] at hoj
              cases hoj
              rw [hd, put_get_self (by rw [hI.size]; exact hlt' t (dst_mem ho hd))]
              exact hv t hd
            · have hj' : s[j]? = some true := by
                rw [Array.getElem?_setIfInBounds, if_neg (fun h => hij h.symm)] at hj
                exact hj
              have h1 := hmono t _ w w' hb (hI.done j oj t hj' hoj hd)
              cases hd2 : o.dst with
              | none => exact h1
              | some u =>
                have hne : t ≠ u := fun h => hij (dst_inj ops.toList hnd j i oj o t (by rw [Array.getElem?_toList]; exact hoj) (by rw [Array.getElem?_toList]; exact ho) hd (h ▸ hd2))
                rw [put_get_ne hne]
                exact h1
        have hsL' : (s.setIfInBounds i true)[ops.size - 1]? = some false := by
          rw [Array.getElem?_setIfInBounds, if_neg hiL]
          exact hsL
        unfold OpOk at hop'
        unfold wpOp
        rw [ho]
        dsimp only
        by_cases hw : Region.wanted o (yielded ops a.tmps) = true
        · rw [if_pos hw] at hop' ⊢
          refine hop'.imp (Oper.wp_mono ?_) (fun h => h)
          rintro a' w' ⟨v, rfl, hv, hb⟩
          exact ⟨hss, .inl ⟨hsL', hset hv hb⟩⟩
        · rw [if_neg hw] at hop' ⊢
          exact ⟨hss, .inl ⟨hsL', hset hop' (Below.refl _ _)⟩⟩
    · have := hall i (Array.getElem?_eq_some_iff.mp ho).1
      rw [hsi] at this
      cases this
  · refine ⟨⟨by simp, fun i o h => ?_⟩, .inl ⟨?_, ⟨⟨rfl, rfl, rfl, Nat.le_refl _, fun _ _ => rfl⟩, rfl, rfl, fun _ _ => rfl, fun i o t h _ _ => ?_⟩⟩⟩
    · rw [Array.getElem?_replicate] at h
      split at h <;> simp at h
    · rw [Array.getElem?_replicate, if_pos hLs]
    · rw [Array.getElem?_replicate] at h
      split at h <;> simp at h
end

end Go.Proofs.YtmfaodapofamfaaGreat

/- Package update: Copy. -/
namespace Go.Proofs.YtmfaodapofamfaaGreat
open Go.RowKit

/-- An update of one's own: all its lists lie at block B or behind. -/
structure UvP (B : Nat) (w : World) (x : Uv) : Prop where
  p : w.ownsRow B 26 2 x.p x.u.ps.length (x.u.ps.map idCells).flatten
  s : FactsP B w x.s x.u.says
  t : w.ownsRow B 26 2 x.t x.u.ts.length (x.u.ts.map idCells).flatten
  f : ∀ f, f ∈ x.u.says → FFit f
  l : x.u.ps.length ≤ 9223372036854775807 ∧ x.u.says.length ≤ 9223372036854775807 ∧ x.u.ts.length ≤ 9223372036854775807
theorem ids_one (l : List Wr.Id) : ∀ u, u ∈ (l.map idCells).flatten → u.oneCell' = true := by
  intro u hu
  obtain ⟨c, hc, hu⟩ := List.mem_flatten.mp hu
  obtain ⟨p, hp, rfl⟩ := List.mem_map.mp hc
  simp only [idCells, List.mem_cons, List.not_mem_nil, or_false] at hu
  rcases hu with rfl | rfl <;> rfl
theorem grown_set (w : World) (b o : Nat) (v : Value) : w.grownBy (w.setCell ⟨b, o, none⟩ v) (some b) := ⟨rfl, rfl, rfl, by simp [World.setCell], fun k _ hk => Below.heap_setCell _ _ _ k (fun e => hk (by rw [e]))⟩
theorem factsP_below {B : Nat} {w w' : World} {v : Value} {s : List Rl.Fc} (h : FactsP B w v s) (hb : Below w.heap.size w w') : FactsP B w' v s := by
  obtain ⟨q, h1, h2, h3⟩ := h
  exact ⟨q, h1, ownsRow_below h2 hb, fun p hp => ownsRow_below (h3 p hp) hb⟩
theorem factsP_grown {B Z : Nat} {w w' : World} {v : Value} {s : List Rl.Fc} (h : FactsP B w v s) (hg : w.grownBy w' (some Z)) (hz : Z < B) : FactsP B w' v s := by
  obtain ⟨q, h1, h2, h3⟩ := h
  exact ⟨q, h1, h2.kept hg (.inr (fun e => by have := (h2.lt _ e).1; omega)), fun p hp => (h3 p hp).kept hg (.inr (fun e => by have := ((h3 p hp).lt _ e).1; omega))⟩
theorem factsP_le {B B' : Nat} {w : World} {v : Value} {s : List Rl.Fc} (h : FactsP B w v s) (hb : B' ≤ B) : FactsP B' w v s := by
  obtain ⟨q, h1, h2, h3⟩ := h
  exact ⟨q, h1, rl_own_le h2 hb, fun p hp => rl_own_le (h3 p hp) hb⟩
theorem factsP_V {B : Nat} {w : World} {v : Value} {s : List Rl.Fc} (h : FactsP B w v s) (hf : ∀ f, f ∈ s → FFit f) : FactsV w v s := by
  obtain ⟨q, h1, h2, h3⟩ := h
  have := own_factsV (w := w) h2 (fun p hp => ⟨own_ints (h3 p hp), hf _ (h1 ▸ List.mem_map_of_mem hp)⟩) (Below.refl _ _)
  rw [h1] at this
  exact this
theorem UvP.ok {B : Nat} {w : World} {x : Uv} (h : UvP B w x) : UvOk w x := ⟨own_ids h.p, factsP_V h.s h.f, own_ids h.t, h.f, h.l⟩
theorem UvP.below {B : Nat} {w w' : World} {x : Uv} (h : UvP B w x) (hb : Below w.heap.size w w') : UvP B w' x := ⟨ownsRow_below h.p hb, factsP_below h.s hb, ownsRow_below h.t hb, h.f, h.l⟩
theorem UvP.grown {B Z : Nat} {w w' : World} {x : Uv} (h : UvP B w x) (hg : w.grownBy w' (some Z)) (hz : Z < B) : UvP B w' x :=
  ⟨h.p.kept hg (.inr (fun e => by have := (h.p.lt _ e).1; omega)), factsP_grown h.s hg hz, h.t.kept hg (.inr (fun e => by have := (h.t.lt _ e).1; omega)), h.f, h.l⟩
theorem UvP.le {B B' : Nat} {w : World} {x : Uv} (h : UvP B w x) (hb : B' ≤ B) : UvP B' w x := by
  obtain ⟨q, h1, h2, h3⟩ := h.s
  exact ⟨rl_own_le h.p hb, ⟨q, h1, rl_own_le h2 hb, fun p hp => rl_own_le (h3 p hp) hb⟩, rl_own_le h.t hb, h.f, h.l⟩
def copyT (X B3 : Nat) (ua un : Int) (a1 : Option Addr) (d1 : Nat) (sa : Option Addr) (ns sc : Nat) (a3 : Option Addr) (d3 : Nat) (ps ts : List Wr.Id) (tQ : Nat) (vQ : Value) (WQ : World) : Prop :=
  match tQ with
  | 24 => vQ = .pointer (some ⟨X, 0, none⟩)
  | 25 => vQ = .agg #[.int .i64 ua, .int .i64 un]
  | 26 => vQ = .pointer (some ⟨X, 2, none⟩)
  | 27 => vQ = .slice a1 ps.length d1
  | 28 => WQ.ownsRow B3 26 2 vQ ps.length (ps.map idCells).flatten
  | 29 => vQ = .slice sa ns sc
  | 30 => vQ = .pointer (some ⟨X, 4, none⟩)
  | 31 => vQ = .slice a3 ts.length d3
  | 32 => WQ.ownsRow B3 26 2 vQ ts.length (ts.map idCells).flatten
  | 33 => ∃ v1 v2, vQ = .agg #[.int .i64 ua, .int .i64 un, v1, .slice sa ns sc, v2] ∧ WQ.ownsRow B3 26 2 v1 ps.length (ps.map idCells).flatten ∧ WQ.ownsRow B3 26 2 v2 ts.length (ts.map idCells).flatten
  | _ => True
theorem copyT_mono (X B3 : Nat) (ua un : Int) (a1 : Option Addr) (d1 : Nat) (sa : Option Addr) (ns sc : Nat) (a3 : Option Addr) (d3 : Nat) (ps ts : List Wr.Id) (tQ : Nat) (vQ : Value) (W W' : World) (hb : Below W.heap.size W W') (h : copyT X B3 ua un a1 d1 sa ns sc a3 d3 ps ts tQ vQ W) : copyT X B3 ua un a1 d1 sa ns sc a3 d3 ps ts tQ vQ W' := by
  revert h
  unfold copyT
  split <;> (intro h; first | exact h | exact (ownsRow_below h hb) | exact (h.elim fun v1 h => h.elim fun v2 h => ⟨v1, v2, h.1, ownsRow_below h.2.1 hb, ownsRow_below h.2.2 hb⟩))

set_option maxRecDepth 100000 in
set_option maxHeartbeats 4000000 in
theorem Copy_any (x : Uv) (w : World) (hx : UvOk w x) (hl : x.u.ps.length ≤ 6 ∧ x.u.says.length ≤ 6 ∧ x.u.ts.length ≤ 6) (hf : ∀ f, f ∈ x.u.says → f.args.length ≤ 3) :
    Calls Tryz.prog 59 #[uvVal x] w fun e w' => ∃ x' : Uv, e = .returned (uvVal x') ∧ x'.u = x.u ∧ UvP w.heap.size w' x' ∧ Below w.heap.size w w' := by
  have HX0 : Hid (UvOk w x) := hx
  have HFA : Hid (∀ f, f ∈ x.u.says → f.args.length ≤ 3) := hf
  have HL : Hid (x.u.ps.length ≤ 9223372036854775807 ∧ x.u.says.length ≤ 9223372036854775807 ∧ x.u.ts.length ≤ 9223372036854775807) := hx.l
  have HFF : Hid (∀ f, f ∈ x.u.says → FFit f) := hx.f
  obtain ⟨a1, d1, e1, _⟩ := hx.p
  obtain ⟨a2, d2, e2, hc2, hA2⟩ := hx.s
  obtain ⟨a3, d3, e3, _⟩ := hx.t
  obtain ⟨⟨⟨ua, un⟩, ps, says, ts⟩, vp, vs, vt⟩ := x
  dsimp only at *
  subst e1 e2 e3
  obtain ⟨q, hq1, hq2, hq3⟩ := facts_fv hA2 hx.f
  have HQ1 : Hid (q.map (·.1) = says) := hq1
  have HQ2 : Hid (∀ p, p ∈ q → FvOk w p) := hq2
  have HQ3 : Hid (CellsAt w a2 (q.map fcCells).flatten) := by
    rcases hq3 with h | h
    · left
      have : q = [] := List.eq_nil_of_length_eq_zero (by have := congrArg List.length hq1; rw [List.length_map, h] at this; exact this)
      rw [this]; rfl
    · exact .inr h
  have HQL : Hid (q.length = says.length) := by have := congrArg List.length hq1; rw [List.length_map] at this; exact this
  have HC2 : Hid (a2 = none → d2 = 0) := hc2.2
  have HC3 : Hid (says.length ≤ d2) := hc2.1
  clear hx hf hA2 hc2 hq1 hq2 hq3
  have HB1 : Hid (Below w.heap.size w ((w.alloc (.cells #[.int .i64 ua, .int .i64 un, .slice a1 ps.length d1, .slice a2 says.length d2, .slice a3 ts.length d3] 30)).alloc (.cells #[.int .i64 0, .int .i64 0, .slice none 0 0, .slice none 0 0, .slice none 0 0] 30))) := ((Below.refl _ _).alloc (Nat.le_refl _) _).alloc (by simp) _
  have hX1 : ((w.alloc (.cells #[.int .i64 ua, .int .i64 un, .slice a1 ps.length d1, .slice a2 says.length d2, .slice a3 ts.length d3] 30)).alloc (.cells #[.int .i64 0, .int .i64 0, .slice none 0 0, .slice none 0 0, .slice none 0 0] 30)).heap[w.heap.size]? = some (.cells #[.int .i64 ua, .int .i64 un, .slice a1 ps.length d1, .slice a2 says.length d2, .slice a3 ts.length d3] 30) := by
    rw [Lib.alloc_old _ _ _ (by simp)]
    exact rl_new w _
  have hZ1 : ((w.alloc (.cells #[.int .i64 ua, .int .i64 un, .slice a1 ps.length d1, .slice a2 says.length d2, .slice a3 ts.length d3] 30)).alloc (.cells #[.int .i64 0, .int .i64 0, .slice none 0 0, .slice none 0 0, .slice none 0 0] 30)).heap[w.heap.size + 1]? = some (.cells #[.int .i64 0, .int .i64 0, .slice none 0 0, .slice none 0 0, .slice none 0 0] 30) := by
    have := rl_new (w.alloc (.cells #[.int .i64 ua, .int .i64 un, .slice a1 ps.length d1, .slice a2 says.length d2, .slice a3 ts.length d3] 30)) (.cells #[.int .i64 0, .int .i64 0, .slice none 0 0, .slice none 0 0, .slice none 0 0] 30)
    rw [World.size_alloc] at this
    exact this
  have HX1 : Hid (((w.alloc (.cells #[.int .i64 ua, .int .i64 un, .slice a1 ps.length d1, .slice a2 says.length d2, .slice a3 ts.length d3] 30)).alloc (.cells #[.int .i64 0, .int .i64 0, .slice none 0 0, .slice none 0 0, .slice none 0 0] 30)).heap[w.heap.size]? = some (.cells #[.int .i64 ua, .int .i64 un, .slice a1 ps.length d1, .slice a2 says.length d2, .slice a3 ts.length d3] 30)) := hX1
  have HZ1 : Hid (((w.alloc (.cells #[.int .i64 ua, .int .i64 un, .slice a1 ps.length d1, .slice a2 says.length d2, .slice a3 ts.length d3] 30)).alloc (.cells #[.int .i64 0, .int .i64 0, .slice none 0 0, .slice none 0 0, .slice none 0 0] 30)).heap[w.heap.size + 1]? = some (.cells #[.int .i64 0, .int .i64 0, .slice none 0 0, .slice none 0 0, .slice none 0 0] 30)) := hZ1
  have HSZ : Hid (((w.alloc (.cells #[.int .i64 ua, .int .i64 un, .slice a1 ps.length d1, .slice a2 says.length d2, .slice a3 ts.length d3] 30)).alloc (.cells #[.int .i64 0, .int .i64 0, .slice none 0 0, .slice none 0 0, .slice none 0 0] 30)).heap.size = w.heap.size + 2) := by show _ = _; simp
  clear hX1 hZ1
  go_enter Tryz.func59, Tryz.ntmps59
  go_upto_region 1 with fail
  generalize ((w.alloc (.cells #[.int .i64 ua, .int .i64 un, .slice a1 ps.length d1, .slice a2 says.length d2, .slice a3 ts.length d3] 30)).alloc (.cells #[.int .i64 0, .int .i64 0, .slice none 0 0, .slice none 0 0, .slice none 0 0] 30)) = w1 at *
  have c3 : w1.cell? ⟨w.heap.size, 3, none⟩ = some (.slice a2 says.length d2) := by rw [Lib.cell_of_heap HX1.out]; rfl
  have HCF : Hid (Calls Tryz.prog 94 #[.slice a2 says.length d2] w1 fun e w' => ∃ v', e = .returned v' ∧ w'.ownsRow w1.heap.size 84 2 v' says.length (q.map fcCells).flatten ∧ Below w1.heap.size w1 w') :=
    cloneF_any says.length _ a2 d2 w1 (by
      rcases HQ3.out with h | ⟨b, off, h, hc⟩
      · exact .inl h
      · exact .inr ⟨b, off, h, fun j u hj => cell_below HB1.out (hc j u hj)⟩) (by rw [fc_length, HQL.out]) (fun u hu => by
      obtain ⟨c, hc, hu⟩ := List.mem_flatten.mp hu
      obtain ⟨p, hp, rfl⟩ := List.mem_map.mp hc
      obtain ⟨a9, c9, hp9⟩ := fv_slice (HQ2.out p hp)
      simp [fcCells, hp9] at hu
      rcases hu with rfl | rfl <;> rfl) (by omega) (fun h => by have h1 := HC2.out h; have h2 := HC3.out; omega)
  go_upto_region 2 with (go_at_call 94; refine Calls.mono HCF.out ?_; rintro e w2 ⟨v2, rfl, hrow2, hb2⟩; obtain ⟨sa, sc, rfl⟩ := own_slice hrow2)
  clear c3 HCF HQ3
  go_wp2_with fail
  go_loopw [10] (fun i wr => ∃ (m : Nat) (R : List Fv), m ≤ says.length ∧ i = .int .i64 m ∧ R.length = says.length ∧ wr.ownsRow w1.heap.size 84 2 (.slice sa says.length sc) says.length (R.map fcCells).flatten ∧ R.map (·.1) = q.map (·.1) ∧ (∀ j, m ≤ j → R[j]? = q[j]?) ∧ (∀ j p, j < m → R[j]? = some p → wr.ownsRow w1.heap.size 3 1 p.2 p.1.args.length (p.1.args.map (Value.int .i64))) ∧ Below w1.heap.size w1 wr) (fun i _ => says.length - (intOf i).toNat)
  case atStart => exact ⟨0, q, Nat.zero_le _, rfl, HQL.out, hrow2, rfl, fun _ _ => rfl, fun j p hj => absurd hj (by omega), hb2⟩
  case round =>
  clear hrow2 hb2
  obtain ⟨m, R, hm, rfl, hRl, hrow, hmap, hrest, hargs, hb⟩ := hrel
  have HRL : Hid (R.length = says.length) := hRl
  have HMAP : Hid (R.map (·.1) = q.map (·.1)) := hmap
  have HREST : Hid (∀ j, m ≤ j → R[j]? = q[j]?) := hrest
  have HARGS : Hid (∀ j p, j < m → R[j]? = some p → wr.ownsRow w1.heap.size 3 1 p.2 p.1.args.length (p.1.args.map (Value.int .i64))) := hargs
  clear hmap hrest hargs hRl
  by_cases hlt : m < says.length
  · obtain ⟨x, hx, hxm⟩ : ∃ x, q[m]? = some x ∧ x ∈ q := ⟨q[m]'(by rw [HQL.out]; exact hlt), List.getElem?_eq_getElem _, List.getElem_mem _⟩
    have hRx : R[m]? = some x := (HREST.out m (Nat.le_refl _)).trans hx
    obtain ⟨g, rfl⟩ : ∃ g, sa = some ⟨g, 0, none⟩ := by
      rcases ownsRow_forms9 hrow with ⟨_, h0⟩ | ⟨g, c, hv⟩
      · omega
      · injection hv with hv
        exact ⟨g, hv⟩
    have hrow : FRow wr w1.heap.size g sc R := by
      unfold FRow
      rw [HRL.out]
      exact hrow
    obtain ⟨c0, c1⟩ := hrow.cell hRx
    obtain ⟨xa, xc, hxv⟩ := fv_slice (HQ2.out x hxm)
    have HIX : Hid (IntsV w x.2 x.1.args ∧ x.1.args.length ≤ 1048576) := ⟨(HQ2.out x hxm).1, Nat.le_trans (HFA.out _ (HQ1.out ▸ List.mem_map_of_mem hxm)) (by decide)⟩
    have HXV : Hid (x.2 = .slice xa x.1.args.length xc) := hxv
    rw [hxv] at c1
    have HRX : Hid (R[m]? = some x ∧ q[m]? = some x) := ⟨hRx, hx⟩
    clear hRx hx hxm hxv
    have f1 := hrow.frozen (m * 2 + 1)
    have HBW : Hid (Below w.heap.size w wr) := HB1.out.trans (hb.mono HB1.out.size)
    have HCI : Hid (Calls Tryz.prog 95 #[.slice xa x.1.args.length xc] wr fun e w' => ∃ v', e = .returned v' ∧ w'.ownsRow wr.heap.size 3 1 v' x.1.args.length (x.1.args.map (Value.int .i64)) ∧ Below wr.heap.size wr w') := cloneI_any x.1.args _ wr (by have h3 := intsV_below HIX.out.1 HBW.out; rw [HXV.out] at h3; exact h3) HIX.out.2
    go_wp2_with fail
    refine Calls.mono HCI.out ?_
    rintro e w7 ⟨v7, rfl, hown7, hb7⟩
    obtain ⟨a7, c7, rfl⟩ := own_slice hown7
    have hrow7 := hrow.keep (hb7.block g hrow.lt.2)
    have hput := hrow7.put1 HRX.out.1 (.slice a7 x.1.args.length c7)
    obtain ⟨d0, d1⟩ := hrow7.cell HRX.out.1
    rw [HXV.out] at d1
    have df1 := hrow7.frozen (m * 2 + 1)
    have hglt := hrow.lt
    have hb8 : Below w1.heap.size w1 (w7.setCell ⟨g, m * 2 + 1, none⟩ (.slice a7 x.1.args.length c7)) := (hb.trans (hb7.mono hb.size)).grown (grown_set _ _ _ _) (Nat.le_trans hb.size hb7.size) (fun k e => by cases e; omega)
    have HA2 : Hid (∀ j p, j < m + 1 → (R.set m (x.1, Value.slice a7 x.1.args.length c7))[j]? = some p → (w7.setCell ⟨g, m * 2 + 1, none⟩ (.slice a7 x.1.args.length c7)).ownsRow w1.heap.size 3 1 p.2 p.1.args.length (p.1.args.map (Value.int .i64))) := by
      intro j p hj hjp
      rw [List.getElem?_set] at hjp
      by_cases hjm : m = j
      · rw [if_pos hjm, if_pos (by rw [HRL.out]; omega)] at hjp
        obtain rfl : (x.1, Value.slice a7 x.1.args.length c7) = p := by simpa using hjp
        exact own3_set (rl_own_le hown7 hb.size) hrow7 _ _
      · rw [if_neg hjm] at hjp
        exact own3_set (ownsRow_below (HARGS.out j p (by omega) hjp) hb7) hrow7 _ _
    have HM2 : Hid ((R.set m (x.1, Value.slice a7 x.1.args.length c7)).map (·.1) = q.map (·.1)) := by
      show _ = _
      rw [List.map_set, HMAP.out]
      apply List.ext_getElem?
      intro t
      rw [List.getElem?_set]
      split
      · rename_i ht
        subst ht
        rw [if_pos (by rw [List.length_map, HQL.out]; exact hlt), List.getElem?_map, HRX.out.2]
        rfl
      · rfl
    have HR2 : Hid (∀ j, m + 1 ≤ j → (R.set m (x.1, Value.slice a7 x.1.args.length c7))[j]? = q[j]?) := fun j hj => by
      rw [List.getElem?_set, if_neg (by omega)]
      exact HREST.out j (by omega)
    have HPUT : Hid ((w7.setCell ⟨g, m * 2 + 1, none⟩ (.slice a7 x.1.args.length c7)).ownsRow w1.heap.size 84 2 (.slice (some ⟨g, 0, none⟩) says.length sc) says.length ((R.set m (x.1, Value.slice a7 x.1.args.length c7)).map fcCells).flatten) := by
      have h9 := hput
      unfold FRow at h9
      rw [List.length_set, HRL.out] at h9
      exact h9
    clear hrow hown7 hb7 hrow7 hb HARGS HMAP HREST c0 c1 f1 hput HCI
    go_wp2_with fail
    go_roundw
    case rel => exact ⟨m + 1, R.set m (x.1, Value.slice a7 x.1.args.length c7), hlt, by go_num, by rw [List.length_set]; exact HRL.out, HPUT.out, HM2.out, HR2.out, HA2.out, hb8⟩
    case measure => simp [intOf]; omega
  · have hdd : decide (m < says.length) = false := decide_eq_false hlt
    obtain rfl : m = says.length := by omega
    have HFP : Hid (FactsP w1.heap.size wr (.slice sa says.length sc) says) := ⟨R, HMAP.out.trans HQ1.out, by rw [HRL.out]; exact hrow, fun p hp => by
      obtain ⟨j, hj⟩ := List.mem_iff_getElem?.mp hp
      exact HARGS.out j p (by have := (List.getElem?_eq_some_iff.mp hj).1; rw [HRL.out] at this; exact this) hj⟩
    have HB : Hid (Below w.heap.size w wr) := HB1.out.trans (hb.mono HB1.out.size)
    have hsw : w.heap.size + 2 ≤ wr.heap.size := by have h1 := hb.size; have h2 := HSZ.out; omega
    have hs1 : w.heap.size + 2 ≤ w1.heap.size := by have h2 := HSZ.out; omega
    have HXC : Hid (∀ z, Below wr.heap.size wr z → z.cell? ⟨w.heap.size, 0, none⟩ = some (.int .i64 ua) ∧ z.cell? ⟨w.heap.size, 1, none⟩ = some (.int .i64 un) ∧ z.cell? ⟨w.heap.size, 2, none⟩ = some (.slice a1 ps.length d1) ∧ z.cell? ⟨w.heap.size, 3, none⟩ = some (.slice a2 says.length d2) ∧ z.cell? ⟨w.heap.size, 4, none⟩ = some (.slice a3 ts.length d3)) := fun z hz => by
      have h1 := hb.trans (hz.mono hb.size)
      have h2 := (h1.block _ (Array.getElem?_eq_some_iff.1 HX1.out).1).trans HX1.out
      exact ⟨by rw [Lib.cell_of_heap h2]; rfl, by rw [Lib.cell_of_heap h2]; rfl, by rw [Lib.cell_of_heap h2]; rfl, by rw [Lib.cell_of_heap h2]; rfl, by rw [Lib.cell_of_heap h2]; rfl⟩
    have HXZ : Hid (∀ z, Below wr.heap.size wr z → z.heap[w.heap.size + 1]? = some (.cells #[.int .i64 0, .int .i64 0, .slice none 0 0, .slice none 0 0, .slice none 0 0] 30)) := fun z hz => by
      have h1 := hb.trans (hz.mono hb.size)
      exact (h1.block _ (Array.getElem?_eq_some_iff.1 HZ1.out).1).trans HZ1.out
    have HP : Hid (∀ z, Below wr.heap.size wr z → Calls Tryz.prog 96 #[.slice a1 ps.length d1] z fun e w' => ∃ v', e = .returned v' ∧ w'.ownsRow wr.heap.size 26 2 v' ps.length (ps.map idCells).flatten ∧ Below z.heap.size z w') := fun z hz => by
      obtain ⟨_, _, e9, hc, hA⟩ := idsV_below HX0.out.p (HB.out.trans (hz.mono HB.out.size))
      cases e9
      refine (cloneD_any ps.length _ a1 d1 z (ids_cells hA) (ids_flat ps) (ids_one ps) (by omega) (fun h => by have h1 := hc.2 h; have h2 := hc.1; omega)).mono ?_
      rintro e w' ⟨v', h1, h2, h3⟩
      exact ⟨v', h1, rl_own_le h2 hz.size, h3⟩
    have HT : Hid (∀ z, Below wr.heap.size wr z → Calls Tryz.prog 96 #[.slice a3 ts.length d3] z fun e w' => ∃ v', e = .returned v' ∧ w'.ownsRow wr.heap.size 26 2 v' ts.length (ts.map idCells).flatten ∧ Below z.heap.size z w') := fun z hz => by
      obtain ⟨_, _, e9, hc, hA⟩ := idsV_below HX0.out.t (HB.out.trans (hz.mono HB.out.size))
      cases e9
      refine (cloneD_any ts.length _ a3 d3 z (ids_cells hA) (ids_flat ts) (ids_one ts) (by omega) (fun h => by have h1 := hc.2 h; have h2 := hc.1; omega)).mono ?_
      rintro e w' ⟨v', h1, h2, h3⟩
      exact ⟨v', h1, rl_own_le h2 hz.size, h3⟩
    clear HARGS HREST HMAP HQ1 HQ2 HX0 HX1 HZ1 HFA hrow hb HB1
    go_upto_region 7 with fail
    refine wp_region_tabL (copyT w.heap.size wr.heap.size ua un a1 d1 sa says.length sc a3 d3 ps ts) _ rfl (by kernel_rfl) (by kernel_rfl) (by kernel_rfl) (copyT_mono _ _ _ _ _ _ _ _ _ _ _ _ _) ?hop ?hlast
    case hop =>
      refine AllOps.cons (fun a y h => ?_) ?_
      · have e1 : a.eval (.tmp 1) = (.pointer (some ⟨w.heap.size, 0, none⟩) : Value) := h.old 1 (by kernel_rfl)
        refine opOk_val (v := .pointer (some ⟨w.heap.size, 0, none⟩)) (w' := y) (wanted_none rfl) ?_ (fun t ht => by cases ht; exact rfl) (Below.refl _ _)
        have ec : ∀ v, a.eval (.const v) = v := fun _ => rfl
        generalize a.eval = ev at *
        clear h
        go_simp
      refine AllOps.cons (fun a y h => ?_) ?_
      · have e24 : a.eval (.tmp 24) = (.pointer (some ⟨w.heap.size, 0, none⟩) : Value) := h.of 24 (by kernel_rfl)
        obtain ⟨c0, c1, c2, c3, c4⟩ := HXC.out y h.below
        refine opOk_val (v := .agg #[.int .i64 ua, .int .i64 un]) (w' := y) (wanted_none rfl) ?_ (fun t ht => by cases ht; exact rfl) (Below.refl _ _)
        have ec : ∀ v, a.eval (.const v) = v := fun _ => rfl
        generalize a.eval = ev at *
        clear h
        go_simp
      refine AllOps.cons (fun a y h => ?_) ?_
      · have e1 : a.eval (.tmp 1) = (.pointer (some ⟨w.heap.size, 0, none⟩) : Value) := h.old 1 (by kernel_rfl)
        refine opOk_val (v := .pointer (some ⟨w.heap.size, 2, none⟩)) (w' := y) (wanted_none rfl) ?_ (fun t ht => by cases ht; exact rfl) (Below.refl _ _)
        have ec : ∀ v, a.eval (.const v) = v := fun _ => rfl
        generalize a.eval = ev at *
        clear h
        go_simp
      refine AllOps.cons (fun a y h => ?_) ?_
      · have e26 : a.eval (.tmp 26) = (.pointer (some ⟨w.heap.size, 2, none⟩) : Value) := h.of 26 (by kernel_rfl)
        obtain ⟨c0, c1, c2, c3, c4⟩ := HXC.out y h.below
        refine opOk_val (v := .slice a1 ps.length d1) (w' := y) (wanted_none rfl) ?_ (fun t ht => by cases ht; exact rfl) (Below.refl _ _)
        have ec : ∀ v, a.eval (.const v) = v := fun _ => rfl
        generalize a.eval = ev at *
        clear h
        go_simp
      refine AllOps.cons (fun a y h => ?_) ?_
      · have e27 : a.eval (.tmp 27) = (.slice a1 ps.length d1 : Value) := h.of 27 (by kernel_rfl)
        refine opOk_call (f := 96) (args := #[.slice a1 ps.length d1]) (wanted_none rfl) ?_ ?_
        · have ec : ∀ v, a.eval (.const v) = v := fun _ => rfl
          have ef : ∀ f, a.eval (.func f) = .func (.func f) #[] #[] := fun _ => rfl
          generalize a.eval = ev at *
          clear h
          go_simp
        · refine (HP.out y h.below).mono ?_
          rintro e w' ⟨v', rfl, ho, hb⟩
          exact ⟨v', rfl, fun t ht => by cases ht; exact ho, hb⟩
      refine AllOps.cons (fun a y h => ?_) ?_
      · have e3 : a.eval (.tmp 3) = (.slice sa says.length sc : Value) := h.old 3 (by kernel_rfl)
        refine opOk_val (v := .slice sa says.length sc) (w' := y) (wanted_none rfl) ?_ (fun t ht => by cases ht; exact rfl) (Below.refl _ _)
        have ec : ∀ v, a.eval (.const v) = v := fun _ => rfl
        generalize a.eval = ev at *
        clear h
        go_simp
      refine AllOps.cons (fun a y h => ?_) ?_
      · have e1 : a.eval (.tmp 1) = (.pointer (some ⟨w.heap.size, 0, none⟩) : Value) := h.old 1 (by kernel_rfl)
        refine opOk_val (v := .pointer (some ⟨w.heap.size, 4, none⟩)) (w' := y) (wanted_none rfl) ?_ (fun t ht => by cases ht; exact rfl) (Below.refl _ _)
        have ec : ∀ v, a.eval (.const v) = v := fun _ => rfl
        generalize a.eval = ev at *
        clear h
        go_simp
      refine AllOps.cons (fun a y h => ?_) ?_
      · have e30 : a.eval (.tmp 30) = (.pointer (some ⟨w.heap.size, 4, none⟩) : Value) := h.of 30 (by kernel_rfl)
        obtain ⟨c0, c1, c2, c3, c4⟩ := HXC.out y h.below
        refine opOk_val (v := .slice a3 ts.length d3) (w' := y) (wanted_none rfl) ?_ (fun t ht => by cases ht; exact rfl) (Below.refl _ _)
        have ec : ∀ v, a.eval (.const v) = v := fun _ => rfl
        generalize a.eval = ev at *
        clear h
        go_simp
      refine AllOps.cons (fun a y h => ?_) ?_
      · have e31 : a.eval (.tmp 31) = (.slice a3 ts.length d3 : Value) := h.of 31 (by kernel_rfl)
        refine opOk_call (f := 96) (args := #[.slice a3 ts.length d3]) (wanted_none rfl) ?_ ?_
        · have ec : ∀ v, a.eval (.const v) = v := fun _ => rfl
          have ef : ∀ f, a.eval (.func f) = .func (.func f) #[] #[] := fun _ => rfl
          generalize a.eval = ev at *
          clear h
          go_simp
        · refine (HT.out y h.below).mono ?_
          rintro e w' ⟨v', rfl, ho, hb⟩
          exact ⟨v', rfl, fun t ht => by cases ht; exact ho, hb⟩
      refine AllOps.cons (fun a y h => ?_) ?_
      · have e25 : a.eval (.tmp 25) = (.agg #[.int .i64 ua, .int .i64 un] : Value) := h.of 25 (by kernel_rfl)
        have t28 : y.ownsRow wr.heap.size 26 2 (a.eval (.tmp 28)) ps.length (ps.map idCells).flatten := h.of 28 (by kernel_rfl)
        have e29 : a.eval (.tmp 29) = (.slice sa says.length sc : Value) := h.of 29 (by kernel_rfl)
        have t32 : y.ownsRow wr.heap.size 26 2 (a.eval (.tmp 32)) ts.length (ts.map idCells).flatten := h.of 32 (by kernel_rfl)
        obtain ⟨p1, k1, q28⟩ := own_slice t28
        obtain ⟨p3, k3, q32⟩ := own_slice t32
        refine opOk_val (v := .agg #[.int .i64 ua, .int .i64 un, .slice p1 ps.length k1, .slice sa says.length sc, .slice p3 ts.length k3]) (w' := y) (wanted_none rfl) ?_ (fun t ht => by cases ht; exact ⟨_, _, rfl, q28 ▸ t28, q32 ▸ t32⟩) (Below.refl _ _)
        have ec : ∀ v, a.eval (.const v) = v := fun _ => rfl
        generalize a.eval = ev at *
        clear h
        go_simp
      exact AllOps.nil
    case hlast =>
      rintro ⟨tm, df⟩ y hI
      obtain ⟨v1, v2, e33, o1, o2⟩ : ∃ v1 v2, (Act.eval ⟨tm, df⟩ (.tmp 33)) = .agg #[.int .i64 ua, .int .i64 un, v1, .slice sa says.length sc, v2] ∧ y.ownsRow wr.heap.size 26 2 v1 ps.length (ps.map idCells).flatten ∧ y.ownsRow wr.heap.size 26 2 v2 ts.length (ts.map idCells).flatten := hI.all 9 _ 33 (by decide) rfl rfl
      have e2 : Act.eval ⟨tm, df⟩ (.tmp 2) = .pointer (some ⟨w.heap.size + 1, 0, none⟩) := hI.still 2 (by decide)
      obtain ⟨p1, k1, rfl⟩ := own_slice o1
      obtain ⟨p3, k3, rfl⟩ := own_slice o2
      have sk0 := (HXZ.out y hI.below)
      have sz0 : (y).cell? ⟨w.heap.size + 1, 0, none⟩ = some (.int .i64 0) := by rw [Lib.cell_of_heap sk0]; rfl
      have sy0 := Lib.frozen_of_heap sk0 0
      have sk1 : ((y).setCell ⟨w.heap.size + 1, 0, none⟩ (.int .i64 ua)).heap[w.heap.size + 1]? = some (.cells #[.int .i64 ua, .int .i64 0, .slice none 0 0, .slice none 0 0, .slice none 0 0] 30) := by rw [Lib.heap_setCell_same sk0]; rfl
      have sz1 : ((y).setCell ⟨w.heap.size + 1, 0, none⟩ (.int .i64 ua)).cell? ⟨w.heap.size + 1, 1, none⟩ = some (.int .i64 0) := by rw [Lib.cell_of_heap sk1]; rfl
      have sy1 := Lib.frozen_of_heap sk1 1
      have sk2 : (((y).setCell ⟨w.heap.size + 1, 0, none⟩ (.int .i64 ua)).setCell ⟨w.heap.size + 1, 1, none⟩ (.int .i64 un)).heap[w.heap.size + 1]? = some (.cells #[.int .i64 ua, .int .i64 un, .slice none 0 0, .slice none 0 0, .slice none 0 0] 30) := by rw [Lib.heap_setCell_same sk1]; rfl
      have sz2 : (((y).setCell ⟨w.heap.size + 1, 0, none⟩ (.int .i64 ua)).setCell ⟨w.heap.size + 1, 1, none⟩ (.int .i64 un)).cell? ⟨w.heap.size + 1, 2, none⟩ = some (.slice none 0 0) := by rw [Lib.cell_of_heap sk2]; rfl
      have sy2 := Lib.frozen_of_heap sk2 2
      have sk3 : ((((y).setCell ⟨w.heap.size + 1, 0, none⟩ (.int .i64 ua)).setCell ⟨w.heap.size + 1, 1, none⟩ (.int .i64 un)).setCell ⟨w.heap.size + 1, 2, none⟩ (.slice p1 ps.length k1)).heap[w.heap.size + 1]? = some (.cells #[.int .i64 ua, .int .i64 un, .slice p1 ps.length k1, .slice none 0 0, .slice none 0 0] 30) := by rw [Lib.heap_setCell_same sk2]; rfl
      have sz3 : ((((y).setCell ⟨w.heap.size + 1, 0, none⟩ (.int .i64 ua)).setCell ⟨w.heap.size + 1, 1, none⟩ (.int .i64 un)).setCell ⟨w.heap.size + 1, 2, none⟩ (.slice p1 ps.length k1)).cell? ⟨w.heap.size + 1, 3, none⟩ = some (.slice none 0 0) := by rw [Lib.cell_of_heap sk3]; rfl
      have sy3 := Lib.frozen_of_heap sk3 3
      have sk4 : (((((y).setCell ⟨w.heap.size + 1, 0, none⟩ (.int .i64 ua)).setCell ⟨w.heap.size + 1, 1, none⟩ (.int .i64 un)).setCell ⟨w.heap.size + 1, 2, none⟩ (.slice p1 ps.length k1)).setCell ⟨w.heap.size + 1, 3, none⟩ (.slice sa says.length sc)).heap[w.heap.size + 1]? = some (.cells #[.int .i64 ua, .int .i64 un, .slice p1 ps.length k1, .slice sa says.length sc, .slice none 0 0] 30) := by rw [Lib.heap_setCell_same sk3]; rfl
      have sz4 : (((((y).setCell ⟨w.heap.size + 1, 0, none⟩ (.int .i64 ua)).setCell ⟨w.heap.size + 1, 1, none⟩ (.int .i64 un)).setCell ⟨w.heap.size + 1, 2, none⟩ (.slice p1 ps.length k1)).setCell ⟨w.heap.size + 1, 3, none⟩ (.slice sa says.length sc)).cell? ⟨w.heap.size + 1, 4, none⟩ = some (.slice none 0 0) := by rw [Lib.cell_of_heap sk4]; rfl
      have sy4 := Lib.frozen_of_heap sk4 4
      have sk5 : ((((((y).setCell ⟨w.heap.size + 1, 0, none⟩ (.int .i64 ua)).setCell ⟨w.heap.size + 1, 1, none⟩ (.int .i64 un)).setCell ⟨w.heap.size + 1, 2, none⟩ (.slice p1 ps.length k1)).setCell ⟨w.heap.size + 1, 3, none⟩ (.slice sa says.length sc)).setCell ⟨w.heap.size + 1, 4, none⟩ (.slice p3 ts.length k3)).heap[w.heap.size + 1]? = some (.cells #[.int .i64 ua, .int .i64 un, .slice p1 ps.length k1, .slice sa says.length sc, .slice p3 ts.length k3] 30) := by rw [Lib.heap_setCell_same sk4]; rfl
      refine wpOp_skip (w' := (((((y).setCell ⟨w.heap.size + 1, 0, none⟩ (.int .i64 ua)).setCell ⟨w.heap.size + 1, 1, none⟩ (.int .i64 un)).setCell ⟨w.heap.size + 1, 2, none⟩ (.slice p1 ps.length k1)).setCell ⟨w.heap.size + 1, 3, none⟩ (.slice sa says.length sc)).setCell ⟨w.heap.size + 1, 4, none⟩ (.slice p3 ts.length k3)) rfl (wanted_none rfl) rfl ?hr ?_
      case hr =>
        show Sem.run Tryz.prog (execOp (Act.eval ⟨tm, df⟩) _) y = _
        generalize Act.eval ⟨tm, df⟩ = ev at *
        clear hI
        go_simp
      have HGR : Hid (y.grownBy ((((((y).setCell ⟨w.heap.size + 1, 0, none⟩ (.int .i64 ua)).setCell ⟨w.heap.size + 1, 1, none⟩ (.int .i64 un)).setCell ⟨w.heap.size + 1, 2, none⟩ (.slice p1 ps.length k1)).setCell ⟨w.heap.size + 1, 3, none⟩ (.slice sa says.length sc)).setCell ⟨w.heap.size + 1, 4, none⟩ (.slice p3 ts.length k3)) (some (w.heap.size + 1))) := ((((grown_set y _ 0 _).trans_row (grown_set _ _ 1 _)).trans_row (grown_set _ _ 2 _)).trans_row (grown_set _ _ 3 _)).trans_row (grown_set _ _ 4 _)
      have HBF : Hid (Below w.heap.size w ((((((y).setCell ⟨w.heap.size + 1, 0, none⟩ (.int .i64 ua)).setCell ⟨w.heap.size + 1, 1, none⟩ (.int .i64 un)).setCell ⟨w.heap.size + 1, 2, none⟩ (.slice p1 ps.length k1)).setCell ⟨w.heap.size + 1, 3, none⟩ (.slice sa says.length sc)).setCell ⟨w.heap.size + 1, 4, none⟩ (.slice p3 ts.length k3))) := ((HB.out.trans (hI.below.mono HB.out.size))).grown HGR.out (Nat.le_trans HB.out.size hI.below.size) (fun j e => by cases e; omega)
      have HPS : Hid _ := rl_own_le (base' := w.heap.size) (o1.kept HGR.out (.inr (fun e => by have := (o1.lt _ e).1; omega))) (by omega)
      have HTS : Hid _ := rl_own_le (base' := w.heap.size) (o2.kept HGR.out (.inr (fun e => by have := (o2.lt _ e).1; omega))) (by omega)
      have HSS : Hid (FactsP w1.heap.size ((((((y).setCell ⟨w.heap.size + 1, 0, none⟩ (.int .i64 ua)).setCell ⟨w.heap.size + 1, 1, none⟩ (.int .i64 un)).setCell ⟨w.heap.size + 1, 2, none⟩ (.slice p1 ps.length k1)).setCell ⟨w.heap.size + 1, 3, none⟩ (.slice sa says.length sc)).setCell ⟨w.heap.size + 1, 4, none⟩ (.slice p3 ts.length k3)) (.slice sa says.length sc) says) := factsP_grown (factsP_below HFP.out hI.below) HGR.out (by omega)
      have d0 : ((((((y).setCell ⟨w.heap.size + 1, 0, none⟩ (.int .i64 ua)).setCell ⟨w.heap.size + 1, 1, none⟩ (.int .i64 un)).setCell ⟨w.heap.size + 1, 2, none⟩ (.slice p1 ps.length k1)).setCell ⟨w.heap.size + 1, 3, none⟩ (.slice sa says.length sc)).setCell ⟨w.heap.size + 1, 4, none⟩ (.slice p3 ts.length k3)).cell? ⟨w.heap.size + 1, 0, none⟩ = some (.int .i64 ua) := by rw [Lib.cell_of_heap sk5]; rfl
      have d1 : ((((((y).setCell ⟨w.heap.size + 1, 0, none⟩ (.int .i64 ua)).setCell ⟨w.heap.size + 1, 1, none⟩ (.int .i64 un)).setCell ⟨w.heap.size + 1, 2, none⟩ (.slice p1 ps.length k1)).setCell ⟨w.heap.size + 1, 3, none⟩ (.slice sa says.length sc)).setCell ⟨w.heap.size + 1, 4, none⟩ (.slice p3 ts.length k3)).cell? ⟨w.heap.size + 1, 1, none⟩ = some (.int .i64 un) := by rw [Lib.cell_of_heap sk5]; rfl
      have d2 : ((((((y).setCell ⟨w.heap.size + 1, 0, none⟩ (.int .i64 ua)).setCell ⟨w.heap.size + 1, 1, none⟩ (.int .i64 un)).setCell ⟨w.heap.size + 1, 2, none⟩ (.slice p1 ps.length k1)).setCell ⟨w.heap.size + 1, 3, none⟩ (.slice sa says.length sc)).setCell ⟨w.heap.size + 1, 4, none⟩ (.slice p3 ts.length k3)).cell? ⟨w.heap.size + 1, 2, none⟩ = some (.slice p1 ps.length k1) := by rw [Lib.cell_of_heap sk5]; rfl
      have d3 : ((((((y).setCell ⟨w.heap.size + 1, 0, none⟩ (.int .i64 ua)).setCell ⟨w.heap.size + 1, 1, none⟩ (.int .i64 un)).setCell ⟨w.heap.size + 1, 2, none⟩ (.slice p1 ps.length k1)).setCell ⟨w.heap.size + 1, 3, none⟩ (.slice sa says.length sc)).setCell ⟨w.heap.size + 1, 4, none⟩ (.slice p3 ts.length k3)).cell? ⟨w.heap.size + 1, 3, none⟩ = some (.slice sa says.length sc) := by rw [Lib.cell_of_heap sk5]; rfl
      have d4 : ((((((y).setCell ⟨w.heap.size + 1, 0, none⟩ (.int .i64 ua)).setCell ⟨w.heap.size + 1, 1, none⟩ (.int .i64 un)).setCell ⟨w.heap.size + 1, 2, none⟩ (.slice p1 ps.length k1)).setCell ⟨w.heap.size + 1, 3, none⟩ (.slice sa says.length sc)).setCell ⟨w.heap.size + 1, 4, none⟩ (.slice p3 ts.length k3)).cell? ⟨w.heap.size + 1, 4, none⟩ = some (.slice p3 ts.length k3) := by rw [Lib.cell_of_heap sk5]; rfl
      have hszE := hI.size
      have hstE := hI.still
      obtain rfl : df = [] := hI.defers
      clear hI o1 o2 e33 e2 sk0 sk1 sk2 sk3 sk4 sk5 sz0 sz1 sz2 sz3 sz4 sy0 sy1 sy2 sy3 sy4
      generalize (((((y).setCell ⟨w.heap.size + 1, 0, none⟩ (.int .i64 ua)).setCell ⟨w.heap.size + 1, 1, none⟩ (.int .i64 un)).setCell ⟨w.heap.size + 1, 2, none⟩ (.slice p1 ps.length k1)).setCell ⟨w.heap.size + 1, 3, none⟩ (.slice sa says.length sc)).setCell ⟨w.heap.size + 1, 4, none⟩ (.slice p3 ts.length k3) = yf at *
      show Exit.then _ _ Exit.normal ⟨tm, []⟩ yf
      have hF8 := tmps_fold [24, 25, 26, 27, 28, 29, 30, 31, 32, 33] tm _ hszE hstE
      clear hszE hstE
      simp only [List.foldl_cons, List.foldl_nil] at hF8
      generalize tm.getD 24 undef = x24 at hF8
      generalize tm.getD 25 undef = x25 at hF8
      generalize tm.getD 26 undef = x26 at hF8
      generalize tm.getD 27 undef = x27 at hF8
      generalize tm.getD 28 undef = x28 at hF8
      generalize tm.getD 29 undef = x29 at hF8
      generalize tm.getD 30 undef = x30 at hF8
      generalize tm.getD 31 undef = x31 at hF8
      generalize tm.getD 32 undef = x32 at hF8
      generalize tm.getD 33 undef = x33 at hF8
      simp only [List.setIfInBounds_toArray, List.set_cons_zero, List.set_cons_succ] at hF8
      subst hF8
      go_wp2_with fail
      refine bodyPost_ret (v := .agg #[.int .i64 ua, .int .i64 un, .slice p1 ps.length k1, .slice sa says.length sc, .slice p3 ts.length k3]) (by simp [results, Tryz.results59, go_sem, d0, d1, d2, d3, d4]) rfl ?_
      exact ⟨⟨⟨⟨ua, un⟩, ps, says, ts⟩, .slice p1 ps.length k1, .slice sa says.length sc, .slice p3 ts.length k3⟩, rfl, rfl, ⟨HPS.out, factsP_le HSS.out (by omega), HTS.out, HFF.out, HL.out⟩, HBF.out⟩
end Go.Proofs.YtmfaodapofamfaaGreat

/- Package update: Copies. -/
namespace Go.Proofs.YtmfaodapofamfaaGreat
open Go.RowKit

theorem cell_set_ne {w : World} {g o o' : Nat} (u : Value) (h : o ≠ o') : (w.setCell ⟨g, o, none⟩ u).cell? ⟨g, o', none⟩ = w.cell? ⟨g, o', none⟩ := by
  apply World.cell?_setCell_other
  intro e
  exact h (by injection e)
theorem set_app (y : Uv) (F : List Value) (k : Nat) (u : Value) : (uvCells y ++ F).set (k + 5) u = uvCells y ++ F.set k u := rfl
theorem flat5_set : ∀ (q : List Uv) (m : Nat) (x : Uv), m < q.length → ((q.set m x).map uvCells).flatten = ((((((q.map uvCells).flatten.set (m * 5) (.int .i64 x.u.id.a)).set (m * 5 + 1) (.int .i64 x.u.id.n)).set (m * 5 + 2) x.p).set (m * 5 + 3) x.s).set (m * 5 + 4) x.t)
  | [], m, x, h => absurd h (by simp)
  | y :: r, 0, x, _ => rfl
  | y :: r, m + 1, x, h => by
    have ih := flat5_set r m x (by simpa using h)
    have e0 : (m + 1) * 5 = m * 5 + 5 := by omega
    have e : ∀ i, m * 5 + 5 + i = (m * 5 + i) + 5 := fun i => by omega
    show uvCells y ++ ((r.set m x).map uvCells).flatten = ((((((uvCells y ++ (r.map uvCells).flatten).set ((m + 1) * 5) (.int .i64 x.u.id.a)).set ((m + 1) * 5 + 1) (.int .i64 x.u.id.n)).set ((m + 1) * 5 + 2) x.p).set ((m + 1) * 5 + 3) x.s).set ((m + 1) * 5 + 4) x.t)
    rw [ih, e0, e, e, e, e, set_app, set_app, set_app, set_app, set_app]
theorem row_in {w : World} {B g cap : Nat} {q : List Uv} (h : URow w B (.slice (some ⟨g, 0, none⟩) q.length cap) q) {m : Nat} (hm : m < q.length) : UpIn w g (m * 5) (uvD q m) := by
  have key : ∀ j, j < 5 → w.cell? ⟨g, m * 5 + j, none⟩ = (uvCells (uvD q m))[j]? := fun j hj => by
    rw [World.ownsRow.cellAt h (m * 5 + j) (by omega), flat5_get q m j hm hj]
  exact ⟨key 0 (by omega), key 1 (by omega), key 2 (by omega), key 3 (by omega), key 4 (by omega)⟩
theorem uvD_of {q : List Uv} {m : Nat} {x : Uv} (h : q[m]? = some x) : uvD q m = x := by
  unfold uvD
  rw [List.getD_eq_getElem?_getD, h]
  rfl
theorem get_uvD {q : List Uv} {m : Nat} (h : m < q.length) : q[m]? = some (uvD q m) := by
  unfold uvD
  rw [List.getD_eq_getElem?_getD, List.getElem?_eq_getElem h]
  rfl
/-- An update that Copy may be handed. -/
structure Few (u : Wr.Up) : Prop where
  l : u.ps.length ≤ 6 ∧ u.says.length ≤ 6 ∧ u.ts.length ≤ 6
  f : ∀ f, f ∈ u.says → f.args.length ≤ 3
theorem few_of {u : Wr.Up} (h : Wr.check u = 0) : Few u := by
  have r := Wr.right_of h
  refine ⟨⟨r.ps, r.says, r.ts⟩, fun f hf => ?_⟩
  have := r.fs f hf
  unfold Wr.factOk at this
  rw [Bool.and_eq_true, decide_eq_true_eq] at this
  exact this.1.2.2
set_option maxRecDepth 100000 in
set_option maxHeartbeats 4000000 in
theorem Copies_any (q : List Uv) (v : Value) (w : World) (hV : UpsV w v q) (hok : ∀ x, x ∈ q → UvOk w x) (hfew : ∀ x, x ∈ q → Few x.u) (hl : q.length ≤ 1000) :
    Calls Tryz.prog 74 #[v] w fun e w' => ∃ (R : List Uv) (v' : Value), e = .returned v' ∧ URow w' w.heap.size v' R ∧ ups R = ups q ∧ (∀ x, x ∈ R → UvP w.heap.size w' x) ∧ Below w.heap.size w w' := by
  have HO : Hid (∀ x, x ∈ q → UvOk w x ∧ Few x.u) := fun x hx => ⟨hok x hx, hfew x hx⟩
  have HC : Hid (Calls Tryz.prog 80 #[v] w fun e w' => ∃ v', e = .returned v' ∧ URow w' w.heap.size v' q ∧ Below w.heap.size w w') := cloneUps_any q v w hV hok hl
  obtain ⟨av, cv, rfl, _⟩ := hV
  clear hok hfew
  go_enter Tryz.func74, Tryz.ntmps74
  go_upto_region 2 with (go_at_call 80; refine Calls.mono HC.out ?_; rintro e w1 ⟨v1, rfl, hrow1, hb1⟩; obtain ⟨ar, cr, rfl⟩ := own_slice hrow1)
  clear HC
  go_wp2_with fail
  go_loopw [9] (fun i wr => ∃ (m : Nat) (R : List Uv), m ≤ q.length ∧ i = .int .i64 m ∧ R.length = q.length ∧ wr.ownsRow w.heap.size 30 5 (.slice ar q.length cr) q.length (R.map uvCells).flatten ∧ Hid (ups R = ups q) ∧ Hid (∀ j, m ≤ j → R[j]? = q[j]?) ∧ Hid (∀ j p, j < m → R[j]? = some p → UvP w1.heap.size wr p) ∧ Below w.heap.size w wr ∧ w1.heap.size ≤ wr.heap.size) (fun i _ => q.length - (intOf i).toNat)
  case atStart => exact ⟨0, q, Nat.zero_le _, rfl, rfl, hrow1, rfl, fun _ _ => rfl, fun j p hj => absurd hj (by omega), hb1, Nat.le_refl _⟩
  case round =>
  have hrow0 := hrow1
  have hszw : Hid (w.heap.size ≤ w1.heap.size) := hb1.size
  clear hrow1 hb1
  obtain ⟨m, R, hm, rfl, hRl, hrow, HU, HREST, HARGS, hb, hsz⟩ := hrel
  have HRL : Hid (R.length = q.length) := hRl
  clear hRl
  by_cases hlt : m < q.length
  · obtain ⟨g, rfl⟩ : ∃ g, ar = some ⟨g, 0, none⟩ := by
      rcases ownsRow_forms9 hrow with ⟨_, h0⟩ | ⟨g, c, hv⟩
      · omega
      · injection hv with hv
        exact ⟨g, hv⟩
    have hglt : g < w1.heap.size := (hrow0.lt g rfl).2
    have hgle : w.heap.size ≤ g := (hrow0.lt g rfl).1
    clear hrow0
    have hrow : URow wr w.heap.size (.slice (some ⟨g, 0, none⟩) R.length cr) R := by
      show World.ownsRow _ _ _ _ _ _ _
      rw [HRL.out]
      exact hrow
    have hxq : R[m]? = some (uvD q m) := (HREST.out m (Nat.le_refl _)).trans (get_uvD hlt)
    have hin := row_in hrow (m := m) (by rw [HRL.out]; exact hlt)
    rw [uvD_of hxq] at hin
    have hmem := uvD_mem q m hlt
    have HX : Hid (UvOk wr (uvD q m) ∧ Few (uvD q m).u) := ⟨(HO.out _ hmem).1.below hb, (HO.out _ hmem).2⟩
    have HXQ : Hid (R[m]? = some (uvD q m) ∧ q[m]? = some (uvD q m)) := ⟨hxq, get_uvD hlt⟩
    clear hxq hmem
    generalize uvD q m = x at *
    have HCC : Hid (∀ z, Below wr.heap.size wr z → Calls Tryz.prog 59 #[uvVal x] z fun e w' => ∃ x' : Uv, e = .returned (uvVal x') ∧ x'.u = x.u ∧ UvP z.heap.size w' x' ∧ Below z.heap.size z w') := fun z hz => Copy_any x z (HX.out.1.below hz) HX.out.2.l HX.out.2.f
    obtain ⟨a1, n1, d1, a2, n2, d2, a3, n3, d3, e1, e2, e3⟩ := HX.out.1.forms
    have HXX : Hid (∃ y : Uv, y = x) := ⟨x, rfl⟩
    obtain ⟨⟨⟨ua, un⟩, ps, says, ts⟩, vp, vs, vt⟩ := x
    dsimp only at *
    subst e1 e2 e3
    obtain ⟨c0, c1, c2, c3, c4⟩ := id hin
    dsimp only at c0 c1 c2 c3 c4
    have HBN : Hid (Below wr.heap.size wr (wr.alloc (.cells #[.int .i64 ua, .int .i64 un, .slice a1 n1 d1, .slice a2 n2 d2, .slice a3 n3 d3] 30))) := (Below.refl _ _).alloc (Nat.le_refl _) _
    go_wp2_with fail
    refine Calls.mono (HCC.out _ HBN.out) ?_
    rintro e w7 ⟨x', rfl, hxu, hxp, hb7⟩
    have hb7 := HBN.out.trans (hb7.mono HBN.out.size)
    have hxp : UvP w1.heap.size w7 x' := hxp.le (by have := HBN.out.size; omega)
    obtain ⟨p1, l1, k1, p2, l2, k2, p3, l3, k3, f1, f2, f3⟩ := hxp.ok.forms
    have HXP : Hid (UvP w1.heap.size w7 x' ∧ x'.u = _) := ⟨hxp, hxu⟩
    clear hxp hxu HX HXX c0 c1 c2 c3 c4
    obtain ⟨⟨⟨xa, xn⟩, ps', says', ts'⟩, vp', vs', vt'⟩ := x'
    dsimp only at *
    subst f1 f2 f3
    have hr7 := (Kc.below hb7).up hin
    have hrow7 := ownsRow_below hrow hb7
    dsimp only [UpIn] at hr7
    have rz0 : (w7).cell? ⟨g, m * 5, none⟩ = some (.int .i64 ua) := by exact hr7.1
    have ry0 : (w7).frozen? ⟨g, m * 5, none⟩ = false := by exact World.ownsRow.frozenAt hrow7 _
    have rz1 : ((w7).setCell ⟨g, m * 5, none⟩ (.int .i64 xa)).cell? ⟨g, m * 5 + 1, none⟩ = some (.int .i64 un) := by rw [cell_set_ne _ (by omega)]; exact hr7.2.1
    have ry1 : ((w7).setCell ⟨g, m * 5, none⟩ (.int .i64 xa)).frozen? ⟨g, m * 5 + 1, none⟩ = false := by rw [World.frozen?_setCell]; exact World.ownsRow.frozenAt hrow7 _
    have rz2 : (((w7).setCell ⟨g, m * 5, none⟩ (.int .i64 xa)).setCell ⟨g, m * 5 + 1, none⟩ (.int .i64 xn)).cell? ⟨g, m * 5 + 2, none⟩ = some (.slice a1 n1 d1) := by rw [cell_set_ne _ (by omega)]; rw [cell_set_ne _ (by omega)]; exact hr7.2.2.1
    have ry2 : (((w7).setCell ⟨g, m * 5, none⟩ (.int .i64 xa)).setCell ⟨g, m * 5 + 1, none⟩ (.int .i64 xn)).frozen? ⟨g, m * 5 + 2, none⟩ = false := by rw [World.frozen?_setCell]; rw [World.frozen?_setCell]; exact World.ownsRow.frozenAt hrow7 _
    have rz3 : ((((w7).setCell ⟨g, m * 5, none⟩ (.int .i64 xa)).setCell ⟨g, m * 5 + 1, none⟩ (.int .i64 xn)).setCell ⟨g, m * 5 + 2, none⟩ (.slice p1 l1 k1)).cell? ⟨g, m * 5 + 3, none⟩ = some (.slice a2 n2 d2) := by rw [cell_set_ne _ (by omega)]; rw [cell_set_ne _ (by omega)]; rw [cell_set_ne _ (by omega)]; exact hr7.2.2.2.1
    have ry3 : ((((w7).setCell ⟨g, m * 5, none⟩ (.int .i64 xa)).setCell ⟨g, m * 5 + 1, none⟩ (.int .i64 xn)).setCell ⟨g, m * 5 + 2, none⟩ (.slice p1 l1 k1)).frozen? ⟨g, m * 5 + 3, none⟩ = false := by rw [World.frozen?_setCell]; rw [World.frozen?_setCell]; rw [World.frozen?_setCell]; exact World.ownsRow.frozenAt hrow7 _
    have rz4 : (((((w7).setCell ⟨g, m * 5, none⟩ (.int .i64 xa)).setCell ⟨g, m * 5 + 1, none⟩ (.int .i64 xn)).setCell ⟨g, m * 5 + 2, none⟩ (.slice p1 l1 k1)).setCell ⟨g, m * 5 + 3, none⟩ (.slice p2 l2 k2)).cell? ⟨g, m * 5 + 4, none⟩ = some (.slice a3 n3 d3) := by rw [cell_set_ne _ (by omega)]; rw [cell_set_ne _ (by omega)]; rw [cell_set_ne _ (by omega)]; rw [cell_set_ne _ (by omega)]; exact hr7.2.2.2.2
    have ry4 : (((((w7).setCell ⟨g, m * 5, none⟩ (.int .i64 xa)).setCell ⟨g, m * 5 + 1, none⟩ (.int .i64 xn)).setCell ⟨g, m * 5 + 2, none⟩ (.slice p1 l1 k1)).setCell ⟨g, m * 5 + 3, none⟩ (.slice p2 l2 k2)).frozen? ⟨g, m * 5 + 4, none⟩ = false := by rw [World.frozen?_setCell]; rw [World.frozen?_setCell]; rw [World.frozen?_setCell]; rw [World.frozen?_setCell]; exact World.ownsRow.frozenAt hrow7 _
    have hput : URow ((((((w7).setCell ⟨g, m * 5, none⟩ (.int .i64 xa)).setCell ⟨g, m * 5 + 1, none⟩ (.int .i64 xn)).setCell ⟨g, m * 5 + 2, none⟩ (.slice p1 l1 k1)).setCell ⟨g, m * 5 + 3, none⟩ (.slice p2 l2 k2)).setCell ⟨g, m * 5 + 4, none⟩ (.slice p3 l3 k3)) w.heap.size (.slice (some ⟨g, 0, none⟩) R.length cr) (R.set m ⟨⟨⟨xa, xn⟩, ps', says', ts'⟩, .slice p1 l1 k1, .slice p2 l2 k2, .slice p3 l3 k3⟩) := by
      show World.ownsRow _ _ _ _ _ _ _
      rw [List.length_set, flat5_set R m _ (by rw [HRL.out]; exact hlt)]
      exact (World.ownsRow.stored (World.ownsRow.stored (World.ownsRow.stored (World.ownsRow.stored (World.ownsRow.stored hrow7 (m * 5) _).1 (m * 5 + 1) _).1 (m * 5 + 2) _).1 (m * 5 + 3) _).1 (m * 5 + 4) _).1
    have HGR : Hid (w7.grownBy ((((((w7).setCell ⟨g, m * 5, none⟩ (.int .i64 xa)).setCell ⟨g, m * 5 + 1, none⟩ (.int .i64 xn)).setCell ⟨g, m * 5 + 2, none⟩ (.slice p1 l1 k1)).setCell ⟨g, m * 5 + 3, none⟩ (.slice p2 l2 k2)).setCell ⟨g, m * 5 + 4, none⟩ (.slice p3 l3 k3)) (some g)) := ((((grown_set w7 _ _ _).trans_row (grown_set _ _ _ _)).trans_row (grown_set _ _ _ _)).trans_row (grown_set _ _ _ _)).trans_row (grown_set _ _ _ _)
    have hsz7 := hb7.size
    have HB8 : Hid (Below w.heap.size w ((((((w7).setCell ⟨g, m * 5, none⟩ (.int .i64 xa)).setCell ⟨g, m * 5 + 1, none⟩ (.int .i64 xn)).setCell ⟨g, m * 5 + 2, none⟩ (.slice p1 l1 k1)).setCell ⟨g, m * 5 + 3, none⟩ (.slice p2 l2 k2)).setCell ⟨g, m * 5 + 4, none⟩ (.slice p3 l3 k3))) := (hb.trans (hb7.mono hb.size)).grown HGR.out (Nat.le_trans hb.size hb7.size) (fun k e => by cases e; omega)
    have HS8 : Hid (w1.heap.size ≤ ((((((w7).setCell ⟨g, m * 5, none⟩ (.int .i64 xa)).setCell ⟨g, m * 5 + 1, none⟩ (.int .i64 xn)).setCell ⟨g, m * 5 + 2, none⟩ (.slice p1 l1 k1)).setCell ⟨g, m * 5 + 3, none⟩ (.slice p2 l2 k2)).setCell ⟨g, m * 5 + 4, none⟩ (.slice p3 l3 k3)).heap.size) := Nat.le_trans hsz (Nat.le_trans hsz7 HGR.out.size)
    have HPUT : Hid (((((((w7).setCell ⟨g, m * 5, none⟩ (.int .i64 xa)).setCell ⟨g, m * 5 + 1, none⟩ (.int .i64 xn)).setCell ⟨g, m * 5 + 2, none⟩ (.slice p1 l1 k1)).setCell ⟨g, m * 5 + 3, none⟩ (.slice p2 l2 k2)).setCell ⟨g, m * 5 + 4, none⟩ (.slice p3 l3 k3)).ownsRow w.heap.size 30 5 (.slice (some ⟨g, 0, none⟩) q.length cr) q.length ((R.set m ⟨⟨⟨xa, xn⟩, ps', says', ts'⟩, .slice p1 l1 k1, .slice p2 l2 k2, .slice p3 l3 k3⟩).map uvCells).flatten) := by
      have h9 := hput
      unfold URow at h9
      rw [List.length_set, HRL.out] at h9
      exact h9
    have HA2 : Hid (∀ j p, j < m + 1 → (R.set m ⟨⟨⟨xa, xn⟩, ps', says', ts'⟩, .slice p1 l1 k1, .slice p2 l2 k2, .slice p3 l3 k3⟩)[j]? = some p → UvP w1.heap.size ((((((w7).setCell ⟨g, m * 5, none⟩ (.int .i64 xa)).setCell ⟨g, m * 5 + 1, none⟩ (.int .i64 xn)).setCell ⟨g, m * 5 + 2, none⟩ (.slice p1 l1 k1)).setCell ⟨g, m * 5 + 3, none⟩ (.slice p2 l2 k2)).setCell ⟨g, m * 5 + 4, none⟩ (.slice p3 l3 k3)) p) := by
      intro j p hj hjp
      rw [List.getElem?_set] at hjp
      by_cases hjm : m = j
      · rw [if_pos hjm, if_pos (by rw [HRL.out]; omega)] at hjp
        have hjp := Option.some.inj hjp
        subst hjp
        exact HXP.out.1.grown HGR.out hglt
      · rw [if_neg hjm] at hjp
        exact ((HARGS.out j p (by omega) hjp).below hb7).grown HGR.out hglt
    have HM2 : Hid (ups (R.set m ⟨⟨⟨xa, xn⟩, ps', says', ts'⟩, .slice p1 l1 k1, .slice p2 l2 k2, .slice p3 l3 k3⟩) = ups q) := by
      show _ = _
      have h9 := HU.out
      unfold ups at h9 ⊢
      rw [List.map_set, h9]
      apply List.ext_getElem?
      intro t
      rw [List.getElem?_set]
      split
      · rename_i ht
        subst ht
        rw [if_pos (by rw [List.length_map]; exact hlt), List.getElem?_map, HXQ.out.2]
        exact congrArg some HXP.out.2
      · rfl
    have HR2 : Hid (∀ j, m + 1 ≤ j → (R.set m ⟨⟨⟨xa, xn⟩, ps', says', ts'⟩, .slice p1 l1 k1, .slice p2 l2 k2, .slice p3 l3 k3⟩)[j]? = q[j]?) := fun j hj => by
      rw [List.getElem?_set, if_neg (by omega)]
      exact HREST.out j (by omega)
    clear hrow hb hb7 hrow7 HARGS HU HREST hput HCC hin hr7 hsz7
    go_wp2_with fail
    go_roundw
    case rel => exact ⟨m + 1, R.set m ⟨⟨⟨xa, xn⟩, ps', says', ts'⟩, .slice p1 l1 k1, .slice p2 l2 k2, .slice p3 l3 k3⟩, hlt, by go_num, by rw [List.length_set]; exact HRL.out, HPUT.out, HM2.out, HR2.out, HA2.out, HB8.out, HS8.out⟩
    case measure => simp [intOf]; omega
  · have hdd : decide (m < q.length) = false := decide_eq_false hlt
    obtain rfl : m = q.length := by omega
    have HR : Hid (URow wr w.heap.size (.slice ar q.length cr) R) := by
      show World.ownsRow _ _ _ _ _ _ _
      rw [HRL.out]
      exact hrow
    have HP : Hid (∀ x, x ∈ R → UvP w.heap.size wr x) := fun p hp => by
      obtain ⟨j, hj⟩ := List.mem_iff_getElem?.mp hp
      exact (HARGS.out j p (by have := (List.getElem?_eq_some_iff.mp hj).1; rw [HRL.out] at this; exact this) hj).le hszw.out
    clear hrow HARGS HREST hrow0
    go_wp2_with fail
    go_ret
    exact ⟨R, _, rfl, HR.out, HU.out, HP.out, hb⟩
end Go.Proofs.YtmfaodapofamfaaGreat

/- AppendSeq, Collect, SortedFunc, copies. -/
namespace Go.Proofs.YtmfaodapofamfaaGreat
open Go.RowKit Go.Shelf Go.Maps
attribute [local go_sem] Oper.semAt_some

theorem cells_own {β : Type} (B : Nat) (o : β → Obj) (ho : ∀ s, (o s).isCells = true) : Own (fun s W => W.heap[B]? = some (o s)) := fun s X Y row hs hg hrow =>
  (hg.block B (Array.getElem?_eq_some_iff.1 hs).1 (fun e' => by obtain ⟨o', ho', hc⟩ := hrow B e'.symm; rw [hs] at ho'; cases ho'; rw [ho s] at hc; cases hc)).trans hs
set_option maxRecDepth 100000 in
set_option maxHeartbeats 4000000 in
theorem appendSeq_any (gf : Nat) (lb : Array Value) (eg : ∀ args w, (callFunc gf args).run Tryz.prog w = .ok (.enter gf args) w) (c : List Uv) (hl : c.length ≤ 1000) (w : World) (hok : ∀ x, x ∈ c → UvOk w x)
    (Kp : World → World → Prop) (hKt : ∀ {A B C : World}, Kp A B → Kp B C → Kp A C) (hKb : ∀ (W : World) (l : Nat) (o o' : Obj), w.heap.size ≤ l → W.heap[l]? = some o → o.isCells = false → o.isWalk = false → Kp W (W.putObj l o')) (hKo : ∀ A B : World, KeepsOthers A B → Below w.heap.size A B → Kp A B)
    (S Sp : List (UvIn c) → Prop) (hS : ∀ xs, S xs → (xs.map (·.1)).Perm c) (hseq : ∀ z, Below w.heap.size w z → SeqStopsK Fence.wide 2 Tryz.prog gf lb (fun x : UvIn c => inEnc x) Kp S Sp c.length z) :
    Calls Tryz.prog 115 #[.slice none 0 0, .func (.func gf) #[] lb] w fun e w' => ∃ (v : Value) (q : List Uv), e = .returned v ∧ q.Perm c ∧ URow w' w.heap.size v q ∧ Below w.heap.size w w' := by
  obtain ⟨i0, hi, hz0, hz1, hz2⟩ := info_parts up_info
  refine (callsIn_wide (n := 3)).1 ?_
  refine callsIn_of_wp_marks Tryz.func115 rfl trivial ?_ rfl
  simp only [Tryz.ntmps115, List.size_toArray, List.length_cons, List.length_nil, Nat.reduceAdd, Nat.reduceSub, Array.replicate_succ, Array.replicate_zero, List.push_toArray, List.append_toArray, List.nil_append, List.cons_append]
  have hB0 : Below w.heap.size w (w.alloc (.cells #[.slice none 0 0] 22)) := (Below.refl _ _).alloc (Nat.le_refl _) _
  have bS0 := Boxed.new w 22 (.slice none 0 0)
  have hs0 : (w.alloc (.cells #[.slice none 0 0] 22)).heap.size = w.heap.size + 1 := by simp
  gi_wp2
  generalize w.alloc (.cells #[.slice none 0 0] 22) = W0 at *
  refine wpIn_rangeFunc_ownH rfl (by decide) (gf := gf) (lb := lb) rfl trivial eg
    (hseq W0 hB0) hKt (fun W l o o' h1 h2 h3 h4 => hKb W l o o' (by omega) h2 h3 h4) (Below.refl _ _) (fun _ => rfl)
    (fun (pre : List (UvIn c)) W => (∃ v, Boxed W w.heap.size 22 v ∧ W.ownsRow w.heap.size 30 5 v pre.length ((pre.map (·.1)).map uvCells).flatten ∧ True) ∧ Below w.heap.size w W)
    (fun _ _ _ => False)
    (OwnFrom.and (Own.from (holdsRow_own w.heap.size w.heap.size 22 30 5 (fun pre : List (UvIn c) => pre.length) (fun pre : List (UvIn c) => ((pre.map (·.1)).map uvCells).flatten) (fun _ _ => True)) _) (ownFrom_below (Nat.le_refl _) (by omega)))
    (fun _ _ _ _ _ hs _ _ => hs)
    ⟨⟨_, bS0, World.ownsRow_nil _ _ _ _, trivial⟩, hB0⟩
    (fun x a' W => ∃ Bx, W.heap[Bx]? = some (.cells (uvCells x.1).toArray 30) ∧ a' = { tmps := #[.slice none 0 0, .func (.func gf) #[] lb, .pointer (some ⟨w.heap.size, 0, none⟩), undef, .slice none 0 0, .pointer (some ⟨Bx, 0, none⟩), .func (.func gf) #[] lb, uvVal x.1, undef, undef, undef, undef, undef], defers := [] })
    (fun x a' _ X Y row hs hg hr => by obtain ⟨Bx, h2, h3⟩ := hs; exact ⟨Bx, cells_own Bx (fun (_ : Unit) => Obj.cells (uvCells x.1).toArray 30) (fun _ => rfl) () X Y row h2 hg (fun r e => (hr r e).2), h3⟩)
    ?assign ?body ?done ?stop
  case assign =>
    rintro l pre x W K ⟨⟨v1, bS1, hr1, _⟩, hB1⟩ hK
    have hok1 := hok x.1 x.2
    obtain ⟨⟨⟨⟨ua, un⟩, ps, says, ts⟩, vp, vs, vt⟩, hx⟩ := x
    obtain ⟨a1, n1, d1, a2, n2, d2, a3, n3, d3, e1, e2, e3⟩ := hok1.forms
    dsimp only at *
    subst e1 e2 e3
    gi_wp2
    have hBW := (Below.refl w.heap.size W).alloc hB1.size (.cells #[.int .i64 ua, .int .i64 un, .slice a1 n1 d1, .slice a2 n2 d2, .slice a3 n3 d3] 30)
    exact hK _ _ ((KeepsOthers.alloc _ _).from _) (hKo _ _ (KeepsOthers.alloc _ _) hBW) ⟨⟨v1, bS1.alloc _, hr1.alloc _, trivial⟩, hB1.alloc hB1.size _⟩ ⟨W.heap.size, rl_new W _, rfl⟩
  case body =>
    rintro l pre x a' W hl' ⟨r, hr⟩ ⟨⟨v1, bS1, hr1, _⟩, hB1⟩ ⟨Bx, hX, rfl⟩ hlt
    have hok1 := hok x.1 x.2
    obtain ⟨⟨⟨⟨ua, un⟩, ps, says, ts⟩, vp, vs, vt⟩, hx⟩ := x
    obtain ⟨a1, n1, d1, a2, n2, d2, a3, n3, d3, e1, e2, e3⟩ := hok1.forms
    dsimp only at *
    subst e1 e2 e3
    have c0 : W.cell? ⟨Bx, 0, none⟩ = some (.int .i64 ua) := by rw [Lib.cell_of_heap hX]; rfl
    have c1 : W.cell? ⟨Bx, 1, none⟩ = some (.int .i64 un) := by rw [Lib.cell_of_heap hX]; rfl
    have c2 : W.cell? ⟨Bx, 2, none⟩ = some (.slice a1 n1 d1) := by rw [Lib.cell_of_heap hX]; rfl
    have c3 : W.cell? ⟨Bx, 3, none⟩ = some (.slice a2 n2 d2) := by rw [Lib.cell_of_heap hX]; rfl
    have c4 : W.cell? ⟨Bx, 4, none⟩ = some (.slice a3 n3 d3) := by rw [Lib.cell_of_heap hX]; rfl
    obtain ⟨av, cv, rfl⟩ := own_slice hr1
    have cS := bS1.cell
    have hsW := hB1.size
    have h1' : 1 ≤ 3 - 1 - 1 := by decide
    gi_wp2_with (first
      | (gi_at_builtin; refine wpListIn_append_own _ rfl _ _ 22 rfl w.heap.size 30 i0 _ 5 88 Tryz.underlying22 hi hz0 hz1 hz2 rfl (by decide) _ _ _ rfl (hr1.alloc _) ⟨W.heap.size, 0, none⟩ 1 1 [.int .i64 ua, .int .i64 un, .slice a1 n1 d1, .slice a2 n2 d2, .slice a3 n3 d3] rfl rfl (news5 W _ _ _ _ _ 30) (by intro u hu; simp at hu; rcases hu with rfl | rfl | rfl | rfl | rfl <;> rfl) (by unfold maxLen; omega) (by omega) (by simp; omega) ?_; intro v' w1 hown' hgrow _; obtain ⟨g', cap', rfl⟩ := ownsRow_succ hown'; obtain ⟨hv1, hv2, hr2, hk2, hb2⟩ := bS1.appended (by decide) hr1 hsW (Nat.le_refl _) hown' hgrow; have hc1 := hv1.cell; have hf1 := hv1.frozen)
      | gi_in)
    refine ⟨hk2.from _, hKo _ _ hk2 hb2, ⟨_, hv2, ?_, trivial⟩, hB1.trans hb2⟩
    simp only [List.length_append, List.length_cons, List.length_nil, List.map_append, List.map_cons, List.map_nil, List.flatten_append, List.flatten_cons, List.flatten_nil, List.append_nil]
    exact hr2
  case done =>
    rintro D xs W hD hSx ⟨⟨v1, bS1, hr1, _⟩, hB1⟩ hK
    obtain ⟨av, cv, rfl⟩ := own_slice hr1
    have cS := bS1.cell
    gi_wp2
    refine ⟨by simp, .inl ⟨_, _, rfl, run_takeDeferred hK, ?_⟩⟩
    refine ⟨_, results_tmp rfl _ _ _, _, xs.map (·.1), rfl, hS xs hSx, ?_, ?_⟩
    · have := ownsRow_putObj hr1 (.deferred none) hK rfl
      show World.ownsRow _ _ _ _ _ _ _
      rw [List.length_map]
      exact this
    · exact hB1.trans (belowK_b (w := w) (Nat.le_refl _) W D _ _ (by omega) hK rfl rfl)
  case stop =>
    rintro D c' pre W _ _ h _
    exact h.elim
end Go.Proofs.YtmfaodapofamfaaGreat

/- Collect, SortedFunc, copies: updates of an iterator, sorted, copied. -/
namespace Go.Proofs.YtmfaodapofamfaaGreat
open Go.RowKit Go.Shelf Go.Maps

/-- A function that gives these updates, in some order. -/
structure SeqU (gf : Nat) (lb : Array Value) (c : List Uv) (w : World) : Prop where
  eg : ∀ args w, (callFunc gf args).run Tryz.prog w = .ok (.enter gf args) w
  seq : ∃ (Kp : World → World → Prop) (S Sp : List (UvIn c) → Prop), (∀ {A B C : World}, Kp A B → Kp B C → Kp A C) ∧ (∀ (W : World) (l : Nat) (o o' : Obj), w.heap.size ≤ l → W.heap[l]? = some o → o.isCells = false → o.isWalk = false → Kp W (W.putObj l o')) ∧ (∀ A B : World, KeepsOthers A B → Below w.heap.size A B → Kp A B) ∧
    (∀ xs, S xs → (xs.map (·.1)).Perm c) ∧ (∀ z, Below w.heap.size w z → SeqStopsK Fence.wide 2 Tryz.prog gf lb (fun x : UvIn c => inEnc x) Kp S Sp c.length z)
theorem rise_sorted : ∀ {l : List Wr.Up}, l.Pairwise (fun a b => ¬ Dg.uOrd b a < 0) → (l.map Wr.Up.id).Nodup → Wr.rise Dg.uOrd l = true
  | [], _, _ => rfl
  | a :: r, h, hn => by
    rw [List.pairwise_cons] at h
    rw [List.map_cons, List.nodup_cons] at hn
    refine Dg.rise_cons.mpr ⟨fun v hv => ?_, rise_sorted h.2 hn.2⟩
    exact Dg.uOrd_total (h.1 v hv) (fun e => hn.1 (e ▸ List.mem_map.mpr ⟨v, hv, rfl⟩))
set_option maxRecDepth 100000 in
set_option maxHeartbeats 2000000 in
theorem collect_any (gf : Nat) (lb : Array Value) (c : List Uv) (hl : c.length ≤ 1000) (w : World) (hok : ∀ x, x ∈ c → UvOk w x) (hs : SeqU gf lb c w) :
    Calls Tryz.prog 106 #[.func (.func gf) #[] lb] w fun e w' => ∃ (v : Value) (q : List Uv), e = .returned v ∧ q.Perm c ∧ URow w' w.heap.size v q ∧ Below w.heap.size w w' := by
  obtain ⟨eg, Kp, S, Sp, h1, h2, h3, h4, h5⟩ := hs
  have HC : Hid (Calls Tryz.prog 115 #[.slice none 0 0, .func (.func gf) #[] lb] w fun e w' => ∃ (v : Value) (q : List Uv), e = .returned v ∧ q.Perm c ∧ URow w' w.heap.size v q ∧ Below w.heap.size w w') := appendSeq_any gf lb eg c hl w hok Kp h1 h2 h3 S Sp h4 h5
  clear h1 h2 h3 h4 h5 hok eg
  go_enter Tryz.func106, Tryz.ntmps106
  go_wp2_with (go_at_call 115; refine Calls.mono HC.out ?_; rintro e z1 ⟨v1, q1, rfl, hp1, hr1, hb1⟩; obtain ⟨a1, c1, rfl⟩ := own_slice hr1)
  go_ret
  exact ⟨_, q1, rfl, hp1, hr1, hb1⟩
set_option maxRecDepth 100000 in
set_option maxHeartbeats 2000000 in
theorem sorted_any (gf : Nat) (lb : Array Value) (c : List Uv) (hl : c.length ≤ 1000) (w : World) (hok : ∀ x, x ∈ c → UvOk w x) (hnd : ((ups c).map Wr.Up.id).Nodup) (hs : SeqU gf lb c w) :
    Calls Tryz.prog 75 #[.func (.func gf) #[] lb, .func (.func 76) #[] #[]] w fun e w' => ∃ (v : Value) (q : List Uv), e = .returned v ∧ q.Perm c ∧ Wr.rise Dg.uOrd (ups q) = true ∧ URow w' w.heap.size v q ∧ Below w.heap.size w w' := by
  have HC : Hid (Calls Tryz.prog 106 #[.func (.func gf) #[] lb] w fun e w' => ∃ (v : Value) (q : List Uv), e = .returned v ∧ q.Perm c ∧ URow w' w.heap.size v q ∧ Below w.heap.size w w') := collect_any gf lb c hl w hok hs
  have HO : Hid (∀ x, x ∈ c → UvOk w x) := hok
  have HN : Hid (((ups c).map Wr.Up.id).Nodup) := hnd
  clear hs hok hnd
  go_enter Tryz.func75, Tryz.ntmps75
  go_upto_region 2 with (go_at_call 106; refine Calls.mono HC.out ?_; rintro e z1 ⟨v1, q1, rfl, hp1, hr1, hb1⟩; obtain ⟨a1, c1, rfl⟩ := own_slice hr1)
  have HP1 : Hid (q1.Perm c) := hp1
  have hl1 : q1.length ≤ 1000 := by rw [hp1.length_eq]; exact hl
  have HB1 : Hid (Below w.heap.size w z1) := hb1
  clear HC hp1 hb1
  rcases ownsRow_forms9 hr1 with ⟨hv, hq0⟩ | ⟨g, c2, hv⟩
  · injection hv with e1 e2 e3
    subst e1 e3
    have hq1 : q1 = [] := List.eq_nil_of_length_eq_zero hq0
    subst hq1
    have hs := AnyF.slices_SortFunc_none Tryz.sortU none 0 (.func (.func 76) #[] #[]) z1
    change Calls Tryz.prog 107 _ _ _ at hs
    have HSS : Hid _ := hs
    have HR1 : Hid (URow z1 w.heap.size (.slice none 0 0) []) := hr1
    clear hs hr1
    simp only [List.length_nil]
    go_wp2_with fail
    refine Calls.mono HSS.out ?_
    rintro e w5 ⟨rfl, rfl⟩
    go_wp2_with fail
    go_ret
    exact ⟨_, [], rfl, HP1.out, rfl, HR1.out, HB1.out⟩
  · injection hv with e1 e2 e3
    subst e1 e3
    have HS : Hid (Calls Tryz.prog 107 #[.slice (some ⟨g, 0, none⟩) q1.length c1, .func (.func 76) #[] #[]] z1 fun e w' => e = .returned (.tuple #[]) ∧ ∃ q', q'.Perm q1 ∧ (ups q').Pairwise (fun a b => ¬ Dg.uOrd b a < 0) ∧ UGRow w' w.heap.size g c1 q' ∧ z1.grownBy w' (some g)) := sortU_any w z1 w.heap.size g c1 q1 hr1 (fun p hp => HO.out p (HP1.out.mem_iff.mp hp)) (by omega)
    have HLT : Hid (w.heap.size ≤ g ∧ g < z1.heap.size) := hr1.lt g rfl
    clear hr1
    go_wp2_with fail
    refine Calls.mono HS.out ?_
    rintro e w5 ⟨rfl, q2, hp2, hpw, hr2, hg2⟩
    have HP2 : Hid (q2.Perm c) := hp2.trans HP1.out
    have HRI : Hid (Wr.rise Dg.uOrd (ups q2) = true) := rise_sorted (hpw.imp (fun h => by omega)) (nodup_perm HP2.out HN.out)
    have HB2 : Hid (Below w.heap.size w w5) := HB1.out.grown hg2 HB1.out.size (fun k e => by cases e; exact HLT.out.1)
    have HR2 : Hid (URow w5 w.heap.size (.slice (some ⟨g, 0, none⟩) q1.length c1) q2) := by
      have h9 := hr2
      unfold UGRow at h9
      rw [hp2.length_eq] at h9
      show World.ownsRow _ _ _ _ _ _ _
      rw [hp2.length_eq]
      exact h9
    clear hp2 hpw hr2 hg2 HS
    go_wp2_with fail
    go_ret
    exact ⟨_, q2, rfl, HP2.out, HRI.out, HR2.out, HB2.out⟩
set_option maxRecDepth 100000 in
set_option maxHeartbeats 2000000 in
theorem copies_any (gf : Nat) (lb : Array Value) (c : List Uv) (hl : c.length ≤ 1000) (w : World) (hok : ∀ x, x ∈ c → UvOk w x) (hfew : ∀ x, x ∈ c → Few x.u) (hnd : ((ups c).map Wr.Up.id).Nodup) (hs : SeqU gf lb c w) :
    Calls Tryz.prog 33 #[.func (.func gf) #[] lb] w fun e w' => ∃ (v : Value) (R : List Uv), e = .returned v ∧ (ups R).Perm (ups c) ∧ Wr.rise Dg.uOrd (ups R) = true ∧ URow w' w.heap.size v R ∧ (∀ x, x ∈ R → UvP w.heap.size w' x) ∧ Below w.heap.size w w' := by
  have HC : Hid (Calls Tryz.prog 75 #[.func (.func gf) #[] lb, .func (.func 76) #[] #[]] w fun e w' => ∃ (v : Value) (q : List Uv), e = .returned v ∧ q.Perm c ∧ Wr.rise Dg.uOrd (ups q) = true ∧ URow w' w.heap.size v q ∧ Below w.heap.size w w') := sorted_any gf lb c hl w hok hnd hs
  have HO : Hid (∀ x, x ∈ c → UvOk w x ∧ Few x.u) := fun x hx => ⟨hok x hx, hfew x hx⟩
  clear hs hok hnd hfew
  go_enter Tryz.func33, Tryz.ntmps33
  go_wp2_with fail
  refine Calls.mono HC.out ?_
  rintro e z1 ⟨v1, q1, rfl, hp1, hri, hr1, hb1⟩
  have HD : Hid (Calls Tryz.prog 74 #[v1] z1 fun e w' => ∃ (R : List Uv) (v' : Value), e = .returned v' ∧ URow w' z1.heap.size v' R ∧ ups R = ups q1 ∧ (∀ x, x ∈ R → UvP z1.heap.size w' x) ∧ Below z1.heap.size z1 w') := Copies_any q1 v1 z1 (own_ups hr1) (fun x hx => (HO.out x (hp1.mem_iff.mp hx)).1.below hb1) (fun x hx => (HO.out x (hp1.mem_iff.mp hx)).2) (by rw [hp1.length_eq]; exact hl)
  obtain ⟨a1, c1, rfl⟩ := own_slice hr1
  have HP : Hid (q1.Perm c) := hp1
  have HRI : Hid (Wr.rise Dg.uOrd (ups q1) = true) := hri
  have HB : Hid (Below w.heap.size w z1) := hb1
  clear hp1 hri hr1 hb1 HC
  go_wp2_with fail
  refine Calls.mono HD.out ?_
  rintro e z2 ⟨R, v2, rfl, hr2, hu2, hp2, hb2⟩
  obtain ⟨a2, c2, rfl⟩ := own_slice hr2
  have HB2 : Hid (Below w.heap.size w z2) := HB.out.trans (hb2.mono HB.out.size)
  have HR2 : Hid (URow z2 w.heap.size (.slice a2 R.length c2) R) := rl_own_le hr2 HB.out.size
  have HP2 : Hid (∀ x, x ∈ R → UvP w.heap.size z2 x) := fun x hx => (hp2 x hx).le HB.out.size
  have HU2 : Hid (ups R = ups q1) := hu2
  clear hr2 hu2 hp2 hb2 HD
  go_wp2_with fail
  go_ret
  exact ⟨_, R, rfl, by rw [HU2.out]; exact HP.out.map _, by rw [HU2.out]; exact HRI.out, HR2.out, HP2.out, HB2.out⟩
set_option maxRecDepth 100000 in
set_option maxHeartbeats 2000000 in
/-- maps.Values and slices.Values. -/
theorem mvals_any (b : Nat) (c : List Uv) (w : World) (hM : CmAt w b c) : Calls Tryz.prog 34 #[.map (some b)] w fun e w' => ∃ lb, e = .returned (.func (.func 77) #[] lb) ∧ SeqU 77 lb c w' ∧ Below w.heap.size w w' := by
  have HB : Hid (Below w.heap.size w (w.alloc (.cells #[.map (some b)] 64))) := (Below.refl _ _).alloc (Nat.le_refl _) _
  have HS : Hid (SeqU 77 #[.pointer (some ⟨w.heap.size, 0, none⟩)] c (w.alloc (.cells #[.map (some b)] 64))) := ⟨enters_of Tryz.func77 (by kernel_rfl) rfl, KeepsWalks, fun ys => (ys.map (·.1)).Perm c, fun _ => True, walksK_t, fun W l o o' h1 h2 h3 h4 => walksK_b (w := w.alloc (.cells #[.map (some b)] 64)) W l o o' h1 h2 h3 h4, fun A B h _ => h.walks, fun xs h => h, fun z hz => mvalues_stops Fence.wide 2 trivial rfl (by decide) w.heap.size b c z ((hM.below HB.out).below hz) ((hz.block _ (by simp)).trans (rl_new w _))⟩
  clear hM
  go_enter Tryz.func34, Tryz.ntmps34
  go_wp2_with fail
  go_ret
  exact ⟨_, rfl, HS.out, HB.out⟩
set_option maxRecDepth 100000 in
set_option maxHeartbeats 2000000 in
theorem svals_any (q : List Uv) (v : Value) (w : World) (hV : UpsV w v q) (hl : q.length ≤ 1000) (hok : ∀ x, x ∈ q → UvOk w x) : Calls Tryz.prog 35 #[v] w fun e w' => ∃ lb, e = .returned (.func (.func 78) #[] lb) ∧ SeqU 78 lb q w' ∧ Below w.heap.size w w' := by
  obtain ⟨ao, cap, rfl, _, hA⟩ := hV
  have HB : Hid (Below w.heap.size w (w.alloc (.cells #[.slice ao q.length cap] 22))) := (Below.refl _ _).alloc (Nat.le_refl _) _
  have HS : Hid (SeqU 78 #[.pointer (some ⟨w.heap.size, 0, none⟩)] q (w.alloc (.cells #[.slice ao q.length cap] 22))) := ⟨enters_of Tryz.func78 (by kernel_rfl) rfl, Below w.heap.size, fun ys => ys.map (·.1) = q, fun _ => True, belowK_t, fun W l o o' h1 h2 h3 h4 => belowK_b (w := w.alloc (.cells #[.slice ao q.length cap] 22)) (by simp) W l o o' h1 h2 h3 h4, fun A B _ h => h.mono (by simp), fun xs h => by rw [h], fun z hz => by
    have hz0 := HB.out.trans (hz.mono HB.out.size)
    exact values_stops Fence.wide 2 trivial rfl (by decide) w.heap.size w.heap.size ao cap q hl z (fun x hx => (hok x hx).below hz0) hz0.size ((hz.block _ (by simp)).trans (rl_new w _)) (hA.kc (Kc.below hz0)) (fun b off e hne => by
      rcases hA with h | ⟨b2, off2, e2, h2⟩
      · exact absurd h hne
      · rw [e2] at e
        cases e
        exact cell_lt (h2 0 (by cases q with | nil => exact absurd rfl hne | cons _ _ => simp)).1)⟩
  clear hA hok
  go_enter Tryz.func35, Tryz.ntmps35
  go_wp2_with fail
  go_ret
  exact ⟨_, rfl, HS.out, HB.out⟩
end Go.Proofs.YtmfaodapofamfaaGreat

/- Package dag: Add. -/
namespace Go.Proofs.YtmfaodapofamfaaGreat
open Go.RowKit Go.Maps
def addT (ah : Option Addr) (nh ch : Nat) (aw : Option Addr) (nw cw : Nat) (ua un : Int) (a1 : Option Addr) (n1 d1 : Nat) (a2 : Option Addr) (n2 d2 : Nat) (a3 : Option Addr) (n3 d3 : Nat) (cr cu co : Int) (tQ : Nat) (vQ : Value) (WQ : World) : Prop :=
  match tQ with
  | 10 => vQ = .agg #[.slice ah nh ch, .slice aw nw cw]
  | 11 => vQ = .int .i64 cr
  | 12 => vQ = .agg #[.int .i64 ua, .int .i64 un, .slice a1 n1 d1, .slice a2 n2 d2, .slice a3 n3 d3]
  | 13 => vQ = .int .i64 cu
  | 14 => ∃ g, vQ = .slice (some ⟨g, 0, none⟩) 2 2 ∧ WQ.cell? ⟨g, 0, none⟩ = some (.int .i64 cr) ∧ WQ.cell? ⟨g, 1, none⟩ = some (.int .i64 cu)
  | 15 => vQ = .int .i64 co
  | 6 => vQ = .int .i64 co
  | _ => True
theorem addT_mono (ah : Option Addr) (nh ch : Nat) (aw : Option Addr) (nw cw : Nat) (ua un : Int) (a1 : Option Addr) (n1 d1 : Nat) (a2 : Option Addr) (n2 d2 : Nat) (a3 : Option Addr) (n3 d3 : Nat) (cr cu co : Int) (tQ : Nat) (vQ : Value) (W W' : World) (hb : Below W.heap.size W W') (h : addT ah nh ch aw nw cw ua un a1 n1 d1 a2 n2 d2 a3 n3 d3 cr cu co tQ vQ W) : addT ah nh ch aw nw cw ua un a1 n1 d1 a2 n2 d2 a3 n3 d3 cr cu co tQ vQ W' := by
  revert h
  unfold addT
  split <;> (intro h; first | exact h | exact (h.elim fun g h => ⟨g, h.1, cell_below hb h.2.1, cell_below hb h.2.2⟩))
def addT5 (al : Option Addr) (nl cl X : Nat) (ua un : Int) (q : List Uv) (hb9 : Bool) (tQ : Nat) (vQ : Value) (WQ : World) : Prop :=
  match tQ with
  | 26 => vQ = .slice al nl cl
  | 27 => ∃ b, vQ = .map (some b) ∧ CmAt WQ b q
  | 28 => vQ = .pointer (some ⟨X, 0, none⟩)
  | 29 => vQ = .agg #[.int .i64 ua, .int .i64 un]
  | 30 => ∃ g, vQ = .slice (some ⟨g, 0, none⟩) 1 1 ∧ WQ.cell? ⟨g, 0, none⟩ = some (.int .i64 ua) ∧ WQ.cell? ⟨g, 1, none⟩ = some (.int .i64 un)
  | 31 => vQ = .bool hb9
  | 32 => vQ = .bool (!hb9)
  | _ => True
theorem addT5_mono (al : Option Addr) (nl cl X : Nat) (ua un : Int) (q : List Uv) (hb9 : Bool) (tQ : Nat) (vQ : Value) (W W' : World) (hb : Below W.heap.size W W') (h : addT5 al nl cl X ua un q hb9 tQ vQ W) : addT5 al nl cl X ua un q hb9 tQ vQ W' := by
  revert h
  unfold addT5
  split <;> (intro h; first | exact h | exact (h.elim fun b h => ⟨b, h.1, h.2.below hb⟩) | exact (h.elim fun g h => ⟨g, h.1, cell_below hb h.2.1, cell_below hb h.2.2⟩))

theorem ups_nil (w : World) : UpsV w (.slice none 0 0) [] := ⟨none, 0, rfl, ⟨Nat.le_refl _, fun _ => rfl⟩, .inl rfl⟩
set_option maxRecDepth 100000 in
set_option maxHeartbeats 1000000 in
theorem orE_any (a b : Int) (g : Nat) (w : World) (h0 : w.cell? ⟨g, 0, none⟩ = some (.int .i64 a)) (h1 : w.cell? ⟨g, 1, none⟩ = some (.int .i64 b)) :
    Calls Tryz.prog 27 #[.slice (some ⟨g, 0, none⟩) 2 2] w fun e w' => e = .returned (.int .i64 (if a = 0 then b else a)) ∧ w' = w := by
  go_enter Tryz.func27, Tryz.ntmps27
  go_wp2_with fail
  by_cases ha : a = 0
  · subst ha
    refine wp_loop_rounds 3 ?_
    by_cases hb : b = 0
    · subst hb
      rw [rounds_succ]
      go_wp2_with fail
      rw [rounds_succ]
      go_wp2_with fail
      rw [rounds_succ]
      go_wp2_with fail
      go_ret
      exact ⟨rfl, rfl⟩
    · have hne : (b != 0) = true := by simpa using hb
      rw [rounds_succ]
      go_wp2_with fail
      rw [rounds_succ]
      go_wp2_with fail
      go_ret
      exact ⟨rfl, rfl⟩
  · have hne : (a != 0) = true := by simpa using ha
    refine wp_loop_rounds 1 ?_
    rw [rounds_succ]
    go_wp2_with fail
    go_ret
    exact ⟨by first | rfl | (rw [if_neg ha]; rfl), rfl⟩
theorem hold1_any (B : Nat) (c : List Uv) (x : Wr.Id) (g : Nat) (w : World) (hM : CmAt w B c) (h0 : w.cell? ⟨g, 0, none⟩ = some (.int .i64 x.a)) (h1 : w.cell? ⟨g, 1, none⟩ = some (.int .i64 x.n)) (hi : Wr.isId x = true) :
    Calls Tryz.prog 31 #[.map (some B), .slice (some ⟨g, 0, none⟩) 1 1] w fun e w' => e = .returned (.bool (Dg.hasU (ups c) x)) ∧ Below w.heap.size w w' := by
  refine (hold_any B c [x] _ w hM (one_id g h0 h1 rfl) (by simp) (fun y hy => by rw [List.mem_singleton.mp hy]; exact hi)).mono ?_
  rintro e w' ⟨rfl, h2⟩
  refine ⟨?_, h2⟩
  rw [List.all_cons, List.all_nil, Bool.and_true]

def Dg.addErr (h w : List Wr.Up) (u : Wr.Up) : Int :=
  if Dg.check h w ≠ 0 then Dg.check h w else if Wr.check u ≠ 0 then Wr.check u else if 200 < (Dg.more (h ++ w) u).length then 2 else 0
set_option maxRecDepth 100000 in
set_option maxHeartbeats 8000000 in
theorem Add_any (hq wq : List Uv) (hv wv : Value) (x : Uv) (w : World) (hV : UpsV w hv hq) (wV : UpsV w wv wq) (hl : hq.length ≤ 4611686018427387903 ∧ wq.length ≤ 4611686018427387903) (hok : ∀ x, x ∈ hq ++ wq → UvOk w x) (hx : UvOk w x) :
    Calls Tryz.prog 6 #[repVal hv wv, uvVal x] w fun e w' => ∃ (v1 v2 : Value) (R1 R2 : List Uv), e = .returned (.tuple #[repVal v1 v2, .int .i64 (Dg.addErr (ups hq) (ups wq) x.u)]) ∧ UpsV w' v1 R1 ∧ UpsV w' v2 R2 ∧ (∀ x, x ∈ R1 ++ R2 → UvOk w' x) ∧ (Dg.addErr (ups hq) (ups wq) x.u = 0 → Dg.Is (Dg.more (ups hq ++ ups wq) x.u) (ups R1) (ups R2)) ∧ (Dg.addErr (ups hq) (ups wq) x.u ≠ 0 → R1 = [] ∧ R2 = []) ∧ Below w.heap.size w w' := by
  have HO : Hid (∀ x, x ∈ hq ++ wq → UvOk w x) := hok
  have HHV : Hid (UpsV w hv hq) := hV
  have HWV : Hid (UpsV w wv wq) := wV
  have HXX : Hid (UvOk w x) := hx
  obtain ⟨ah, ch, rfl, hch, _⟩ := hV
  obtain ⟨aw, cw, rfl, hcw, _⟩ := wV
  have HCH : Hid (ah = none → ch = 0) := hch.2
  have HCW : Hid (aw = none → cw = 0) := hcw.2
  obtain ⟨a1, n1, d1, a2, n2, d2, a3, n3, d3, e1, e2, e3⟩ := hx.forms
  obtain ⟨⟨⟨ua, un⟩, ps, says, ts⟩, vp, vs, vt⟩ := x
  dsimp only at *
  subst e1 e2 e3
  clear hok hx hch hcw
  have HB1 : Hid (Below w.heap.size w (((w.alloc (.cells #[.slice ah hq.length ch, .slice aw wq.length cw] 24)).alloc (.cells #[.int .i64 ua, .int .i64 un, .slice a1 n1 d1, .slice a2 n2 d2, .slice a3 n3 d3] 30)).alloc (.cells #[.slice none 0 0, .slice none 0 0] 24))) := (((Below.refl _ _).alloc (Nat.le_refl _) _).alloc (by simp) _).alloc (by simp; omega) _
  have HSZ : Hid ((((w.alloc (.cells #[.slice ah hq.length ch, .slice aw wq.length cw] 24)).alloc (.cells #[.int .i64 ua, .int .i64 un, .slice a1 n1 d1, .slice a2 n2 d2, .slice a3 n3 d3] 30)).alloc (.cells #[.slice none 0 0, .slice none 0 0] 24)).heap.size = w.heap.size + 3) := by show _ = _; simp
  have HX1 : Hid ((((w.alloc (.cells #[.slice ah hq.length ch, .slice aw wq.length cw] 24)).alloc (.cells #[.int .i64 ua, .int .i64 un, .slice a1 n1 d1, .slice a2 n2 d2, .slice a3 n3 d3] 30)).alloc (.cells #[.slice none 0 0, .slice none 0 0] 24)).heap[w.heap.size]? = some (.cells #[.slice ah hq.length ch, .slice aw wq.length cw] 24)) := by
    show _ = _
    rw [Lib.alloc_old _ _ _ (by simp; omega), Lib.alloc_old _ _ _ (by simp)]
    exact rl_new w _
  have HX2 : Hid ((((w.alloc (.cells #[.slice ah hq.length ch, .slice aw wq.length cw] 24)).alloc (.cells #[.int .i64 ua, .int .i64 un, .slice a1 n1 d1, .slice a2 n2 d2, .slice a3 n3 d3] 30)).alloc (.cells #[.slice none 0 0, .slice none 0 0] 24)).heap[w.heap.size + 1]? = some (.cells #[.int .i64 ua, .int .i64 un, .slice a1 n1 d1, .slice a2 n2 d2, .slice a3 n3 d3] 30)) := by
    show _ = _
    rw [Lib.alloc_old _ _ _ (by simp)]
    have := rl_new (w.alloc (.cells #[.slice ah hq.length ch, .slice aw wq.length cw] 24)) (.cells #[.int .i64 ua, .int .i64 un, .slice a1 n1 d1, .slice a2 n2 d2, .slice a3 n3 d3] 30)
    rw [World.size_alloc] at this
    exact this
  have HX3 : Hid ((((w.alloc (.cells #[.slice ah hq.length ch, .slice aw wq.length cw] 24)).alloc (.cells #[.int .i64 ua, .int .i64 un, .slice a1 n1 d1, .slice a2 n2 d2, .slice a3 n3 d3] 30)).alloc (.cells #[.slice none 0 0, .slice none 0 0] 24)).heap[w.heap.size + 2]? = some (.cells #[.slice none 0 0, .slice none 0 0] 24)) := by
    have := rl_new ((w.alloc (.cells #[.slice ah hq.length ch, .slice aw wq.length cw] 24)).alloc (.cells #[.int .i64 ua, .int .i64 un, .slice a1 n1 d1, .slice a2 n2 d2, .slice a3 n3 d3] 30)) (.cells #[.slice none 0 0, .slice none 0 0] 24)
    rw [World.size_alloc, World.size_alloc] at this
    exact this
  go_enter Tryz.func6, Tryz.ntmps6
  go_upto_region 1 with fail
  generalize (((w.alloc (.cells #[.slice ah hq.length ch, .slice aw wq.length cw] 24)).alloc (.cells #[.int .i64 ua, .int .i64 un, .slice a1 n1 d1, .slice a2 n2 d2, .slice a3 n3 d3] 30)).alloc (.cells #[.slice none 0 0, .slice none 0 0] 24)) = w1 at *
  have HF : Hid (∀ z, Below w1.heap.size w1 z → (z.cell? ⟨w.heap.size, 0, none⟩ = some (.slice ah hq.length ch) ∧ z.cell? ⟨w.heap.size, 1, none⟩ = some (.slice aw wq.length cw)) ∧ (z.cell? ⟨w.heap.size + 1, 0, none⟩ = some (.int .i64 ua) ∧ z.cell? ⟨w.heap.size + 1, 1, none⟩ = some (.int .i64 un) ∧ z.cell? ⟨w.heap.size + 1, 2, none⟩ = some (.slice a1 n1 d1) ∧ z.cell? ⟨w.heap.size + 1, 3, none⟩ = some (.slice a2 n2 d2) ∧ z.cell? ⟨w.heap.size + 1, 4, none⟩ = some (.slice a3 n3 d3))) := fun z hz => by
    have h1 := (hz.block _ (Array.getElem?_eq_some_iff.1 HX1.out).1).trans HX1.out
    have h2 := (hz.block _ (Array.getElem?_eq_some_iff.1 HX2.out).1).trans HX2.out
    exact ⟨⟨by rw [Lib.cell_of_heap h1]; rfl, by rw [Lib.cell_of_heap h1]; rfl⟩, by rw [Lib.cell_of_heap h2]; rfl, by rw [Lib.cell_of_heap h2]; rfl, by rw [Lib.cell_of_heap h2]; rfl, by rw [Lib.cell_of_heap h2]; rfl, by rw [Lib.cell_of_heap h2]; rfl⟩
  have HZ : Hid (∀ z, Below w1.heap.size w1 z → z.heap[w.heap.size + 2]? = some (.cells #[.slice none 0 0, .slice none 0 0] 24)) := fun z hz => (hz.block _ (Array.getElem?_eq_some_iff.1 HX3.out).1).trans HX3.out
  have HT : Hid (∀ z, Below w1.heap.size w1 z → Below w.heap.size w z) := fun z hz => HB1.out.trans (hz.mono HB1.out.size)
  have HC1 : Hid (∀ z, Below w1.heap.size w1 z → Calls Tryz.prog 15 #[.agg #[.slice ah hq.length ch, .slice aw wq.length cw]] z fun e w' => e = .returned (.int .i64 (Dg.check (ups hq) (ups wq))) ∧ Below z.heap.size z w') := fun z hz => DCheck_any hq wq _ _ z (HHV.out.kc (Kc.below (HT.out z hz))) (HWV.out.kc (Kc.below (HT.out z hz))) hl (fun x hx => (HO.out x hx).below (HT.out z hz))
  have HC2 : Hid (∀ z, Below w1.heap.size w1 z → Calls Tryz.prog 28 #[.agg #[.int .i64 ua, .int .i64 un, .slice a1 n1 d1, .slice a2 n2 d2, .slice a3 n3 d3]] z fun e w' => e = .returned (.int .i64 (Wr.check ⟨⟨ua, un⟩, ps, says, ts⟩)) ∧ Below z.heap.size z w') := fun z hz => by
    have hx := HXX.out.below (HT.out z hz)
    exact Check_any ⟨⟨ua, un⟩, ps, says, ts⟩ _ _ _ z hx.p hx.s hx.t hx.f hx.l
  obtain ⟨cO, HCO⟩ : ∃ cO, Hid (cO = if Dg.check (ups hq) (ups wq) = 0 then Wr.check ⟨⟨ua, un⟩, ps, says, ts⟩ else Dg.check (ups hq) (ups wq)) := ⟨_, rfl⟩
  refine wp_region_tabA (addT ah hq.length ch aw wq.length cw ua un a1 n1 d1 a2 n2 d2 a3 n3 d3 (Dg.check (ups hq) (ups wq)) (Wr.check ⟨⟨ua, un⟩, ps, says, ts⟩) cO) (by kernel_rfl) (by kernel_rfl) (addT_mono _ _ _ _ _ _ _ _ _ _ _ _ _ _ _ _ _ _ _ _) ?hop1 ?hend1
  case hop1 =>
    refine AllOps.cons (fun a y h => ?_) ?_
    · have e2 : a.eval (.tmp 2) = (.pointer (some ⟨w.heap.size, 0, none⟩) : Value) := h.old 2 (by kernel_rfl)
      obtain ⟨⟨r0, r1⟩, _⟩ := HF.out y h.below
      refine opOk_val (v := .agg #[.slice ah hq.length ch, .slice aw wq.length cw]) (w' := y) (wanted_none rfl) ?_ (fun t ht => by cases ht; exact rfl) (Below.refl _ _)
      have ec : ∀ v, a.eval (.const v) = v := fun _ => rfl
      generalize a.eval = ev at *
      clear h
      go_simp
    refine AllOps.cons (fun a y h => ?_) ?_
    · have e10 : a.eval (.tmp 10) = (.agg #[.slice ah hq.length ch, .slice aw wq.length cw] : Value) := h.of 10 (by kernel_rfl)
      refine opOk_call (f := 15) (args := #[.agg #[.slice ah hq.length ch, .slice aw wq.length cw]]) (wanted_none rfl) ?_ ?_
      · have ec : ∀ v, a.eval (.const v) = v := fun _ => rfl
        have ef : ∀ f, a.eval (.func f) = .func (.func f) #[] #[] := fun _ => rfl
        generalize a.eval = ev at *
        clear h
        go_simp
      · refine (HC1.out y h.below).mono ?_
        rintro e w' ⟨rfl, hb⟩
        exact ⟨_, rfl, fun t ht => by cases ht; exact rfl, hb⟩
    refine AllOps.cons (fun a y h => ?_) ?_
    · have e3 : a.eval (.tmp 3) = (.pointer (some ⟨w.heap.size + 1, 0, none⟩) : Value) := h.old 3 (by kernel_rfl)
      obtain ⟨_, ⟨u0, u1, u2, u3, u4⟩⟩ := HF.out y h.below
      refine opOk_val (v := .agg #[.int .i64 ua, .int .i64 un, .slice a1 n1 d1, .slice a2 n2 d2, .slice a3 n3 d3]) (w' := y) (wanted_none rfl) ?_ (fun t ht => by cases ht; exact rfl) (Below.refl _ _)
      have ec : ∀ v, a.eval (.const v) = v := fun _ => rfl
      generalize a.eval = ev at *
      clear h
      go_simp
    refine AllOps.cons (fun a y h => ?_) ?_
    · have e12 : a.eval (.tmp 12) = (.agg #[.int .i64 ua, .int .i64 un, .slice a1 n1 d1, .slice a2 n2 d2, .slice a3 n3 d3] : Value) := h.of 12 (by kernel_rfl)
      refine opOk_call (f := 28) (args := #[.agg #[.int .i64 ua, .int .i64 un, .slice a1 n1 d1, .slice a2 n2 d2, .slice a3 n3 d3]]) (wanted_none rfl) ?_ ?_
      · have ec : ∀ v, a.eval (.const v) = v := fun _ => rfl
        have ef : ∀ f, a.eval (.func f) = .func (.func f) #[] #[] := fun _ => rfl
        generalize a.eval = ev at *
        clear h
        go_simp
      · refine (HC2.out y h.below).mono ?_
        rintro e w' ⟨rfl, hb⟩
        exact ⟨_, rfl, fun t ht => by cases ht; exact rfl, hb⟩
    refine AllOps.cons (fun a y h => ?_) ?_
    · have e11 : a.eval (.tmp 11) = (.int .i64 (Dg.check (ups hq) (ups wq)) : Value) := h.of 11 (by kernel_rfl)
      have e13 : a.eval (.tmp 13) = (.int .i64 (Wr.check ⟨⟨ua, un⟩, ps, says, ts⟩) : Value) := h.of 13 (by kernel_rfl)
      refine opOk_val (v := .slice (some ⟨y.heap.size, 0, none⟩) 2 2) (w' := y.alloc (.cells #[.int .i64 (Dg.check (ups hq) (ups wq)), .int .i64 (Wr.check ⟨⟨ua, un⟩, ps, says, ts⟩)] 31)) (wanted_none rfl) ?_ (fun t ht => by cases ht; exact ⟨y.heap.size, rfl, (cat_cell _ _ _ 0).trans rfl, (cat_cell _ _ _ 1).trans rfl⟩) ((Below.refl _ _).alloc (Nat.le_refl _) _)
      have ec : ∀ v, a.eval (.const v) = v := fun _ => rfl
      generalize a.eval = ev at *
      clear h
      go_simp
    refine AllOps.cons (fun a y h => ?_) ?_
    · have t14 : ∃ g, (a.eval (.tmp 14)) = .slice (some ⟨g, 0, none⟩) 2 2 ∧ y.cell? ⟨g, 0, none⟩ = some (.int .i64 (Dg.check (ups hq) (ups wq))) ∧ y.cell? ⟨g, 1, none⟩ = some (.int .i64 (Wr.check ⟨⟨ua, un⟩, ps, says, ts⟩)) := h.of 14 (by kernel_rfl)
      obtain ⟨g, e14, g0, g1⟩ := t14
      refine opOk_call (f := 27) (args := #[.slice (some ⟨g, 0, none⟩) 2 2]) (wanted_none rfl) ?_ ?_
      · have ec : ∀ v, a.eval (.const v) = v := fun _ => rfl
        have ef : ∀ f, a.eval (.func f) = .func (.func f) #[] #[] := fun _ => rfl
        generalize a.eval = ev at *
        clear h
        go_simp
      · refine (orE_any _ _ g y g0 g1).mono ?_
        rintro e w' ⟨rfl, rfl⟩
        exact ⟨_, rfl, fun t ht => by cases ht; show Value.int .i64 _ = Value.int .i64 cO; rw [HCO.out], Below.refl _ _⟩
    refine AllOps.cons (fun a y h => ?_) ?_
    · have e15 : a.eval (.tmp 15) = (.int .i64 cO : Value) := h.of 15 (by kernel_rfl)
      refine opOk_val (v := .int .i64 cO) (w' := y) (wanted_none rfl) ?_ (fun t ht => by cases ht; exact rfl) (Below.refl _ _)
      have ec : ∀ v, a.eval (.const v) = v := fun _ => rfl
      generalize a.eval = ev at *
      clear h
      go_simp
    exact AllOps.nil
  case hend1 =>
  rintro ⟨tm, df⟩ w3 hbE hdE hszE hstE hTE
  have k6 : tm.getD 6 undef = .int .i64 cO := ends_at (T := addT ah hq.length ch aw wq.length cw ua un a1 n1 d1 a2 n2 d2 a3 n3 d3 (Dg.check (ups hq) (ups wq)) (Wr.check ⟨⟨ua, un⟩, ps, says, ts⟩) cO) (w := w3) (a := ⟨tm, df⟩) (t := 6) hTE (by kernel_rfl)
  obtain rfl : df = [] := hdE
  clear hTE
  have hF8 := tmps_fold [10, 11, 12, 13, 14, 15, 6] tm _ hszE hstE
  clear hszE hstE
  simp only [List.foldl_cons, List.foldl_nil, k6] at hF8
  clear k6
  generalize tm.getD 10 undef = x10 at hF8
  generalize tm.getD 11 undef = x11 at hF8
  generalize tm.getD 12 undef = x12 at hF8
  generalize tm.getD 13 undef = x13 at hF8
  generalize tm.getD 14 undef = x14 at hF8
  generalize tm.getD 15 undef = x15 at hF8
  simp only [List.setIfInBounds_toArray, List.set_cons_zero, List.set_cons_succ] at hF8
  subst hF8
  have HG3 : Hid (Below w1.heap.size w1 w3) := hbE
  clear hbE HC1 HC2 HX1 HX2 HX3
  by_cases hco : cO = 0
  rotate_left
  · have hne : (cO != 0) = true := by simpa using hco
    have HER : Hid (Dg.addErr (ups hq) (ups wq) ⟨⟨ua, un⟩, ps, says, ts⟩ = cO) := by
      show _ = _
      unfold Dg.addErr
      have h9 := HCO.out
      by_cases h0 : Dg.check (ups hq) (ups wq) = 0
      · rw [if_pos h0] at h9
        rw [if_neg (fun e => e h0), if_pos (by rw [← h9]; exact hco), h9]
      · rw [if_neg h0] at h9
        rw [if_pos h0, h9]
    have tk0 := HZ.out w3 (HG3.out)
    have tz0 : (w3).cell? ⟨w.heap.size + 2, 0, none⟩ = some (.slice none 0 0) := by rw [Lib.cell_of_heap tk0]; rfl
    have ty0 := Lib.frozen_of_heap tk0 0
    have tk1 : ((w3).setCell ⟨w.heap.size + 2, 0, none⟩ (.slice none 0 0)).heap[w.heap.size + 2]? = some (.cells #[.slice none 0 0, .slice none 0 0] 24) := by rw [Lib.heap_setCell_same tk0]; rfl
    have tz1 : ((w3).setCell ⟨w.heap.size + 2, 0, none⟩ (.slice none 0 0)).cell? ⟨w.heap.size + 2, 1, none⟩ = some (.slice none 0 0) := by rw [Lib.cell_of_heap tk1]; rfl
    have ty1 := Lib.frozen_of_heap tk1 1
    have tk2 : (((w3).setCell ⟨w.heap.size + 2, 0, none⟩ (.slice none 0 0)).setCell ⟨w.heap.size + 2, 1, none⟩ (.slice none 0 0)).heap[w.heap.size + 2]? = some (.cells #[.slice none 0 0, .slice none 0 0] 24) := by rw [Lib.heap_setCell_same tk1]; rfl
    have td0 : (((w3).setCell ⟨w.heap.size + 2, 0, none⟩ (.slice none 0 0)).setCell ⟨w.heap.size + 2, 1, none⟩ (.slice none 0 0)).cell? ⟨w.heap.size + 2, 0, none⟩ = some (.slice none 0 0) := by rw [Lib.cell_of_heap tk2]; rfl
    have td1 : (((w3).setCell ⟨w.heap.size + 2, 0, none⟩ (.slice none 0 0)).setCell ⟨w.heap.size + 2, 1, none⟩ (.slice none 0 0)).cell? ⟨w.heap.size + 2, 1, none⟩ = some (.slice none 0 0) := by rw [Lib.cell_of_heap tk2]; rfl
    have tg : (w3).grownBy (((w3).setCell ⟨w.heap.size + 2, 0, none⟩ (.slice none 0 0)).setCell ⟨w.heap.size + 2, 1, none⟩ (.slice none 0 0)) (some (w.heap.size + 2)) := (grown_set _ _ _ _).trans_row (grown_set _ _ _ _)
    have tB : Hid (Below w.heap.size w (((w3).setCell ⟨w.heap.size + 2, 0, none⟩ (.slice none 0 0)).setCell ⟨w.heap.size + 2, 1, none⟩ (.slice none 0 0))) := (HT.out w3 (HG3.out)).grown tg (HT.out w3 (HG3.out)).size (fun j e => by cases e; omega)
    clear tk0 tk1 tk2 tg
    go_wp2_with fail
    refine bodyPost_ret (v := .tuple #[.agg #[.slice none 0 0, .slice none 0 0], .int .i64 cO]) (by simp [results, Tryz.results6, go_sem, td0, td1]) rfl ?_
    exact ⟨.slice none 0 0, .slice none 0 0, [], [], by rw [HER.out], ups_nil _, ups_nil _, fun x hx => absurd hx (by simp), fun e0 => absurd (HER.out.symm.trans e0) (by first | decide | assumption), fun _ => ⟨rfl, rfl⟩, tB.out⟩
  have hcks : Dg.check (ups hq) (ups wq) = 0 ∧ Wr.check ⟨⟨ua, un⟩, ps, says, ts⟩ = 0 := by
    have h9 := HCO.out
    by_cases h0 : Dg.check (ups hq) (ups wq) = 0
    · rw [if_pos h0] at h9
      exact ⟨h0, by rw [← h9]; exact hco⟩
    · rw [if_neg h0] at h9
      exact absurd (h9.symm.trans hco) h0
  have HCK : Hid (Dg.check (ups hq) (ups wq) = 0) := hcks.1
  have HCU : Hid (Wr.check ⟨⟨ua, un⟩, ps, says, ts⟩ = 0) := hcks.2
  clear hcks HCO
  subst hco
  have HOKR : Hid (Dg.Ok (ups hq) (ups wq)) := Dg.check_ok.mp HCK.out
  have hfew : hq.length + wq.length ≤ 200 := by have := HOKR.out.few; rw [ups_length, ups_length] at this; exact this
  obtain ⟨⟨r0, r1⟩, _⟩ := HF.out w3 HG3.out
  obtain ⟨q, HQE⟩ : ∃ q, Hid (q = hq ++ wq) := ⟨_, rfl⟩
  have hql : q.length ≤ 200 := by rw [HQE.out, List.length_append]; exact hfew
  have HBA : Hid (Below w3.heap.size w3 (w3.alloc (.cells #[.slice ah hq.length ch, .slice aw wq.length cw] 22))) := (Below.refl _ _).alloc (Nat.le_refl _) _
  have HCC : Hid (Calls Tryz.prog 29 #[.slice (some ⟨w3.heap.size, 0, none⟩) 2 2] (w3.alloc (.cells #[.slice ah hq.length ch, .slice aw wq.length cw] 22)) fun e w' => ∃ v', e = .returned v' ∧ URow w' w3.heap.size v' q ∧ Below w3.heap.size w3 w') := by
    have hb := (HT.out w3 HG3.out).trans (HBA.out.mono (HT.out w3 HG3.out).size)
    obtain ⟨_, _, e1, _, k1⟩ := HHV.out.kc (Kc.below hb)
    obtain ⟨_, _, e2, _, k2⟩ := HWV.out.kc (Kc.below hb)
    cases e1
    cases e2
    refine (concatU_any hq wq w3.heap.size ah aw ch cw _ ⟨k1, HCH.out⟩ ⟨k2, HCW.out⟩ (cat_cell _ _ _ 0) (cat_cell _ _ _ 1) (by omega) (fun x hx => (HO.out x hx).below hb)).mono ?_
    rintro e w' ⟨v', h1, h2, h3⟩
    exact ⟨v', h1, by rw [HQE.out]; exact rl_own_le h2 HBA.out.size, HBA.out.trans (h3.mono HBA.out.size)⟩
  go_upto_region 5 with (go_at_call 29; refine Calls.mono HCC.out ?_; rintro e w4 ⟨v4, rfl, hr4, hb4⟩; obtain ⟨al, cl, rfl⟩ := own_slice hr4)
  have HG4 : Hid (Below w1.heap.size w1 w4) := HG3.out.trans (hb4.mono HG3.out.size)
  have HR4 : Hid (URow w4 w3.heap.size (.slice al q.length cl) q) := hr4
  have HS34 : Hid (w3.heap.size ≤ w4.heap.size) := hb4.size
  have HB34 : Hid (Below w3.heap.size w3 w4) := hb4
  clear hr4 hb4 HCC r0 r1 HBA
  have HG34 : Hid (Below w3.heap.size w3 w4) := HB34.out
  have HQ3 : Hid (∀ x, x ∈ q → UvOk w3 x ∧ Wr.check x.u = 0) := fun x hx => by
    have hx' : x ∈ hq ++ wq := HQE.out ▸ hx
    refine ⟨(HO.out x hx').below (HT.out w3 HG3.out), HOKR.out.each x.u ?_⟩
    rw [← ups_append]
    exact List.mem_map.mpr ⟨x, hx', rfl⟩
  have HQOK : Hid (∀ x, x ∈ q → UvOk w4 x ∧ Wr.check x.u = 0) := fun x hx => by
    have hx' : x ∈ hq ++ wq := HQE.out ▸ hx
    refine ⟨(HO.out x hx').below (HT.out w4 HG4.out), HOKR.out.each x.u ?_⟩
    rw [← ups_append]
    exact List.mem_map.mpr ⟨x, hx', rfl⟩
  have HQND : Hid (((ups q).map Wr.Up.id).Nodup) := by
    have h9 := HOKR.out.nd
    rw [← ups_append, ← HQE.out] at h9
    exact h9
  have HF4 : Hid (∀ z, Below w4.heap.size w4 z → (z.cell? ⟨w.heap.size, 0, none⟩ = some (.slice ah hq.length ch) ∧ z.cell? ⟨w.heap.size, 1, none⟩ = some (.slice aw wq.length cw)) ∧ (z.cell? ⟨w.heap.size + 1, 0, none⟩ = some (.int .i64 ua) ∧ z.cell? ⟨w.heap.size + 1, 1, none⟩ = some (.int .i64 un) ∧ z.cell? ⟨w.heap.size + 1, 2, none⟩ = some (.slice a1 n1 d1) ∧ z.cell? ⟨w.heap.size + 1, 3, none⟩ = some (.slice a2 n2 d2) ∧ z.cell? ⟨w.heap.size + 1, 4, none⟩ = some (.slice a3 n3 d3))) := fun z hz => HF.out z (HG4.out.trans (hz.mono HG4.out.size))
  have HBY : Hid (∀ z, Below w4.heap.size w4 z → Calls Tryz.prog 30 #[.slice al q.length cl] z fun e w' => ∃ b, e = .returned (.map (some b)) ∧ CmAt w' b q ∧ Below z.heap.size z w') := fun z hz =>
    (byIds_any q _ z (own_ups (ownsRow_below HR4.out hz)) (by omega) (fun x hx => (HQOK.out x hx).1.below hz) (fun x hx => (idsOk_of (HQOK.out x hx).2).id)).mono fun e w' h => ⟨_, h.1, h.2.1.at_ HQND.out, h.2.2⟩
  have HID : Hid (Wr.isId ⟨ua, un⟩ = true) := (idsOk_of HCU.out).id
  obtain ⟨hb9, HB9⟩ : ∃ b, Hid (Dg.hasU (ups q) ⟨ua, un⟩ = b) := ⟨_, rfl⟩
  refine wp_region_tabA (addT5 al q.length cl (w.heap.size + 1) ua un q hb9) (by kernel_rfl) (by kernel_rfl) (addT5_mono _ _ _ _ _ _ _ _) ?hop5 ?hend5
  case hop5 =>
    refine AllOps.cons (fun a y h => ?_) ?_
    · have e7 : a.eval (.tmp 7) = (.slice al q.length cl : Value) := h.old 7 (by kernel_rfl)
      refine opOk_val (v := .slice al q.length cl) (w' := y) (wanted_none rfl) ?_ (fun t ht => by cases ht; exact rfl) (Below.refl _ _)
      have ec : ∀ v, a.eval (.const v) = v := fun _ => rfl
      generalize a.eval = ev at *
      clear h
      go_simp
    refine AllOps.cons (fun a y h => ?_) ?_
    · have e26 : a.eval (.tmp 26) = (.slice al q.length cl : Value) := h.of 26 (by kernel_rfl)
      refine opOk_call (f := 30) (args := #[.slice al q.length cl]) (wanted_none rfl) ?_ ?_
      · have ec : ∀ v, a.eval (.const v) = v := fun _ => rfl
        have ef : ∀ f, a.eval (.func f) = .func (.func f) #[] #[] := fun _ => rfl
        generalize a.eval = ev at *
        clear h
        go_simp
      · refine (HBY.out y h.below).mono ?_
        rintro e w' ⟨b, rfl, hm, hb⟩
        exact ⟨_, rfl, fun t ht => by cases ht; exact ⟨b, rfl, hm⟩, hb⟩
    refine AllOps.cons (fun a y h => ?_) ?_
    · have e3 : a.eval (.tmp 3) = (.pointer (some ⟨w.heap.size + 1, 0, none⟩) : Value) := h.old 3 (by kernel_rfl)
      refine opOk_val (v := .pointer (some ⟨w.heap.size + 1, 0, none⟩)) (w' := y) (wanted_none rfl) ?_ (fun t ht => by cases ht; exact rfl) (Below.refl _ _)
      have ec : ∀ v, a.eval (.const v) = v := fun _ => rfl
      generalize a.eval = ev at *
      clear h
      go_simp
    refine AllOps.cons (fun a y h => ?_) ?_
    · have e28 : a.eval (.tmp 28) = (.pointer (some ⟨w.heap.size + 1, 0, none⟩) : Value) := h.of 28 (by kernel_rfl)
      obtain ⟨_, ⟨u0, u1, u2, u3, u4⟩⟩ := HF4.out y h.below
      refine opOk_val (v := .agg #[.int .i64 ua, .int .i64 un]) (w' := y) (wanted_none rfl) ?_ (fun t ht => by cases ht; exact rfl) (Below.refl _ _)
      have ec : ∀ v, a.eval (.const v) = v := fun _ => rfl
      generalize a.eval = ev at *
      clear h
      go_simp
    refine AllOps.cons (fun a y h => ?_) ?_
    · have e29 : a.eval (.tmp 29) = (.agg #[.int .i64 ua, .int .i64 un] : Value) := h.of 29 (by kernel_rfl)
      refine opOk_val (v := .slice (some ⟨y.heap.size, 0, none⟩) 1 1) (w' := y.alloc (.cells #[.int .i64 ua, .int .i64 un] 26)) (wanted_none rfl) ?_ (fun t ht => by cases ht; exact ⟨y.heap.size, rfl, (cat_cell _ _ _ 0).trans rfl, (cat_cell _ _ _ 1).trans rfl⟩) ((Below.refl _ _).alloc (Nat.le_refl _) _)
      have ec : ∀ v, a.eval (.const v) = v := fun _ => rfl
      generalize a.eval = ev at *
      clear h
      go_simp
    refine AllOps.cons (fun a y h => ?_) ?_
    · have t27 : ∃ b, (a.eval (.tmp 27)) = .map (some b) ∧ CmAt y b q := h.of 27 (by kernel_rfl)
      have t30 : ∃ g, (a.eval (.tmp 30)) = .slice (some ⟨g, 0, none⟩) 1 1 ∧ y.cell? ⟨g, 0, none⟩ = some (.int .i64 ua) ∧ y.cell? ⟨g, 1, none⟩ = some (.int .i64 un) := h.of 30 (by kernel_rfl)
      obtain ⟨b, e27, hm⟩ := t27
      obtain ⟨g, e30, g0, g1⟩ := t30
      refine opOk_call (f := 31) (args := #[.map (some b), .slice (some ⟨g, 0, none⟩) 1 1]) (wanted_none rfl) ?_ ?_
      · have ec : ∀ v, a.eval (.const v) = v := fun _ => rfl
        have ef : ∀ f, a.eval (.func f) = .func (.func f) #[] #[] := fun _ => rfl
        generalize a.eval = ev at *
        clear h
        go_simp
      · refine (hold1_any b q ⟨ua, un⟩ g y hm g0 g1 HID.out).mono ?_
        rintro e w' ⟨rfl, hb⟩
        exact ⟨_, rfl, fun t ht => by cases ht; show Value.bool _ = Value.bool hb9; rw [HB9.out], hb⟩
    refine AllOps.cons (fun a y h => ?_) ?_
    · have e31 : a.eval (.tmp 31) = (.bool hb9 : Value) := h.of 31 (by kernel_rfl)
      refine opOk_val (v := .bool (!hb9)) (w' := y) (wanted_none rfl) ?_ (fun t ht => by cases ht; exact rfl) (Below.refl _ _)
      have ec : ∀ v, a.eval (.const v) = v := fun _ => rfl
      generalize a.eval = ev at *
      clear h
      go_simp
    exact AllOps.nil
  case hend5 =>
  rintro ⟨tm, df⟩ w5 hbE hdE hszE hstE hTE
  have k32 : tm.getD 32 undef = .bool (!hb9) := ends_at (T := addT5 al q.length cl (w.heap.size + 1) ua un q hb9) (w := w5) (a := ⟨tm, df⟩) (t := 32) hTE (by kernel_rfl)
  obtain rfl : df = [] := hdE
  clear hTE
  have hF8 := tmps_fold [26, 27, 28, 29, 30, 31, 32] tm _ hszE hstE
  clear hszE hstE
  simp only [List.foldl_cons, List.foldl_nil, k32] at hF8
  clear k32
  generalize tm.getD 26 undef = x26 at hF8
  generalize tm.getD 27 undef = x27 at hF8
  generalize tm.getD 28 undef = x28 at hF8
  generalize tm.getD 29 undef = x29 at hF8
  generalize tm.getD 30 undef = x30 at hF8
  generalize tm.getD 31 undef = x31 at hF8
  simp only [List.setIfInBounds_toArray, List.set_cons_zero, List.set_cons_succ] at hF8
  subst hF8
  have HG5 : Hid (Below w4.heap.size w4 w5) := hbE
  clear hbE HBY
  have HGW5 : Hid (Below w1.heap.size w1 w5) := HG4.out.trans (HG5.out.mono HG4.out.size)
  have HG35 : Hid (Below w3.heap.size w3 w5) := HG34.out.trans (HG5.out.mono HG34.out.size)
  have HUQ : Hid (ups hq ++ ups wq = ups q) := by show _ = _; rw [HQE.out, ups_append]
  have hrq := ownsRow_below HR4.out HG5.out
  have HZB : Hid (w.heap.size + 2 < w3.heap.size) := by have h1 := HG3.out.size; have h2 := HSZ.out; show _ < _; omega
  cases hb9
  · -- it is new
    obtain ⟨_, ⟨u0, u1, u2, u3, u4⟩⟩ := HF4.out w5 HG5.out
    obtain ⟨i0, hi, hz0, hz1, hz2⟩ := info_parts up_info
    have hs5 := HGW5.out.size
    have hs45 := HG5.out.size
    have hs34 := HS34.out
    go_upto_region 7 with (at_builtin; refine wpList_append_own _ rfl _ _ 22 rfl w3.heap.size 30 i0 _ 5 88 Tryz.underlying22 hi hz0 hz1 hz2 rfl (by decide) _ _ _ rfl (hrq.alloc _) ⟨w5.heap.size, 0, none⟩ 1 1 ([(⟨⟨⟨ua, un⟩, ps, says, ts⟩, .slice a1 n1 d1, .slice a2 n2 d2, .slice a3 n3 d3⟩ : Uv)].map uvCells).flatten rfl rfl (news5 w5 _ _ _ _ _ 30) (by intro u hu; simp at hu; rcases hu with rfl | rfl | rfl | rfl | rfl <;> rfl) (by unfold maxLen; omega) (by omega) (by simp; omega) ?_; intro v6 w6 hown6 hgrow6 _; obtain ⟨aL, cL, rfl⟩ := own_slice hown6)
    obtain ⟨L, HLE⟩ : ∃ L, Hid (L = q ++ [(⟨⟨⟨ua, un⟩, ps, says, ts⟩, .slice a1 n1 d1, .slice a2 n2 d2, .slice a3 n3 d3⟩ : Uv)]) := ⟨_, rfl⟩
    have hLl : L.length = q.length + 1 := by rw [HLE.out, List.length_append]; rfl
    have hrL : URow w6 w3.heap.size (.slice aL L.length cL) L := by
      show World.ownsRow _ _ _ _ _ _ _
      rw [hLl, HLE.out, List.map_append, List.flatten_append]
      exact hown6
    have HG36 : Hid (Below w3.heap.size w3 w6) := ((HG35.out.alloc HG35.out.size _)).grown hgrow6 (by simp; omega) (fun k hk => (hrq.lt k hk).1)
    have HGL : Hid (Below w1.heap.size w1 w6) := HG3.out.trans (HG36.out.mono HG3.out.size)
    have HNW : Hid (Dg.hasU (ups q) ⟨ua, un⟩ = false) := HB9.out
    have HLL : Hid (Dg.more (ups hq ++ ups wq) ⟨⟨ua, un⟩, ps, says, ts⟩ = ups L) := by
      show _ = _
      rw [HUQ.out, HLE.out, ups_append]
      unfold Dg.more
      rw [if_neg (by rw [HNW.out]; simp)]
      rfl
    have HLnd : Hid (((ups L).map Wr.Up.id).Nodup) := by
      show List.Nodup _
      rw [← HLL.out, HUQ.out]
      exact Dg.more_nodup HQND.out
    have HLok : Hid (∀ x, x ∈ L → UvOk w6 x ∧ Wr.check x.u = 0) := fun x hx => by
      rw [HLE.out] at hx
      rcases List.mem_append.mp hx with hx | hx
      · exact ⟨(HQ3.out x hx).1.below HG36.out, (HQ3.out x hx).2⟩
      · rw [List.mem_singleton.mp hx]
        exact ⟨HXX.out.below (HT.out w6 HGL.out), HCU.out⟩
    have HLLE : Hid (L.length = q.length + 1) := hLl
    have hL201 : L.length ≤ 201 := by omega
    rw [← hLl]
    clear hown6 hgrow6 hrq u0 u1 u2 u3 u4 hLl HR4 HQND HQ3 HB9
    by_cases hmany : 200 < L.length
    · have g0 : decide ((200 : Int) < (L.length : Int)) = true := decide_eq_true (by omega)
      have g1 : decide (200 < L.length) = true := decide_eq_true hmany
      have HER : Hid (Dg.addErr (ups hq) (ups wq) ⟨⟨ua, un⟩, ps, says, ts⟩ = 2) := by
        show _ = _
        unfold Dg.addErr
        rw [if_neg (fun e => e HCK.out), if_neg (fun e => e HCU.out), HLL.out, ups_length, if_pos hmany]
      have tk0 := HZ.out w6 (HGL.out)
      have tz0 : (w6).cell? ⟨w.heap.size + 2, 0, none⟩ = some (.slice none 0 0) := by rw [Lib.cell_of_heap tk0]; rfl
      have ty0 := Lib.frozen_of_heap tk0 0
      have tk1 : ((w6).setCell ⟨w.heap.size + 2, 0, none⟩ (.slice none 0 0)).heap[w.heap.size + 2]? = some (.cells #[.slice none 0 0, .slice none 0 0] 24) := by rw [Lib.heap_setCell_same tk0]; rfl
      have tz1 : ((w6).setCell ⟨w.heap.size + 2, 0, none⟩ (.slice none 0 0)).cell? ⟨w.heap.size + 2, 1, none⟩ = some (.slice none 0 0) := by rw [Lib.cell_of_heap tk1]; rfl
      have ty1 := Lib.frozen_of_heap tk1 1
      have tk2 : (((w6).setCell ⟨w.heap.size + 2, 0, none⟩ (.slice none 0 0)).setCell ⟨w.heap.size + 2, 1, none⟩ (.slice none 0 0)).heap[w.heap.size + 2]? = some (.cells #[.slice none 0 0, .slice none 0 0] 24) := by rw [Lib.heap_setCell_same tk1]; rfl
      have td0 : (((w6).setCell ⟨w.heap.size + 2, 0, none⟩ (.slice none 0 0)).setCell ⟨w.heap.size + 2, 1, none⟩ (.slice none 0 0)).cell? ⟨w.heap.size + 2, 0, none⟩ = some (.slice none 0 0) := by rw [Lib.cell_of_heap tk2]; rfl
      have td1 : (((w6).setCell ⟨w.heap.size + 2, 0, none⟩ (.slice none 0 0)).setCell ⟨w.heap.size + 2, 1, none⟩ (.slice none 0 0)).cell? ⟨w.heap.size + 2, 1, none⟩ = some (.slice none 0 0) := by rw [Lib.cell_of_heap tk2]; rfl
      have tg : (w6).grownBy (((w6).setCell ⟨w.heap.size + 2, 0, none⟩ (.slice none 0 0)).setCell ⟨w.heap.size + 2, 1, none⟩ (.slice none 0 0)) (some (w.heap.size + 2)) := (grown_set _ _ _ _).trans_row (grown_set _ _ _ _)
      have tB : Hid (Below w.heap.size w (((w6).setCell ⟨w.heap.size + 2, 0, none⟩ (.slice none 0 0)).setCell ⟨w.heap.size + 2, 1, none⟩ (.slice none 0 0))) := (HT.out w6 (HGL.out)).grown tg (HT.out w6 (HGL.out)).size (fun j e => by cases e; omega)
      clear tk0 tk1 tk2 tg
      go_wp2_with fail
      refine bodyPost_ret (v := .tuple #[.agg #[.slice none 0 0, .slice none 0 0], .int .i64 2]) (by simp [results, Tryz.results6, go_sem, td0, td1]) rfl ?_
      exact ⟨.slice none 0 0, .slice none 0 0, [], [], by rw [HER.out], ups_nil _, ups_nil _, fun x hx => absurd hx (by simp), fun e0 => absurd (HER.out.symm.trans e0) (by first | decide | assumption), fun _ => ⟨rfl, rfl⟩, tB.out⟩
    have g0 : decide ((200 : Int) < (L.length : Int)) = false := decide_eq_false (by omega)
    have g1 : decide (200 < L.length) = false := decide_eq_false hmany
    have HER : Hid (Dg.addErr (ups hq) (ups wq) ⟨⟨ua, un⟩, ps, says, ts⟩ = 0) := by
      show _ = _
      unfold Dg.addErr
      rw [if_neg (fun e => e HCK.out), if_neg (fun e => e HCU.out), HLL.out, ups_length, if_neg hmany]
    have HST : Hid (Calls Tryz.prog 32 #[.slice aL L.length cL] w6 fun e w' => ∃ (c l : List Uv) (v : Value), e = .returned (.tuple #[.map (some w6.heap.size), v]) ∧ Dg.settle Dg.snoc [] (ups L) = (ups c, ups l) ∧ (c ++ l).Perm L ∧ CmAt w' w6.heap.size c ∧ URow w' w6.heap.size v l ∧ Below w6.heap.size w6 w') := settle_any L _ w6 (own_ups hrL) (by omega) (fun x hx => (HLok.out x hx).1) (fun x hx => idsOk_of (HLok.out x hx).2) HLnd.out
    go_upto_region 10 with (go_at_call 32; refine Calls.mono HST.out ?_; rintro e w7 ⟨c, l, v7, rfl, hse, hpm, hcm, hr7, hb7⟩; obtain ⟨a7, c7, rfl⟩ := own_slice hr7)
    have HSE : Hid (Dg.settle Dg.snoc [] (ups L) = (ups c, ups l)) := hse
    have HPM : Hid ((c ++ l).Perm L) := hpm
    have hcl : c.length ≤ 1000 ∧ l.length ≤ 1000 := by have := hpm.length_eq; rw [List.length_append] at this; omega
    have HG7 : Hid (Below w1.heap.size w1 w7) := HGL.out.trans (hb7.mono HGL.out.size)
    have HB7 : Hid (Below w6.heap.size w6 w7) := hb7
    have HOC : Hid (∀ x, x ∈ c → UvOk w7 x ∧ Few x.u) := fun x hx => ⟨(HLok.out x (hpm.mem_iff.mp (List.mem_append_left _ hx))).1.below hb7, few_of (HLok.out x (hpm.mem_iff.mp (List.mem_append_left _ hx))).2⟩
    have HOL : Hid (∀ x, x ∈ l → UvOk w7 x ∧ Few x.u) := fun x hx => ⟨(HLok.out x (hpm.mem_iff.mp (List.mem_append_right _ hx))).1.below hb7, few_of (HLok.out x (hpm.mem_iff.mp (List.mem_append_right _ hx))).2⟩
    have HNC : Hid (((ups c).map Wr.Up.id).Nodup ∧ ((ups l).map Wr.Up.id).Nodup) := by
      have h9 := nodup_perm hpm HLnd.out
      rw [ups_append, List.map_append, List.nodup_append] at h9
      exact ⟨h9.1, h9.2.1⟩
    have HCM : Hid (CmAt w7 w6.heap.size c) := hcm
    have HRW : Hid (URow w7 w6.heap.size (.slice a7 l.length c7) l) := hr7
    clear hse hpm hcm hr7 hb7 HST
    have HV1 : Hid (Calls Tryz.prog 34 #[.map (some w6.heap.size)] w7 fun e w' => ∃ lb, e = .returned (.func (.func 77) #[] lb) ∧ SeqU 77 lb c w' ∧ Below w7.heap.size w7 w') := mvals_any _ c w7 HCM.out
    go_wp2_with fail
    refine Calls.mono HV1.out ?_
    rintro e w8 ⟨lb8, rfl, hs8, hb8⟩
    have HC8 : Hid (Calls Tryz.prog 33 #[.func (.func 77) #[] lb8] w8 fun e w' => ∃ (v : Value) (R : List Uv), e = .returned v ∧ (ups R).Perm (ups c) ∧ Wr.rise Dg.uOrd (ups R) = true ∧ URow w' w8.heap.size v R ∧ (∀ x, x ∈ R → UvP w8.heap.size w' x) ∧ Below w8.heap.size w8 w') := copies_any 77 lb8 c hcl.1 w8 (fun x hx => (HOC.out x hx).1.below hb8) (fun x hx => (HOC.out x hx).2) HNC.out.1 hs8
    have HB8 : Hid (Below w7.heap.size w7 w8) := hb8
    clear hs8 hb8 HV1
    go_wp2_with fail
    refine Calls.mono HC8.out ?_
    rintro e wa ⟨va, R1, rfl, hp1, hi1, hrw1, hup1, hba⟩
    obtain ⟨ax, cx, rfl⟩ := own_slice hrw1
    have HBA : Hid (Below w7.heap.size w7 wa) := HB8.out.trans (hba.mono HB8.out.size)
    have HR1 : Hid (URow wa w7.heap.size (.slice ax R1.length cx) R1 ∧ ∀ x, x ∈ R1 → UvP w7.heap.size wa x) := ⟨rl_own_le hrw1 HB8.out.size, fun x hx => (hup1 x hx).le HB8.out.size⟩
    have HI1 : Hid ((ups R1).Perm (ups c) ∧ Wr.rise Dg.uOrd (ups R1) = true) := ⟨hp1, hi1⟩
    clear hp1 hi1 hrw1 hup1 hba HC8
    have HV2 : Hid (Calls Tryz.prog 35 #[.slice a7 l.length c7] wa fun e w' => ∃ lb, e = .returned (.func (.func 78) #[] lb) ∧ SeqU 78 lb l w' ∧ Below wa.heap.size wa w') := svals_any l _ wa (own_ups (ownsRow_below HRW.out HBA.out)) hcl.2 (fun x hx => (HOL.out x hx).1.below HBA.out)
    go_wp2_with fail
    refine Calls.mono HV2.out ?_
    rintro e wb ⟨lbb, rfl, hsb, hbb⟩
    have HBB : Hid (Below w7.heap.size w7 wb) := HBA.out.trans (hbb.mono HBA.out.size)
    have HC9 : Hid (Calls Tryz.prog 33 #[.func (.func 78) #[] lbb] wb fun e w' => ∃ (v : Value) (R : List Uv), e = .returned v ∧ (ups R).Perm (ups l) ∧ Wr.rise Dg.uOrd (ups R) = true ∧ URow w' wb.heap.size v R ∧ (∀ x, x ∈ R → UvP wb.heap.size w' x) ∧ Below wb.heap.size wb w') := copies_any 78 lbb l hcl.2 wb (fun x hx => (HOL.out x hx).1.below HBB.out) (fun x hx => (HOL.out x hx).2) HNC.out.2 hsb
    have HBW : Hid (Below wa.heap.size wa wb) := hbb
    clear hsb hbb HV2
    go_wp2_with fail
    refine Calls.mono HC9.out ?_
    rintro e w9 ⟨v9, R2, rfl, hp2, hi2, hrw2, hup2, hb9'⟩
    obtain ⟨ay, cy, rfl⟩ := own_slice hrw2
    have hba9 := HBW.out.trans (hb9'.mono HBW.out.size)
    have h79 := HBB.out.trans (hb9'.mono HBB.out.size)
    have HR1b : Hid (URow w9 w7.heap.size (.slice ax R1.length cx) R1 ∧ ∀ x, x ∈ R1 → UvP w7.heap.size w9 x) := ⟨ownsRow_below HR1.out.1 hba9, fun x hx => (HR1.out.2 x hx).below hba9⟩
    have HR2b : Hid (URow w9 w7.heap.size (.slice ay R2.length cy) R2 ∧ ∀ x, x ∈ R2 → UvP w7.heap.size w9 x) := ⟨rl_own_le hrw2 HBB.out.size, fun x hx => (hup2 x hx).le HBB.out.size⟩
    have HI2 : Hid ((ups R2).Perm (ups l) ∧ Wr.rise Dg.uOrd (ups R2) = true) := ⟨hp2, hi2⟩
    have HG9 : Hid (Below w1.heap.size w1 w9) := HG7.out.trans (h79.mono HG7.out.size)
    have hz7 : w.heap.size + 2 < w7.heap.size := by have h1 := HG7.out.size; have h2 := HSZ.out; omega
    clear hp2 hi2 hrw2 hup2 hb9' hba9 h79 HR1 HC9
    have sk0 := HZ.out w9 HG9.out
    have sz0 : (w9).cell? ⟨w.heap.size + 2, 0, none⟩ = some (.slice none 0 0) := by rw [Lib.cell_of_heap sk0]; rfl
    have sy0 := Lib.frozen_of_heap sk0 0
    have sk1 : ((w9).setCell ⟨w.heap.size + 2, 0, none⟩ (.slice ax R1.length cx)).heap[w.heap.size + 2]? = some (.cells #[.slice ax R1.length cx, .slice none 0 0] 24) := by rw [Lib.heap_setCell_same sk0]; rfl
    have sz1 : ((w9).setCell ⟨w.heap.size + 2, 0, none⟩ (.slice ax R1.length cx)).cell? ⟨w.heap.size + 2, 1, none⟩ = some (.slice none 0 0) := by rw [Lib.cell_of_heap sk1]; rfl
    have sy1 := Lib.frozen_of_heap sk1 1
    have sk2 : (((w9).setCell ⟨w.heap.size + 2, 0, none⟩ (.slice ax R1.length cx)).setCell ⟨w.heap.size + 2, 1, none⟩ (.slice ay R2.length cy)).heap[w.heap.size + 2]? = some (.cells #[.slice ax R1.length cx, .slice ay R2.length cy] 24) := by rw [Lib.heap_setCell_same sk1]; rfl
    have sd0 : (((w9).setCell ⟨w.heap.size + 2, 0, none⟩ (.slice ax R1.length cx)).setCell ⟨w.heap.size + 2, 1, none⟩ (.slice ay R2.length cy)).cell? ⟨w.heap.size + 2, 0, none⟩ = some (.slice ax R1.length cx) := by rw [Lib.cell_of_heap sk2]; rfl
    have sd1 : (((w9).setCell ⟨w.heap.size + 2, 0, none⟩ (.slice ax R1.length cx)).setCell ⟨w.heap.size + 2, 1, none⟩ (.slice ay R2.length cy)).cell? ⟨w.heap.size + 2, 1, none⟩ = some (.slice ay R2.length cy) := by rw [Lib.cell_of_heap sk2]; rfl
    have sg : (w9).grownBy (((w9).setCell ⟨w.heap.size + 2, 0, none⟩ (.slice ax R1.length cx)).setCell ⟨w.heap.size + 2, 1, none⟩ (.slice ay R2.length cy)) (some (w.heap.size + 2)) := (grown_set _ _ _ _).trans_row (grown_set _ _ _ _)
    have HFB : Hid (Below w.heap.size w (((w9).setCell ⟨w.heap.size + 2, 0, none⟩ (.slice ax R1.length cx)).setCell ⟨w.heap.size + 2, 1, none⟩ (.slice ay R2.length cy))) := (HT.out w9 HG9.out).grown sg (HT.out w9 HG9.out).size (fun j e => by cases e; omega)
    have HF1 : Hid (UpsV (((w9).setCell ⟨w.heap.size + 2, 0, none⟩ (.slice ax R1.length cx)).setCell ⟨w.heap.size + 2, 1, none⟩ (.slice ay R2.length cy)) (.slice ax R1.length cx) R1) := own_ups (HR1b.out.1.kept sg (.inr (fun e => by have := (HR1b.out.1.lt _ e).1; omega)))
    have HF2 : Hid (UpsV (((w9).setCell ⟨w.heap.size + 2, 0, none⟩ (.slice ax R1.length cx)).setCell ⟨w.heap.size + 2, 1, none⟩ (.slice ay R2.length cy)) (.slice ay R2.length cy) R2) := own_ups (HR2b.out.1.kept sg (.inr (fun e => by have := (HR2b.out.1.lt _ e).1; omega)))
    have HF3 : Hid (∀ x, x ∈ R1 ++ R2 → UvOk (((w9).setCell ⟨w.heap.size + 2, 0, none⟩ (.slice ax R1.length cx)).setCell ⟨w.heap.size + 2, 1, none⟩ (.slice ay R2.length cy)) x) := fun x hx => by
      rcases List.mem_append.mp hx with hx | hx
      · exact ((HR1b.out.2 x hx).grown sg hz7).ok
      · exact ((HR2b.out.2 x hx).grown sg hz7).ok
    have HIS : Hid (Dg.Is (Dg.more (ups hq ++ ups wq) ⟨⟨ua, un⟩, ps, says, ts⟩) (ups R1) (ups R2)) := by
      show Dg.Is _ _ _
      rw [HLL.out]
      exact Dg.is_settle HLnd.out (fun u => by rw [HSE.out]; exact HI1.out.1.mem_iff) (fun u => by rw [HSE.out]; exact HI2.out.1.mem_iff) HI1.out.2 HI2.out.2
    clear HR1b HR2b sk0 sk1 sk2 sg
    go_wp2_with fail
    refine bodyPost_ret (v := .tuple #[.agg #[.slice ax R1.length cx, .slice ay R2.length cy], .int .i64 0]) (by simp [results, Tryz.results6, go_sem, sd0, sd1]) rfl ?_
    refine ⟨_, _, R1, R2, by rw [HER.out], HF1.out, HF2.out, HF3.out, fun _ => HIS.out, fun h => absurd HER.out h, HFB.out⟩
  · -- it is there
    obtain ⟨L, HLE⟩ : ∃ L, Hid (L = q) := ⟨_, rfl⟩
    have HGL : Hid (Below w1.heap.size w1 w5) := HGW5.out
    have HNW : Hid (Dg.hasU (ups q) ⟨ua, un⟩ = true) := HB9.out
    have HLL : Hid (Dg.more (ups hq ++ ups wq) ⟨⟨ua, un⟩, ps, says, ts⟩ = ups q) := by
      show _ = _
      rw [HUQ.out]
      unfold Dg.more
      rw [if_pos HNW.out]
    have HLnd : Hid (((ups q).map Wr.Up.id).Nodup) := HQND.out
    have HLok : Hid (∀ x, x ∈ q → UvOk w5 x ∧ Wr.check x.u = 0) := fun x hx => ⟨(HQ3.out x hx).1.below HG35.out, (HQ3.out x hx).2⟩
    have hrL := hrq
    have hL201 : q.length ≤ 201 := by omega
    clear hrq HR4 HQ3 HB9
    go_upto_region 7 with fail
    by_cases hmany : 200 < q.length
    · omega
    have g0 : decide ((200 : Int) < (q.length : Int)) = false := decide_eq_false (by omega)
    have g1 : decide (200 < q.length) = false := decide_eq_false hmany
    have HER : Hid (Dg.addErr (ups hq) (ups wq) ⟨⟨ua, un⟩, ps, says, ts⟩ = 0) := by
      show _ = _
      unfold Dg.addErr
      rw [if_neg (fun e => e HCK.out), if_neg (fun e => e HCU.out), HLL.out, ups_length, if_neg hmany]
    have HST : Hid (Calls Tryz.prog 32 #[.slice al q.length cl] w5 fun e w' => ∃ (c l : List Uv) (v : Value), e = .returned (.tuple #[.map (some w5.heap.size), v]) ∧ Dg.settle Dg.snoc [] (ups q) = (ups c, ups l) ∧ (c ++ l).Perm q ∧ CmAt w' w5.heap.size c ∧ URow w' w5.heap.size v l ∧ Below w5.heap.size w5 w') := settle_any q _ w5 (own_ups hrL) (by omega) (fun x hx => (HLok.out x hx).1) (fun x hx => idsOk_of (HLok.out x hx).2) HLnd.out
    go_upto_region 10 with (go_at_call 32; refine Calls.mono HST.out ?_; rintro e w7 ⟨c, l, v7, rfl, hse, hpm, hcm, hr7, hb7⟩; obtain ⟨a7, c7, rfl⟩ := own_slice hr7)
    have HSE : Hid (Dg.settle Dg.snoc [] (ups q) = (ups c, ups l)) := hse
    have HPM : Hid ((c ++ l).Perm q) := hpm
    have hcl : c.length ≤ 1000 ∧ l.length ≤ 1000 := by have := hpm.length_eq; rw [List.length_append] at this; omega
    have HG7 : Hid (Below w1.heap.size w1 w7) := HGL.out.trans (hb7.mono HGL.out.size)
    have HB7 : Hid (Below w5.heap.size w5 w7) := hb7
    have HOC : Hid (∀ x, x ∈ c → UvOk w7 x ∧ Few x.u) := fun x hx => ⟨(HLok.out x (hpm.mem_iff.mp (List.mem_append_left _ hx))).1.below hb7, few_of (HLok.out x (hpm.mem_iff.mp (List.mem_append_left _ hx))).2⟩
    have HOL : Hid (∀ x, x ∈ l → UvOk w7 x ∧ Few x.u) := fun x hx => ⟨(HLok.out x (hpm.mem_iff.mp (List.mem_append_right _ hx))).1.below hb7, few_of (HLok.out x (hpm.mem_iff.mp (List.mem_append_right _ hx))).2⟩
    have HNC : Hid (((ups c).map Wr.Up.id).Nodup ∧ ((ups l).map Wr.Up.id).Nodup) := by
      have h9 := nodup_perm hpm HLnd.out
      rw [ups_append, List.map_append, List.nodup_append] at h9
      exact ⟨h9.1, h9.2.1⟩
    have HCM : Hid (CmAt w7 w5.heap.size c) := hcm
    have HRW : Hid (URow w7 w5.heap.size (.slice a7 l.length c7) l) := hr7
    clear hse hpm hcm hr7 hb7 HST
    have HV1 : Hid (Calls Tryz.prog 34 #[.map (some w5.heap.size)] w7 fun e w' => ∃ lb, e = .returned (.func (.func 77) #[] lb) ∧ SeqU 77 lb c w' ∧ Below w7.heap.size w7 w') := mvals_any _ c w7 HCM.out
    go_wp2_with fail
    refine Calls.mono HV1.out ?_
    rintro e w8 ⟨lb8, rfl, hs8, hb8⟩
    have HC8 : Hid (Calls Tryz.prog 33 #[.func (.func 77) #[] lb8] w8 fun e w' => ∃ (v : Value) (R : List Uv), e = .returned v ∧ (ups R).Perm (ups c) ∧ Wr.rise Dg.uOrd (ups R) = true ∧ URow w' w8.heap.size v R ∧ (∀ x, x ∈ R → UvP w8.heap.size w' x) ∧ Below w8.heap.size w8 w') := copies_any 77 lb8 c hcl.1 w8 (fun x hx => (HOC.out x hx).1.below hb8) (fun x hx => (HOC.out x hx).2) HNC.out.1 hs8
    have HB8 : Hid (Below w7.heap.size w7 w8) := hb8
    clear hs8 hb8 HV1
    go_wp2_with fail
    refine Calls.mono HC8.out ?_
    rintro e wa ⟨va, R1, rfl, hp1, hi1, hrw1, hup1, hba⟩
    obtain ⟨ax, cx, rfl⟩ := own_slice hrw1
    have HBA : Hid (Below w7.heap.size w7 wa) := HB8.out.trans (hba.mono HB8.out.size)
    have HR1 : Hid (URow wa w7.heap.size (.slice ax R1.length cx) R1 ∧ ∀ x, x ∈ R1 → UvP w7.heap.size wa x) := ⟨rl_own_le hrw1 HB8.out.size, fun x hx => (hup1 x hx).le HB8.out.size⟩
    have HI1 : Hid ((ups R1).Perm (ups c) ∧ Wr.rise Dg.uOrd (ups R1) = true) := ⟨hp1, hi1⟩
    clear hp1 hi1 hrw1 hup1 hba HC8
    have HV2 : Hid (Calls Tryz.prog 35 #[.slice a7 l.length c7] wa fun e w' => ∃ lb, e = .returned (.func (.func 78) #[] lb) ∧ SeqU 78 lb l w' ∧ Below wa.heap.size wa w') := svals_any l _ wa (own_ups (ownsRow_below HRW.out HBA.out)) hcl.2 (fun x hx => (HOL.out x hx).1.below HBA.out)
    go_wp2_with fail
    refine Calls.mono HV2.out ?_
    rintro e wb ⟨lbb, rfl, hsb, hbb⟩
    have HBB : Hid (Below w7.heap.size w7 wb) := HBA.out.trans (hbb.mono HBA.out.size)
    have HC9 : Hid (Calls Tryz.prog 33 #[.func (.func 78) #[] lbb] wb fun e w' => ∃ (v : Value) (R : List Uv), e = .returned v ∧ (ups R).Perm (ups l) ∧ Wr.rise Dg.uOrd (ups R) = true ∧ URow w' wb.heap.size v R ∧ (∀ x, x ∈ R → UvP wb.heap.size w' x) ∧ Below wb.heap.size wb w') := copies_any 78 lbb l hcl.2 wb (fun x hx => (HOL.out x hx).1.below HBB.out) (fun x hx => (HOL.out x hx).2) HNC.out.2 hsb
    have HBW : Hid (Below wa.heap.size wa wb) := hbb
    clear hsb hbb HV2
    go_wp2_with fail
    refine Calls.mono HC9.out ?_
    rintro e w9 ⟨v9, R2, rfl, hp2, hi2, hrw2, hup2, hb9'⟩
    obtain ⟨ay, cy, rfl⟩ := own_slice hrw2
    have hba9 := HBW.out.trans (hb9'.mono HBW.out.size)
    have h79 := HBB.out.trans (hb9'.mono HBB.out.size)
    have HR1b : Hid (URow w9 w7.heap.size (.slice ax R1.length cx) R1 ∧ ∀ x, x ∈ R1 → UvP w7.heap.size w9 x) := ⟨ownsRow_below HR1.out.1 hba9, fun x hx => (HR1.out.2 x hx).below hba9⟩
    have HR2b : Hid (URow w9 w7.heap.size (.slice ay R2.length cy) R2 ∧ ∀ x, x ∈ R2 → UvP w7.heap.size w9 x) := ⟨rl_own_le hrw2 HBB.out.size, fun x hx => (hup2 x hx).le HBB.out.size⟩
    have HI2 : Hid ((ups R2).Perm (ups l) ∧ Wr.rise Dg.uOrd (ups R2) = true) := ⟨hp2, hi2⟩
    have HG9 : Hid (Below w1.heap.size w1 w9) := HG7.out.trans (h79.mono HG7.out.size)
    have hz7 : w.heap.size + 2 < w7.heap.size := by have h1 := HG7.out.size; have h2 := HSZ.out; omega
    clear hp2 hi2 hrw2 hup2 hb9' hba9 h79 HR1 HC9
    have sk0 := HZ.out w9 HG9.out
    have sz0 : (w9).cell? ⟨w.heap.size + 2, 0, none⟩ = some (.slice none 0 0) := by rw [Lib.cell_of_heap sk0]; rfl
    have sy0 := Lib.frozen_of_heap sk0 0
    have sk1 : ((w9).setCell ⟨w.heap.size + 2, 0, none⟩ (.slice ax R1.length cx)).heap[w.heap.size + 2]? = some (.cells #[.slice ax R1.length cx, .slice none 0 0] 24) := by rw [Lib.heap_setCell_same sk0]; rfl
    have sz1 : ((w9).setCell ⟨w.heap.size + 2, 0, none⟩ (.slice ax R1.length cx)).cell? ⟨w.heap.size + 2, 1, none⟩ = some (.slice none 0 0) := by rw [Lib.cell_of_heap sk1]; rfl
    have sy1 := Lib.frozen_of_heap sk1 1
    have sk2 : (((w9).setCell ⟨w.heap.size + 2, 0, none⟩ (.slice ax R1.length cx)).setCell ⟨w.heap.size + 2, 1, none⟩ (.slice ay R2.length cy)).heap[w.heap.size + 2]? = some (.cells #[.slice ax R1.length cx, .slice ay R2.length cy] 24) := by rw [Lib.heap_setCell_same sk1]; rfl
    have sd0 : (((w9).setCell ⟨w.heap.size + 2, 0, none⟩ (.slice ax R1.length cx)).setCell ⟨w.heap.size + 2, 1, none⟩ (.slice ay R2.length cy)).cell? ⟨w.heap.size + 2, 0, none⟩ = some (.slice ax R1.length cx) := by rw [Lib.cell_of_heap sk2]; rfl
    have sd1 : (((w9).setCell ⟨w.heap.size + 2, 0, none⟩ (.slice ax R1.length cx)).setCell ⟨w.heap.size + 2, 1, none⟩ (.slice ay R2.length cy)).cell? ⟨w.heap.size + 2, 1, none⟩ = some (.slice ay R2.length cy) := by rw [Lib.cell_of_heap sk2]; rfl
    have sg : (w9).grownBy (((w9).setCell ⟨w.heap.size + 2, 0, none⟩ (.slice ax R1.length cx)).setCell ⟨w.heap.size + 2, 1, none⟩ (.slice ay R2.length cy)) (some (w.heap.size + 2)) := (grown_set _ _ _ _).trans_row (grown_set _ _ _ _)
    have HFB : Hid (Below w.heap.size w (((w9).setCell ⟨w.heap.size + 2, 0, none⟩ (.slice ax R1.length cx)).setCell ⟨w.heap.size + 2, 1, none⟩ (.slice ay R2.length cy))) := (HT.out w9 HG9.out).grown sg (HT.out w9 HG9.out).size (fun j e => by cases e; omega)
    have HF1 : Hid (UpsV (((w9).setCell ⟨w.heap.size + 2, 0, none⟩ (.slice ax R1.length cx)).setCell ⟨w.heap.size + 2, 1, none⟩ (.slice ay R2.length cy)) (.slice ax R1.length cx) R1) := own_ups (HR1b.out.1.kept sg (.inr (fun e => by have := (HR1b.out.1.lt _ e).1; omega)))
    have HF2 : Hid (UpsV (((w9).setCell ⟨w.heap.size + 2, 0, none⟩ (.slice ax R1.length cx)).setCell ⟨w.heap.size + 2, 1, none⟩ (.slice ay R2.length cy)) (.slice ay R2.length cy) R2) := own_ups (HR2b.out.1.kept sg (.inr (fun e => by have := (HR2b.out.1.lt _ e).1; omega)))
    have HF3 : Hid (∀ x, x ∈ R1 ++ R2 → UvOk (((w9).setCell ⟨w.heap.size + 2, 0, none⟩ (.slice ax R1.length cx)).setCell ⟨w.heap.size + 2, 1, none⟩ (.slice ay R2.length cy)) x) := fun x hx => by
      rcases List.mem_append.mp hx with hx | hx
      · exact ((HR1b.out.2 x hx).grown sg hz7).ok
      · exact ((HR2b.out.2 x hx).grown sg hz7).ok
    have HIS : Hid (Dg.Is (Dg.more (ups hq ++ ups wq) ⟨⟨ua, un⟩, ps, says, ts⟩) (ups R1) (ups R2)) := by
      show Dg.Is _ _ _
      rw [HLL.out]
      exact Dg.is_settle HLnd.out (fun u => by rw [HSE.out]; exact HI1.out.1.mem_iff) (fun u => by rw [HSE.out]; exact HI2.out.1.mem_iff) HI1.out.2 HI2.out.2
    clear HR1b HR2b sk0 sk1 sk2 sg
    go_wp2_with fail
    refine bodyPost_ret (v := .tuple #[.agg #[.slice ax R1.length cx, .slice ay R2.length cy], .int .i64 0]) (by simp [results, Tryz.results6, go_sem, sd0, sd1]) rfl ?_
    refine ⟨_, _, R1, R2, by rw [HER.out], HF1.out, HF2.out, HF3.out, fun _ => HIS.out, fun h => absurd HER.out h, HFB.out⟩
end Go.Proofs.YtmfaodapofamfaaGreat

/- Replicas that came in. -/
namespace Go.Proofs.YtmfaodapofamfaaGreat
open Go.RowKit

theorem O_cells30 : Tryz.prog.cellsOf 30 = 5 := by kernel_rfl
theorem O_cells22 : Tryz.prog.cellsOf 22 = 1 := by kernel_rfl
section
variable {H : Type} {enc : TypeId × Value → H} {w : World} {base : Nat} {spare : Nat → Bool} {held : Bool}
theorem open_ups {fuel : Nat} {v : Value} {x : DataW H × List MemPlace} (h : DataW.trod enc Tryz.prog w base spare held fuel 22 [v] = some x) : ∃ q, UpsV w v q ∧ q.length ≤ 9223372036854775807 ∧ ∀ x, x ∈ q → UvOk w x := by
  obtain ⟨ao, l, cap, hv, hcp, hmx, hl⟩ := open_rowC Tryz.underlying22 O_cells30 (by decide) uvZ (fun b off i => UpIn w b off i ∧ UvOk w i) (fun n cs' y b off hlen hc h2 => by
    match cs', hlen with
    | [v0, v1, v2, v3, v4], _ =>
      obtain ⟨u, e0, h1, h3, h4, h5, h6⟩ := open_up h2
      injection e0 with e0
      have e1 : v0 = .int .i64 u.id.a := Option.some.inj (congrArg (fun a : Array Value => a[0]?) e0)
      have e2 : v1 = .int .i64 u.id.n := Option.some.inj (congrArg (fun a : Array Value => a[1]?) e0)
      exact ⟨⟨u, v2, v3, v4⟩, ⟨by rw [← e1]; exact hc 0 (by decide), by rw [← e2]; exact hc 1 (by decide), hc 2 (by decide), hc 3 (by decide), hc 4 (by decide)⟩, ⟨h1, h3, h4, h5, h6⟩⟩) h
  refine ⟨l, ⟨ao, cap, hv, ⟨hcp, fun e => ?_⟩, ?_⟩, hmx, fun f hf => ?_⟩
  · subst e
    rcases Deep.open_slice Tryz.underlying22 h with ⟨hv2, _⟩ | ⟨a, len, cap2, m, n, D, Pl, hv2, _⟩
    · have hv' : v = .slice none 0 0 := by simpa using hv2
      rw [hv] at hv'
      injection hv' with _ _ h2
    · have hv' : v = .slice (some a) len cap2 := by simpa using hv2
      rw [hv] at hv'
      injection hv' with h1
      cases h1
  · rcases hl with h | ⟨b, off, he, hc⟩
    · exact .inl h
    · exact .inr ⟨b, off, he, fun i hi => (hc i hi).1⟩
  · obtain ⟨i, hi, rfl⟩ := List.getElem_of_mem hf
    rcases hl with h | ⟨b, off, he, hc⟩
    · rw [h] at hi; simp at hi
    · have := (hc i hi).2
      simpa [List.getD, hi] using this
end
end Go.Proofs.YtmfaodapofamfaaGreat

