/- Own texts, one behind the other (part 6). -/
import Derived.Test.YthenjegmigeieaaBundleE
import Derived.Test.YthenjegmigeieaaRows
import Derived.Deep.QuietTactic
import Derived.BigQuiet
/- Package strata: Focus. -/
namespace Go.Proofs.Ythenjegmigeieaa
open Go.RowKit

def sCells (l : List (List UInt8)) : List Value := l.map fun s => Value.string ⟨s.toArray⟩
theorem own_ints {W : World} {B : Nat} {v : Value} {l : List Int} (h : W.ownsRow B 3 1 v l.length (l.map (Value.int .i64))) : IntsV W v l := by
  obtain ⟨ao, cap, rfl, _, hc⟩ := own_cells h
  refine ⟨ao, cap, rfl, ?_⟩
  rcases hc with h0 | ⟨g, rfl, hc⟩
  · exact .inl (List.length_eq_zero_iff.mp h0)
  · refine .inr ⟨g, 0, rfl, fun i hi => ?_⟩
    rw [Nat.zero_add, hc i (by omega)]
    simp [Sc.intD, hi]
theorem own_strs {W : World} {B : Nat} {v : Value} {l : List (List UInt8)} (h : W.ownsRow B 9 1 v l.length (sCells l)) : StrsV W v l := by
  obtain ⟨ao, cap, rfl, _, hc⟩ := own_cells h
  refine ⟨ao, cap, rfl, ?_⟩
  rcases hc with h0 | ⟨g, rfl, hc⟩
  · exact .inl (List.length_eq_zero_iff.mp h0)
  · refine .inr ⟨g, 0, rfl, fun i hi => ?_⟩
    rw [Nat.zero_add, hc i (by omega)]
    simp [Sc.strD, sCells, hi]
theorem cloneS_any (l : List (List UInt8)) (v : Value) (w : World) (hV : StrsV w v l) (hl : l.length ≤ 1048576) :
    Calls Try.prog 16 #[v] w fun e w' => ∃ v', e = .returned v' ∧ w'.ownsRow 0 9 1 v' l.length (sCells l) ∧ Below w.heap.size w w' := by
  obtain ⟨ao, cap, rfl, hA⟩ := hV
  cases ao with
  | none =>
    have hl0 : l = [] := by
      rcases hA with h | ⟨b, off, h, _⟩
      · exact h
      · cases h
    subst hl0
    refine (cloneS_nil _ cap w).mono ?_
    rintro e w' ⟨rfl, hb⟩
    exact ⟨_, rfl, World.ownsRow_nil _ _ _ _, hb⟩
  | some a =>
    refine (cloneS_some a l.length cap (sCells l) w (by simp [sCells]) (fun j u hj => ?_) (fun u hu => ?_) hl).mono ?_
    · rcases hA with h | ⟨b, off, h, hc⟩
      · rw [h] at hj; simp [sCells] at hj
      · have ha := Option.some.inj h
        subst ha
        have hjl : j < l.length := by have := (List.getElem?_eq_some_iff.mp hj).1; simpa [sCells] using this
        have h9 := hc j hjl
        have hu : Value.string ⟨(Sc.strD l j).toArray⟩ = u := by simpa [sCells, Sc.strD, hjl] using hj
        rw [Addr.add_lit, h9, hu]
    · obtain ⟨s, _, rfl⟩ := List.mem_map.mp hu
      rfl
    · rintro e w' ⟨v', rfl, ho, hb⟩
      exact ⟨v', rfl, own_zero ho, hb⟩
theorem check_names {p : Sc.Prog} (h : Sc.check p = 0) : p.names.length ≤ 1048576 := by
  unfold Sc.check at h
  split at h
  · omega
  · rename_i h1
    split at h
    · omega
    · rename_i h2
      have : p.names.length = p.arity.length := Classical.byContradiction h2
      omega
namespace St
/-- What Focus answers. -/
def focOut (p : Sc.Prog) (k : Int) : Sc.Prog := if needErr p k = 0 then focus p k.toNat else ⟨[], [], []⟩
theorem needErr_cases (p : Sc.Prog) (k : Int) (h : needErr p k = 0) : Sc.check p = 0 ∧ isIn p k = true := by
  unfold needErr at h
  split at h
  · rename_i hc
    split at h
    · rename_i hi
      exact ⟨hc, hi⟩
    · omega
  · rename_i hc
    exact absurd h hc
end St

/-- What the temporaries hold where a program's lists are copied. -/
def fo4V (X : Nat) (VA VN : Value) (t : Nat) (v : Value) : Prop :=
  match t with
  | 21 => v = .pointer (some ⟨X, 0, none⟩)
  | 22 => v = VA
  | 24 => v = .pointer (some ⟨X, 1, none⟩)
  | 25 => v = VN
  | _ => True
def Ow3 (W : World) (v : Value) (l : List Int) : Prop := W.ownsRow 0 3 1 v l.length (l.map (Value.int .i64))
def Ow9 (W : World) (v : Value) (l : List (List UInt8)) : Prop := W.ownsRow 0 9 1 v l.length (sCells l)
def fo4T (X F0 : Nat) (VA VN : Value) (la : List Int) (ln : List (List UInt8)) (t : Nat) (v : Value) (W : World) : Prop :=
  if t = 23 then Ow3 W v la else if t = 26 then Ow9 W v ln
  else if t = 27 then ∃ i s, v = .agg #[i, s, .slice none 0 0] ∧ Ow3 W i la ∧ Ow9 W s ln
  else if t = 8 then ∃ b, v = .pointer (some ⟨b, 0, none⟩) ∧ W.heap[b]? = some (.cells #[.slice none 0 0, .slice none 0 0, .slice none 0 0] 26) ∧ F0 ≤ b
  else fo4V X VA VN t v
theorem fo4T_mono (X F0 : Nat) (VA VN : Value) (la : List Int) (ln : List (List UInt8)) (t : Nat) (v : Value) (W W' : World) (hb : Below W.heap.size W W') (h : fo4T X F0 VA VN la ln t v W) : fo4T X F0 VA VN la ln t v W' := by
  have keep : ∀ {B e c n : Nat} {v : Value} {xs : List Value}, W.ownsRow B e c v n xs → W'.ownsRow B e c v n xs := fun h => ownsRow_below h hb
  unfold fo4T at h ⊢
  split
  · rename_i ht
    rw [if_pos ht] at h
    exact keep h
  · rename_i ht
    rw [if_neg ht] at h
    split
    · rename_i ht2
      rw [if_pos ht2] at h
      exact keep h
    · rename_i ht2
      rw [if_neg ht2] at h
      split
      · rename_i ht3
        rw [if_pos ht3] at h
        obtain ⟨i, s, h1, h2, h3⟩ := h
        exact ⟨i, s, h1, keep h2, keep h3⟩
      · rename_i ht3
        rw [if_neg ht3] at h
        split
        · rename_i ht4
          rw [if_pos ht4] at h
          obtain ⟨b, h1, h2, h3⟩ := h
          exact ⟨b, h1, (hb.block b (Array.getElem?_eq_some_iff.mp h2).1).trans h2, h3⟩
        · rename_i ht4
          rw [if_neg ht4] at h
          exact h

/-- A rule's lists in rows of their own. -/
def OwnR (W : World) (x : Rv) : Prop := TermsO W x.2.1 x.1.terms ∧ ∃ lq : List Lv, lq.map (·.1) = x.1.body ∧ LitsO W x.2.2 lq
theorem OwnR.keep {W W' : World} {x : Rv} (h : OwnR W x) (hk : KeepT W W') : OwnR W' x := by
  obtain ⟨h1, lq, h2, h3⟩ := h
  exact ⟨h1.keep hk, lq, h2, h3.keep hk⟩
theorem OwnR.toV {W : World} {x : Rv} (h : OwnR W x) : PTermsV W x.2.1 x.1.terms ∧ PLitsV W x.2.2 x.1.body := by
  obtain ⟨h1, lq, h2, h3⟩ := h
  refine ⟨h1.toV, ?_⟩
  rw [← h2]
  exact h3.toV
def fo9V (FB : Nat) (UR : Value) (RC : Array Value) (t : Nat) (v : Value) : Prop :=
  match t with
  | 40 => v = .pointer (some ⟨FB, 2, none⟩)
  | 41 => v = UR
  | 42 => v = .agg RC
  | _ => True
def fo9T (FB : Nat) (UR : Value) (RC : Array Value) (r : Sc.Rule) (t : Nat) (v : Value) (W : World) : Prop :=
  if t = 43 then ∃ ut ub, v = pruleVal r ut ub ∧ OwnR W (r, (ut, ub))
  else if t = 44 then ∃ b' ut ub, v = .slice (some ⟨b', 0, none⟩) 1 1 ∧ W.heap[b']? = some (.cells #[.int .i64 r.pred, ut, .int .i64 r.fold, ub, .int .i64 r.vars] 48) ∧ (∃ a n c, ut = .slice a n c) ∧ (∃ a n c, ub = .slice a n c) ∧ OwnR W (r, (ut, ub))
  else fo9V FB UR RC t v
theorem fo9T_mono (FB : Nat) (UR : Value) (RC : Array Value) (r : Sc.Rule) (t : Nat) (v : Value) (W W' : World) (hb : Below W.heap.size W W') (h : fo9T FB UR RC r t v W) : fo9T FB UR RC r t v W' := by
  unfold fo9T at h ⊢
  split
  · rename_i ht
    rw [if_pos ht] at h
    obtain ⟨ut, ub, h1, h2⟩ := h
    exact ⟨ut, ub, h1, h2.keep (KeepT.of_below hb)⟩
  · rename_i ht
    rw [if_neg ht] at h
    split
    · rename_i ht2
      rw [if_pos ht2] at h
      obtain ⟨b', ut, ub, h1, h2, h3, h4, h5⟩ := h
      exact ⟨b', ut, ub, h1, (hb.block b' (Array.getElem?_eq_some_iff.mp h2).1).trans h2, h3, h4, h5.keep (KeepT.of_below hb)⟩
    · rename_i ht2
      rw [if_neg ht2] at h
      exact h
theorem check_terms {p : Sc.Prog} (h : Sc.check p = 0) : ∀ r, r ∈ p.rules → r.terms.length ≤ 3 ∧ ∀ x, x ∈ r.body → x.terms.length ≤ 3 := by
  unfold Sc.check at h
  split at h
  · omega
  · split at h
    · omega
    · rename_i hnl
      have hnl : p.names.length = p.arity.length := Classical.byContradiction hnl
      have har : ∀ i, i < p.arity.length → Sc.intD p.arity i ≤ 3 := fun i hi => by
        have h1 := first_zero (St.thn_zero_iff h).1 i (List.mem_range.mpr (by omega))
        unfold Sc.predErr at h1
        have h2 := (St.thn_zero_iff h1).1
        split at h2
        · rename_i h3
          unfold Tr.between at h3
          have h4 : 0 ≤ Sc.intD p.arity i ∧ Sc.intD p.arity i ≤ 3 := by simpa using h3
          exact h4.2
        · omega
      intro r hr
      have h2 := first_zero (St.thn_zero_iff h).2 r hr
      unfold Sc.ruleErr at h2
      split at h2
      · rename_i hp
        have hpp : 0 ≤ r.pred ∧ r.pred ≤ (p.arity.length : Int) - 1 := by unfold Sc.isPred Tr.between at hp; simpa using hp
        obtain ⟨ht, h2⟩ := St.thn_zero_iff h2
        obtain ⟨_, h2⟩ := St.thn_zero_iff h2
        obtain ⟨_, h2⟩ := St.thn_zero_iff h2
        obtain ⟨_, h2⟩ := St.thn_zero_iff h2
        obtain ⟨_, h2⟩ := St.thn_zero_iff h2
        obtain ⟨_, h2⟩ := St.thn_zero_iff h2
        obtain ⟨h5, _⟩ := St.thn_zero_iff h2
        refine ⟨?_, fun x hx => ?_⟩
        · have h9 := har r.pred.toNat (by omega)
          split at ht
          · omega
          · rename_i h8
            have h8 : (r.terms.length : Int) = Sc.intD p.arity r.pred.toNat := Classical.byContradiction h8
            omega
        · have h6 := (St.thn_zero_iff (first_zero h5 x hx)).1
          unfold Sc.litErr at h6
          split at h6
          · split at h6
            · omega
            · split at h6
              · rename_i hq
                have hqq : 0 ≤ x.pred ∧ x.pred ≤ (p.arity.length : Int) - 1 := by unfold Sc.isPred Tr.between at hq; simpa using hq
                have h9 := har x.pred.toNat (by omega)
                split at h6
                · omega
                · rename_i h8
                  have h8 : (x.terms.length : Int) = Sc.intD p.arity x.pred.toNat := Classical.byContradiction h8
                  omega
              · omega
          · split at h6
            · split at h6
              · split at h6
                · omega
                · rename_i h8
                  have h8 : x.terms.length = 2 := Classical.byContradiction fun e => h8 (.inr e)
                  omega
              · omega
            · split at h6
              · split at h6
                · split at h6
                  · omega
                  · rename_i h8
                    have h8 : x.terms.length = 3 := Classical.byContradiction fun e => h8 (.inr e)
                    omega
                · omega
              · omega
      · omega

theorem own_ty {W : World} {B c n k : Nat} {e t : TypeId} {v : Value} {xs : List Value} {a : Array Value} (h : W.ownsRow B e c v n xs) (hk : v.ownBlock = some k) (ha : W.heap[k]? = some (.cells a t)) : t = e := by
  rcases h.2 with ⟨h2, _⟩ | ⟨g, cap, cur, hv, _, hh, _⟩
  · rw [h2] at hk; cases hk
  · rw [hv] at hk
    have hg : g = k := by simpa [Value.ownBlock] using hk
    subst hg
    rw [hh] at ha
    injection ha with ha
    injection ha with _ ha _
    exact ha.symm

set_option maxRecDepth 100000 in
set_option maxHeartbeats 2000000 in
theorem Focus_any (p : Sc.Prog) (pd : Int) (va vn vr : Value) (w : World) (hP : ProgV w va vn vr p) (hF : ProgFit p) :
    Calls Try.prog 6 #[progVal va vn vr, .int .i64 pd] w fun e w' => ∃ ua un ur, e = .returned (.tuple #[progVal ua un ur, .int .i64 (St.needErr p pd)]) ∧ ProgV w' ua un ur (St.focOut p pd) ∧ Below w.heap.size w w' := by
  obtain ⟨i0, hi, hz0, hz1, hz2⟩ := info_parts st_info65
  obtain ⟨a0, n0, rfl, _⟩ := id hP.ar
  obtain ⟨a1, n1, rfl, _⟩ := id hP.nm
  obtain ⟨a2, n2, rfl, hA2⟩ := id hP.rl
  have HA2 : Hid _ := hA2
  have HP : Hid _ := hP
  have HFT : Hid _ := hF
  have b0 := (Below.refl w.heap.size w).alloc (Nat.le_refl _) (.cells #[.slice a0 p.arity.length n0, .slice a1 p.names.length n1, .slice a2 p.rules.length n2] 26)
  have hX := heap_alloc_new w (.cells #[.slice a0 p.arity.length n0, .slice a1 p.names.length n1, .slice a2 p.rules.length n2] 26)
  have s1 : (w.alloc (.cells #[.slice a0 p.arity.length n0, .slice a1 p.names.length n1, .slice a2 p.rules.length n2] 26)).heap.size = w.heap.size + 1 := by simp
  have b1 := (Below.refl (w.alloc (.cells #[.slice a0 p.arity.length n0, .slice a1 p.names.length n1, .slice a2 p.rules.length n2] 26)).heap.size (w.alloc (.cells #[.slice a0 p.arity.length n0, .slice a1 p.names.length n1, .slice a2 p.rules.length n2] 26))).alloc (Nat.le_refl _) (.cells #[.slice none 0 0, .slice none 0 0, .slice none 0 0] 26)
  have hX1 := (b1.block _ (Array.getElem?_eq_some_iff.mp hX).1).trans hX
  have hZ1 := heap_alloc_new (w.alloc (.cells #[.slice a0 p.arity.length n0, .slice a1 p.names.length n1, .slice a2 p.rules.length n2] 26)) (.cells #[.slice none 0 0, .slice none 0 0, .slice none 0 0] 26)
  rw [s1] at hZ1
  have hb1 := b0.trans (b1.mono b0.size)
  have HX1 : Hid _ := hX1
  have HZ1 : Hid _ := hZ1
  have HB1 : Hid _ := hb1
  clear b0 hX s1 b1 hX1 hZ1 hb1 hP hA2 hF
  go_enter Try.func6, Try.ntmps6
  go_wp2_with fail
  generalize (w.alloc (.cells #[.slice a0 p.arity.length n0, .slice a1 p.names.length n1, .slice a2 p.rules.length n2] 26)).alloc (.cells #[.slice none 0 0, .slice none 0 0, .slice none 0 0] 26) = w1 at *
  refine Calls.mono (Needs_any p pd _ _ _ w1 (HP.out.below HB1.out) HFT.out) ?_
  rintro e w2 ⟨nv, rfl, hnv, hb2⟩
  have hX2 := (hb2.block _ (Array.getElem?_eq_some_iff.mp HX1.out).1).trans HX1.out
  have hZ2 := (hb2.block _ (Array.getElem?_eq_some_iff.mp HZ1.out).1).trans HZ1.out
  have hbw2 := HB1.out.trans (hb2.mono HB1.out.size)
  clear HX1 HZ1 HB1 hb2
  by_cases hne : St.needErr p pd = 0
  · obtain ⟨hc, hin⟩ := St.needErr_cases p pd hne
    obtain ⟨hn, hr, hR⟩ := St.check_in hc
    have HR : Hid _ := hR
    have HC : Hid _ := hc
    have HNO := (St.needErr_in hc hin).2
    have hpd : 0 ≤ pd ∧ pd < (p.arity.length : Int) := by simpa [St.isIn] using hin
    obtain ⟨q0, rfl⟩ : ∃ q0 : Nat, pd = q0 := ⟨pd.toNat, by omega⟩
    rw [HNO, Int.toNat_natCast] at hnv
    have HFO : Hid (St.focOut p q0 = St.focus p q0) := by show _ = _; unfold St.focOut; rw [if_pos hne, Int.toNat_natCast]
    have HNE : Hid _ := hne
    obtain ⟨na, nc, rfl, _, hNA⟩ := hnv
    have HNA : Hid _ := hNA
    have HTR : Hid _ := check_terms HC.out
    rw [St.needs_length]
    have HX2 : Hid _ := hX2
    have HZ2 : Hid _ := hZ2
    have HBW2 : Hid _ := hbw2
    have c0 : w2.cell? ⟨w.heap.size, 0, none⟩ = some (.slice a0 p.arity.length n0) := by rw [Lib.cell_of_heap hX2]; rfl
    have c1 : w2.cell? ⟨w.heap.size, 1, none⟩ = some (.slice a1 p.names.length n1) := by rw [Lib.cell_of_heap hX2]; rfl
    have hnm : p.names.length ≤ 1048576 := check_names HC.out
    rw [hne]
    clear hc hin HNO hR hNA hX2 hZ2 hbw2 hne
    go_upto_region 4 with fail
    refine wp_region_tail (fo4T w.heap.size w2.heap.size (.slice a0 p.arity.length n0) (.slice a1 p.names.length n1) p.arity p.names) 8 (by decide) (by kernel_rfl) (by kernel_rfl) (by kernel_rfl) (fo4T_mono _ _ _ _ _ _) ?hop ?htail
    case hop =>
      refine AllOps.cons (fun a y h => ?_) ?_
      · have e2 : a.eval (.tmp 2) = (.pointer (some ⟨w.heap.size, 0, none⟩)) := h.old 2 (by kernel_rfl)
        refine opOk_val (v := (.pointer (some ⟨w.heap.size, 0, none⟩))) (w' := y) (wanted_none rfl) ?_ (fun t ht => by cases ht; exact rfl) (Below.refl _ _)
        have ec : ∀ v, a.eval (.const v) = v := fun _ => rfl
        generalize a.eval = ev at *
        clear h
        go_simp
      refine AllOps.cons (fun a y h => ?_) ?_
      · have e21 : a.eval (.tmp 21) = .pointer (some ⟨w.heap.size, 0, none⟩) := h.of 21 (by kernel_rfl)
        have cc := cell_below h.below c0
        refine opOk_val (v := (.slice a0 p.arity.length n0)) (w' := y) (wanted_none rfl) ?_ (fun t ht => by cases ht; exact rfl) (Below.refl _ _)
        have ec : ∀ v, a.eval (.const v) = v := fun _ => rfl
        generalize a.eval = ev at *
        clear h
        go_simp
      refine AllOps.cons (fun a y h => ?_) ?_
      · have e22 : a.eval (.tmp 22) = (.slice a0 p.arity.length n0) := h.of 22 (by kernel_rfl)
        refine opOk_call (f := 15) (args := #[(.slice a0 p.arity.length n0)]) (wanted_none rfl) ?_ ?_
        · have ef : ∀ f, a.eval (.func f) = .func (.func f) #[] #[] := fun _ => rfl
          generalize a.eval = ev at *
          clear h
          go_simp
        · refine Calls.mono (cloneI_any p.arity _ y (intsV_below HP.out.ar (HBW2.out.trans (h.below.mono HBW2.out.size))) (by omega)) ?_
          rintro _ y2 ⟨v9, rfl, hv9, hb9⟩
          exact ⟨v9, rfl, fun t ht => by cases ht; exact own_zero hv9, hb9⟩
      refine AllOps.cons (fun a y h => ?_) ?_
      · have e2 : a.eval (.tmp 2) = (.pointer (some ⟨w.heap.size, 0, none⟩)) := h.old 2 (by kernel_rfl)
        refine opOk_val (v := (.pointer (some ⟨w.heap.size, 1, none⟩))) (w' := y) (wanted_none rfl) ?_ (fun t ht => by cases ht; exact rfl) (Below.refl _ _)
        have ec : ∀ v, a.eval (.const v) = v := fun _ => rfl
        generalize a.eval = ev at *
        clear h
        go_simp
      refine AllOps.cons (fun a y h => ?_) ?_
      · have e24 : a.eval (.tmp 24) = .pointer (some ⟨w.heap.size, 1, none⟩) := h.of 24 (by kernel_rfl)
        have cc := cell_below h.below c1
        refine opOk_val (v := (.slice a1 p.names.length n1)) (w' := y) (wanted_none rfl) ?_ (fun t ht => by cases ht; exact rfl) (Below.refl _ _)
        have ec : ∀ v, a.eval (.const v) = v := fun _ => rfl
        generalize a.eval = ev at *
        clear h
        go_simp
      refine AllOps.cons (fun a y h => ?_) ?_
      · have e25 : a.eval (.tmp 25) = (.slice a1 p.names.length n1) := h.of 25 (by kernel_rfl)
        refine opOk_call (f := 16) (args := #[(.slice a1 p.names.length n1)]) (wanted_none rfl) ?_ ?_
        · have ef : ∀ f, a.eval (.func f) = .func (.func f) #[] #[] := fun _ => rfl
          generalize a.eval = ev at *
          clear h
          go_simp
        · refine Calls.mono (cloneS_any p.names _ y (strsV_below HP.out.nm (HBW2.out.trans (h.below.mono HBW2.out.size))) (by omega)) ?_
          rintro _ y2 ⟨v9, rfl, hv9, hb9⟩
          exact ⟨v9, rfl, fun t ht => by cases ht; exact hv9, hb9⟩
      refine AllOps.cons (fun a y h => ?_) ?_
      · have t23 : Ow3 y (a.eval (.tmp 23)) p.arity := h.of 23 (by kernel_rfl)
        have t26 : Ow9 y (a.eval (.tmp 26)) p.names := h.of 26 (by kernel_rfl)
        obtain ⟨ia, ic, e23⟩ := own_slice t23
        obtain ⟨sa, sc, e26⟩ := own_slice t26
        rw [e23] at t23
        rw [e26] at t26
        refine opOk_val (v := .agg #[.slice ia p.arity.length ic, .slice sa p.names.length sc, .slice none 0 0]) (w' := y) (wanted_none rfl) ?_ (fun t ht => by cases ht; exact ⟨_, _, rfl, t23, t26⟩) (Below.refl _ _)
        generalize a.eval = ev at *
        clear h t23 t26
        go_simp
      refine AllOps.cons (fun a y h => ?_) ?_
      · have hfb : w2.heap.size ≤ y.heap.size := h.below.size
        refine opOk_val (v := .pointer (some ⟨y.heap.size, 0, none⟩)) (w' := y.alloc (.cells #[.slice none 0 0, .slice none 0 0, .slice none 0 0] 26)) (wanted_none rfl) ?_ (fun t ht => by cases ht; exact ⟨_, rfl, heap_alloc_new y _, hfb⟩) ((Below.refl _ _).alloc (Nat.le_refl _) _)
        generalize a.eval = ev at *
        clear h
        go_simp
      exact AllOps.nil
    case htail =>
      rintro ⟨tm, df⟩ y hI
      obtain ⟨ii, ss, e27, h3, h9⟩ : ∃ i s, Act.eval ⟨tm, df⟩ (.tmp 27) = .agg #[i, s, .slice none 0 0] ∧ Ow3 y i p.arity ∧ Ow9 y s p.names := hI.all 6 _ 27 (by decide) rfl rfl
      obtain ⟨FB, e8, hFB, hF0⟩ : ∃ b, Act.eval ⟨tm, df⟩ (.tmp 8) = .pointer (some ⟨b, 0, none⟩) ∧ y.heap[b]? = some (.cells #[.slice none 0 0, .slice none 0 0, .slice none 0 0] 26) ∧ w2.heap.size ≤ b := hI.all 7 _ 8 (by decide) rfl rfl
      obtain ⟨ia, ic, rfl⟩ := own_slice h3
      obtain ⟨sa, sc, rfl⟩ := own_slice h9
      have k0 := hFB
      have z0 : y.cell? ⟨FB, 0, none⟩ = some (.slice none 0 0) := by rw [Lib.cell_of_heap k0]; rfl
      have y0 := Lib.frozen_of_heap k0 0
      have k1 : (y.setCell ⟨FB, 0, none⟩ (.slice ia p.arity.length ic)).heap[FB]? = some (.cells #[.slice ia p.arity.length ic, .slice none 0 0, .slice none 0 0] 26) := by rw [Lib.heap_setCell_same k0]; rfl
      have z1 : (y.setCell ⟨FB, 0, none⟩ (.slice ia p.arity.length ic)).cell? ⟨FB, 1, none⟩ = some (.slice none 0 0) := by rw [Lib.cell_of_heap k1]; rfl
      have y1 := Lib.frozen_of_heap k1 1
      have k2 : ((y.setCell ⟨FB, 0, none⟩ (.slice ia p.arity.length ic)).setCell ⟨FB, 1, none⟩ (.slice sa p.names.length sc)).heap[FB]? = some (.cells #[.slice ia p.arity.length ic, .slice sa p.names.length sc, .slice none 0 0] 26) := by rw [Lib.heap_setCell_same k1]; rfl
      have z2 : ((y.setCell ⟨FB, 0, none⟩ (.slice ia p.arity.length ic)).setCell ⟨FB, 1, none⟩ (.slice sa p.names.length sc)).cell? ⟨FB, 2, none⟩ = some (.slice none 0 0) := by rw [Lib.cell_of_heap k2]; rfl
      have y2 := Lib.frozen_of_heap k2 2
      have k3 : (((y.setCell ⟨FB, 0, none⟩ (.slice ia p.arity.length ic)).setCell ⟨FB, 1, none⟩ (.slice sa p.names.length sc)).setCell ⟨FB, 2, none⟩ (.slice none 0 0)).heap[FB]? = some (.cells #[.slice ia p.arity.length ic, .slice sa p.names.length sc, .slice none 0 0] 26) := by rw [Lib.heap_setCell_same k2]; rfl
      have d0 : (((y.setCell ⟨FB, 0, none⟩ (.slice ia p.arity.length ic)).setCell ⟨FB, 1, none⟩ (.slice sa p.names.length sc)).setCell ⟨FB, 2, none⟩ (.slice none 0 0)).cell? ⟨FB, 0, none⟩ = some (.slice ia p.arity.length ic) := by rw [Lib.cell_of_heap k3]; rfl
      have d1 : (((y.setCell ⟨FB, 0, none⟩ (.slice ia p.arity.length ic)).setCell ⟨FB, 1, none⟩ (.slice sa p.names.length sc)).setCell ⟨FB, 2, none⟩ (.slice none 0 0)).cell? ⟨FB, 1, none⟩ = some (.slice sa p.names.length sc) := by rw [Lib.cell_of_heap k3]; rfl
      have d2 : (((y.setCell ⟨FB, 0, none⟩ (.slice ia p.arity.length ic)).setCell ⟨FB, 1, none⟩ (.slice sa p.names.length sc)).setCell ⟨FB, 2, none⟩ (.slice none 0 0)).cell? ⟨FB, 2, none⟩ = some (.slice none 0 0) := by rw [Lib.cell_of_heap k3]; rfl
      show wpOps Try.prog _ _ [8] _ _
      rw [wpOps_cons]
      refine wpOp_void rfl (wanted_none rfl) rfl (w' := (((y.setCell ⟨FB, 0, none⟩ (.slice ia p.arity.length ic)).setCell ⟨FB, 1, none⟩ (.slice sa p.names.length sc)).setCell ⟨FB, 2, none⟩ (.slice none 0 0))) ?_ ?_
      · generalize Act.eval ⟨tm, df⟩ = ev at *
        clear hI h3 h9
        go_simp
      have ot : ∀ (e : TypeId), e ≠ 26 → ∀ (k : Nat) (a : Array Value), y.heap[k]? = some (.cells a e) → (((y.setCell ⟨FB, 0, none⟩ (.slice ia p.arity.length ic)).setCell ⟨FB, 1, none⟩ (.slice sa p.names.length sc)).setCell ⟨FB, 2, none⟩ (.slice none 0 0)).heap[k]? = some (.cells a e) := fun e he k a ha => by
        have hk : ¬ k = FB := fun hk => by rw [hk, hFB] at ha; injection ha with ha; injection ha with _ ha _; exact he ha.symm
        rw [heap_set_other hk, heap_set_other hk, heap_set_other hk]
        exact ha
      have HF : Hid _ := k3
      have HI3 : Hid (Ow3 (((y.setCell ⟨FB, 0, none⟩ (.slice ia p.arity.length ic)).setCell ⟨FB, 1, none⟩ (.slice sa p.names.length sc)).setCell ⟨FB, 2, none⟩ (.slice none 0 0)) (.slice ia p.arity.length ic) p.arity) := own_type h3 (ot 3 (by decide))
      have HI9 : Hid (Ow9 (((y.setCell ⟨FB, 0, none⟩ (.slice ia p.arity.length ic)).setCell ⟨FB, 1, none⟩ (.slice sa p.names.length sc)).setCell ⟨FB, 2, none⟩ (.slice none 0 0)) (.slice sa p.names.length sc) p.names) := own_type h9 (ot 9 (by decide))
      have HB : Hid (Below w2.heap.size w2 (((y.setCell ⟨FB, 0, none⟩ (.slice ia p.arity.length ic)).setCell ⟨FB, 1, none⟩ (.slice sa p.names.length sc)).setCell ⟨FB, 2, none⟩ (.slice none 0 0))) := (((hI.below.setCell (p := ⟨FB, 0, none⟩) hF0 (.slice ia p.arity.length ic)).setCell (p := ⟨FB, 1, none⟩) hF0 (.slice sa p.names.length sc)).setCell (p := ⟨FB, 2, none⟩) hF0 (.slice none 0 0))
      have hsz : (((y.setCell ⟨FB, 0, none⟩ (.slice ia p.arity.length ic)).setCell ⟨FB, 1, none⟩ (.slice sa p.names.length sc)).setCell ⟨FB, 2, none⟩ (.slice none 0 0)).heap.size = y.heap.size := by simp
      have hFy : FB < y.heap.size := (Array.getElem?_eq_some_iff.mp hFB).1
      have hs2 := hI.size
      have hst := hI.still
      obtain rfl : df = [] := hI.defers
      have h8 : tm.getD 8 undef = .pointer (some ⟨FB, 0, none⟩) := e8
      clear hI h3 h9 ot e27 e8 hFB k0 k1 k2 k3 z0 z1 z2 y0 y1 y2 d0 d1 d2 c0 c1
      generalize (((y.setCell ⟨FB, 0, none⟩ (.slice ia p.arity.length ic)).setCell ⟨FB, 1, none⟩ (.slice sa p.names.length sc)).setCell ⟨FB, 2, none⟩ (.slice none 0 0)) = y3 at *
      have hF3 : FB + 1 ≤ y3.heap.size := by omega
      clear hsz hFy
      show Exit.then _ _ Exit.normal ⟨tm, []⟩ y3
      have hF8 := tmps_fold [21, 22, 23, 24, 25, 26, 27, 8] tm _ hs2 hst
      clear hs2 hst
      simp only [List.foldl_cons, List.foldl_nil, h8] at hF8
      clear h8
      generalize tm.getD 21 undef = x21 at hF8
      generalize tm.getD 22 undef = x22 at hF8
      generalize tm.getD 23 undef = x23 at hF8
      generalize tm.getD 24 undef = x24 at hF8
      generalize tm.getD 25 undef = x25 at hF8
      generalize tm.getD 26 undef = x26 at hF8
      generalize tm.getD 27 undef = x27 at hF8
      simp only [List.setIfInBounds_toArray, List.set_cons_zero, List.set_cons_succ] at hF8
      subst hF8
      have hXr := (HB.out.block _ (Array.getElem?_eq_some_iff.mp HX2.out).1).trans HX2.out
      have c2 : y3.cell? ⟨w.heap.size, 2, none⟩ = some (.slice a2 p.rules.length n2) := by rw [Lib.cell_of_heap hXr]; rfl
      go_wp2_with fail
      have HF3 : Hid _ := HF.out
      clear c2 hXr
      go_loopw [31] (fun i wr => ∃ (k : Nat) (q : List Rv) (ur : Value), k ≤ p.rules.length ∧ i = .int .i64 k ∧ q.length ≤ k ∧ wr.heap[FB]? = some (.cells #[.slice ia p.arity.length ic, .slice sa p.names.length sc, ur] 26) ∧ wr.ownsRow (FB + 1) 48 5 ur q.length (rCells q) ∧ q.map (·.1) = (p.rules.take k).filter (fun r => (St.needs p q0).getD r.pred.toNat false) ∧ (∀ x, x ∈ q → OwnR wr x) ∧ Ow3 wr (.slice ia p.arity.length ic) p.arity ∧ Ow9 wr (.slice sa p.names.length sc) p.names ∧ Below w2.heap.size w2 wr) (fun i _ => p.rules.length - (intOf i).toNat)
      case atStart => exact ⟨0, [], .slice none 0 0, Nat.zero_le _, rfl, Nat.le_refl _, HF.out, World.ownsRow_nil _ _ _ _, rfl, fun _ h => absurd h (by simp), HI3.out, HI9.out, HB.out⟩
      case round =>
        clear HF HF3 HI3 HI9 HB
        obtain ⟨k, q, ur, hk, rfl, hqk, hF, ho, hqm, hqv, h3, h9, hb⟩ := hrel
        obtain ⟨au, cu, rfl⟩ := own_slice ho
        have hZr := (hb.block _ (Array.getElem?_eq_some_iff.mp HZ2.out).1).trans HZ2.out
        have HF : Hid _ := hF
        have HO : Hid _ := ho
        have HQM : Hid _ := hqm
        have HQV : Hid _ := hqv
        have HI3 : Hid _ := h3
        have HI9 : Hid _ := h9
        have HB : Hid _ := hb
        have HZR : Hid _ := hZr
        have HBW : Hid _ := HBW2.out.trans (hb.mono HBW2.out.size)
        clear hF ho hqm hqv h3 h9 hb hZr
        by_cases hlt : k < p.rules.length
        · obtain ⟨b, off, rfl, p0, ⟨vt, p1, hT⟩, p2, ⟨vb, p3, hLL⟩, p4⟩ := prules_at HA2.out k hlt
          have HTV : Hid _ := hT
          have HLV : Hid _ := hLL
          obtain ⟨at_, ct, rfl, _⟩ := hT
          obtain ⟨ab, cb, rfl, _⟩ := hLL
          have HRI : Hid (St.RuleIn p.arity.length (Sc.ruleD p.rules k)) := HR.out _ (ruleD_mem hlt)
          have HTM : Hid _ := HTR.out _ (ruleD_mem hlt)
          have HTK : Hid _ := take_rule hlt
          have s0 := cell_below HBW.out p0
          have s1 := cell_below HBW.out p1
          have s2 := cell_below HBW.out p2
          have s3 := cell_below HBW.out p3
          have s4 := cell_below HBW.out p4
          clear p0 p1 p2 p3 p4
          generalize Sc.ruleD p.rules k = r at *
          obtain ⟨pd, ts, fo, bd, vs⟩ := r
          obtain ⟨pr, rfl⟩ : ∃ pr : Nat, pd = pr := ⟨pd.toNat, by have := HRI.out.h0; dsimp only at this; omega⟩
          dsimp only at *
          have hpn : pr < p.arity.length := by have := HRI.out.h1; dsimp only at this; omega
          obtain ⟨bb, oo, rfl, hnb⟩ := bools_at HNA.out pr (by rw [St.needs_length]; exact hpn)
          have bq := (Below.refl wr.heap.size wr).alloc (Nat.le_refl _) (.cells #[.int .i64 pr, (.slice at_ ts.length ct), .int .i64 fo, (.slice ab bd.length cb), .int .i64 vs] 48)
          have nb := cell_below bq (cell_below HB.out hnb)
          have hQ := heap_alloc_new wr (.cells #[.int .i64 pr, (.slice at_ ts.length ct), .int .i64 fo, (.slice ab bd.length cb), .int .i64 vs] 48)
          have HFI : Hid ((p.rules.take (k + 1)).filter (fun r => (St.needs p q0).getD r.pred.toNat false) = (p.rules.take k).filter (fun r => (St.needs p q0).getD r.pred.toNat false) ++ if Rl.boolD (St.needs p q0) pr then [(⟨pr, ts, fo, bd, vs⟩ : Sc.Rule)] else []) := by
            show _ = _
            rw [HTK.out, List.filter_append, List.filter_cons, List.filter_nil]
            rfl
          have HQ : Hid _ := hQ
          have HBq : Hid _ := bq
          clear hnb hQ bq
          cases hnd : Rl.boolD (St.needs p q0) pr
          · rw [hnd] at nb HFI
            clear hnd
            go_wp2_with fail
            go_roundw
            case rel => exact ⟨k + 1, q, _, hlt, by go_num, by omega, (HBq.out.block _ (Array.getElem?_eq_some_iff.mp HF.out).1).trans HF.out, ownsRow_below HO.out HBq.out, by rw [HQM.out, HFI.out]; simp, fun x hx => OwnR.keep (HQV.out x hx) (KeepT.of_below HBq.out), ownsRow_below HI3.out HBq.out, ownsRow_below HI9.out HBq.out, HB.out.trans (HBq.out.mono HB.out.size)⟩
            case measure => simp [intOf]; omega
          rw [hnd] at nb HFI
          clear hnd
          go_upto_region 9 with fail
          have HFq : Hid _ := (HBq.out.block _ (Array.getElem?_eq_some_iff.mp HF.out).1).trans HF.out
          have HOq : Hid _ := ownsRow_below HO.out HBq.out
          have HQVq : Hid (∀ x, x ∈ q → OwnR _ x) := fun x hx => OwnR.keep (HQV.out x hx) (KeepT.of_below HBq.out)
          have HI3q : Hid _ := ownsRow_below HI3.out HBq.out
          have HI9q : Hid _ := ownsRow_below HI9.out HBq.out
          have HB2 : Hid _ := HB.out.trans (HBq.out.mono HB.out.size)
          have HBQ : Hid _ := HBW.out.trans (HBq.out.mono HBW.out.size)
          clear nb s0 s1 s2 s3 s4 HBq
          generalize wr.alloc (.cells #[.int .i64 pr, (.slice at_ ts.length ct), .int .i64 fo, (.slice ab bd.length cb), .int .i64 vs] 48) = wq at *
          generalize wr.heap.size = QB at *
          have r0 : wq.cell? ⟨QB, 0, none⟩ = some (.int .i64 pr) := by rw [Lib.cell_of_heap HQ.out]; rfl
          have r1 : wq.cell? ⟨QB, 1, none⟩ = some (.slice at_ ts.length ct) := by rw [Lib.cell_of_heap HQ.out]; rfl
          have r2 : wq.cell? ⟨QB, 2, none⟩ = some (.int .i64 fo) := by rw [Lib.cell_of_heap HQ.out]; rfl
          have r3 : wq.cell? ⟨QB, 3, none⟩ = some (.slice ab bd.length cb) := by rw [Lib.cell_of_heap HQ.out]; rfl
          have r4 : wq.cell? ⟨QB, 4, none⟩ = some (.int .i64 vs) := by rw [Lib.cell_of_heap HQ.out]; rfl
          have cF2 : wq.cell? ⟨FB, 2, none⟩ = some (.slice au q.length cu) := by rw [Lib.cell_of_heap HFq.out]; rfl
          refine wp_region_tail (fo9T FB (.slice au q.length cu) #[.int .i64 pr, (.slice at_ ts.length ct), .int .i64 fo, (.slice ab bd.length cb), .int .i64 vs] (⟨pr, ts, fo, bd, vs⟩ : Sc.Rule)) 5 (by decide) (by kernel_rfl) (by kernel_rfl) (by kernel_rfl) (fo9T_mono _ _ _ _) ?hop9 ?htail9
          case hop9 =>
            refine AllOps.cons (fun a y h => ?_) ?_
            · have e8 : a.eval (.tmp 8) = .pointer (some ⟨FB, 0, none⟩) := h.old 8 (by kernel_rfl)
              refine opOk_val (v := (.pointer (some ⟨FB, 2, none⟩))) (w' := y) (wanted_none rfl) ?_ (fun t ht => by cases ht; exact rfl) (Below.refl _ _)
              have ec : ∀ v, a.eval (.const v) = v := fun _ => rfl
              generalize a.eval = ev at *
              clear h
              go_simp
            refine AllOps.cons (fun a y h => ?_) ?_
            · have e40 : a.eval (.tmp 40) = .pointer (some ⟨FB, 2, none⟩) := h.of 40 (by kernel_rfl)
              have cF := cell_below h.below cF2
              refine opOk_val (v := (.slice au q.length cu)) (w' := y) (wanted_none rfl) ?_ (fun t ht => by cases ht; exact rfl) (Below.refl _ _)
              have ec : ∀ v, a.eval (.const v) = v := fun _ => rfl
              generalize a.eval = ev at *
              clear h
              go_simp
            refine AllOps.cons (fun a y h => ?_) ?_
            · have e10 : a.eval (.tmp 10) = .pointer (some ⟨QB, 0, none⟩) := h.old 10 (by kernel_rfl)
              have g0 := cell_below h.below r0
              have g1 := cell_below h.below r1
              have g2 := cell_below h.below r2
              have g3 := cell_below h.below r3
              have g4 := cell_below h.below r4
              refine opOk_val (v := (.agg #[.int .i64 pr, (.slice at_ ts.length ct), .int .i64 fo, (.slice ab bd.length cb), .int .i64 vs])) (w' := y) (wanted_none rfl) ?_ (fun t ht => by cases ht; exact rfl) (Below.refl _ _)
              have ec : ∀ v, a.eval (.const v) = v := fun _ => rfl
              generalize a.eval = ev at *
              clear h
              go_simp
            refine AllOps.cons (fun a y h => ?_) ?_
            · have e42 : a.eval (.tmp 42) = .agg #[.int .i64 pr, (.slice at_ ts.length ct), .int .i64 fo, (.slice ab bd.length cb), .int .i64 vs] := h.of 42 (by kernel_rfl)
              refine opOk_call (f := 17) (args := #[pruleVal (⟨pr, ts, fo, bd, vs⟩ : Sc.Rule) (.slice at_ ts.length ct) (.slice ab bd.length cb)]) (wanted_none rfl) ?_ ?_
              · have ef : ∀ f, a.eval (.func f) = .func (.func f) #[] #[] := fun _ => rfl
                generalize a.eval = ev at *
                clear h
                go_simp
              · have hwy := HBQ.out.trans (h.below.mono HBQ.out.size)
                refine Calls.mono (copied_any (⟨pr, ts, fo, bd, vs⟩ : Sc.Rule) _ _ y (ptermsV_below HTV.out hwy) (plitsV_below HLV.out hwy) (Nat.le_trans HTM.out.1 (by decide)) HRI.out.hl (fun x hx => Nat.le_trans (HTM.out.2 x hx) (by decide))) ?_
                rintro _ y2 ⟨ut, ub, lq, rfl, hlq, hut, hub, hb9⟩
                exact ⟨_, rfl, fun t ht => by cases ht; exact ⟨ut, ub, rfl, hut, lq, hlq, hub⟩, hb9⟩
            refine AllOps.cons (fun a y h => ?_) ?_
            · obtain ⟨ut, ub, e43, hut, lq, hlq, hub⟩ : ∃ ut ub, a.eval (.tmp 43) = pruleVal (⟨pr, ts, fo, bd, vs⟩ : Sc.Rule) ut ub ∧ OwnR y ((⟨pr, ts, fo, bd, vs⟩ : Sc.Rule), (ut, ub)) := h.of 43 (by kernel_rfl)
              have hut : TermsO y ut ts := hut
              have hub : LitsO y ub lq := hub
              obtain ⟨xa, xc, rfl⟩ := own_slice hut
              obtain ⟨ya, yc, rfl⟩ := own_slice hub.1
              have hor : OwnR (y.alloc (.cells #[.int .i64 pr, .slice xa ts.length xc, .int .i64 fo, .slice ya lq.length yc, .int .i64 vs] 48)) ((⟨pr, ts, fo, bd, vs⟩ : Sc.Rule), (.slice xa ts.length xc, .slice ya lq.length yc)) := OwnR.keep ⟨hut, lq, hlq, hub⟩ (KeepT.of_below ((Below.refl _ _).alloc (Nat.le_refl _) _))
              refine opOk_val (v := .slice (some ⟨y.heap.size, 0, none⟩) 1 1) (w' := y.alloc (.cells #[.int .i64 pr, .slice xa ts.length xc, .int .i64 fo, .slice ya lq.length yc, .int .i64 vs] 48)) (wanted_none rfl) ?_ (fun t ht => by cases ht; exact ⟨_, _, _, rfl, heap_alloc_new y _, ⟨_, _, _, rfl⟩, ⟨_, _, _, rfl⟩, hor⟩) ((Below.refl _ _).alloc (Nat.le_refl _) _)
              generalize a.eval = ev at *
              clear h hut hub hor hlq
              go_simp
            exact AllOps.nil
          case htail9 =>
            rintro ⟨tm0, df⟩ y hI
            have e41 : Act.eval ⟨tm0, df⟩ (.tmp 41) = (.slice au q.length cu) := hI.all 1 _ 41 (by decide) rfl rfl
            obtain ⟨b', ut, ub, e44, hb', ⟨xa, xn, xc, rfl⟩, ⟨ya, yn, yc, rfl⟩, hor⟩ : ∃ b' ut ub, Act.eval ⟨tm0, df⟩ (.tmp 44) = .slice (some ⟨b', 0, none⟩) 1 1 ∧ y.heap[b']? = some (.cells #[.int .i64 pr, ut, .int .i64 fo, ub, .int .i64 vs] 48) ∧ (∃ a n c, ut = .slice a n c) ∧ (∃ a n c, ub = .slice a n c) ∧ OwnR y ((⟨pr, ts, fo, bd, vs⟩ : Sc.Rule), (ut, ub)) := hI.all 4 _ 44 (by decide) rfl rfl
            have e8 : Act.eval ⟨tm0, df⟩ (.tmp 8) = .pointer (some ⟨FB, 0, none⟩) := hI.still 8 (by decide)
            have hoy := ownsRow_below HOq.out hI.below
            have hFy := (hI.below.block _ (Array.getElem?_eq_some_iff.mp HFq.out).1).trans HFq.out
            have hby : Below w2.heap.size w2 y := HB2.out.trans (hI.below.mono HB2.out.size)
            have hszF : FB + 1 ≤ y.heap.size := (Array.getElem?_eq_some_iff.mp hFy).1
            show wpOps Try.prog _ _ [5, 6, 7] _ _
            rw [wpOps_cons]
            refine wpOp_wp rfl (wanted_none rfl) (wp_append_own y (.tmp 41) (.tmp 44) 24 rfl (FB + 1) 48 i0 _ 5 72 Try.underlying24 hi hz0 hz1 hz2 rfl (by decide) (.slice au q.length cu) q.length (rCells q) e41 hoy ⟨b', 0, none⟩ 1 1 (#[.int .i64 pr, (.slice xa xn xc), .int .i64 fo, (.slice ya yn yc), .int .i64 vs]).toList e44 rfl (row_news hb') ?h1 ?h63 ?hby hszF ?_)
            case h1 =>
              intro u hu
              simp only [List.mem_cons, List.not_mem_nil, or_false] at hu
              rcases hu with rfl | rfl | rfl | rfl | rfl <;> rfl
            case h63 => unfold maxLen; omega
            case hby => omega
            intro v9 w9 ho9 hg9 _
            obtain ⟨av, cv, rfl⟩ := own_slice ho9
            have hown9 : ∀ k, ((.slice au q.length cu) : Value).ownBlock = some k → FB + 1 ≤ k := fun k hk => (hoy.lt k hk).1
            have hF9 : w9.heap[FB]? = some (.cells #[.slice ia p.arity.length ic, .slice sa p.names.length sc, (.slice au q.length cu)] 26) := (hg9.block FB (Array.getElem?_eq_some_iff.mp hFy).1 (fun e => by have := hown9 FB e.symm; omega)).trans hFy
            have hb9 : Below w2.heap.size w2 w9 := hby.grown hg9 hby.size (fun k hk => by have := hown9 k hk; omega)
            have hs49 : tm0.size = 49 := hI.size
            rw [wpOps_cons]
            refine wpOp_val (v := (.pointer (some ⟨FB, 2, none⟩))) (w' := w9) rfl (wanted_none rfl) ?_ ?_
            · have e8' : Act.eval (Act.put ⟨tm0, df⟩ (some 45) (.slice av (q.length + 1) cv)) (.tmp 8) = .pointer (some ⟨FB, 0, none⟩) := (put_get_ne (a := ⟨tm0, df⟩) (t := 45) (u := 8) (by decide)).trans e8
              show Sem.run Try.prog (execOp (Act.eval (Act.put ⟨tm0, df⟩ (some 45) (.slice av (q.length + 1) cv))) _) w9 = _
              generalize Act.eval (Act.put ⟨tm0, df⟩ (some 45) (.slice av (q.length + 1) cv)) = ev at *
              clear hI hor
              go_simp
            have e46 : Act.eval (Act.put (Act.put ⟨tm0, df⟩ (some 45) (.slice av (q.length + 1) cv)) (some 46) (.pointer (some ⟨FB, 2, none⟩))) (.tmp 46) = (.pointer (some ⟨FB, 2, none⟩)) := put_get_self (by rw [put_size]; show 46 < tm0.size; omega)
            have e45 : Act.eval (Act.put (Act.put ⟨tm0, df⟩ (some 45) (.slice av (q.length + 1) cv)) (some 46) (.pointer (some ⟨FB, 2, none⟩))) (.tmp 45) = (.slice av (q.length + 1) cv) := (put_get_ne (by decide)).trans (put_get_self (by show 45 < tm0.size; omega))
            have cF9 : w9.cell? ⟨FB, 2, none⟩ = some (.slice au q.length cu) := by rw [Lib.cell_of_heap hF9]; rfl
            have fF9 := Lib.frozen_of_heap hF9 2
            rw [wpOps_cons]
            refine wpOp_void rfl (wanted_none rfl) rfl (w' := (w9.setCell ⟨FB, 2, none⟩ (.slice av (q.length + 1) cv))) ?_ ?_
            · show Sem.run Try.prog (execOp (Act.eval (Act.put (Act.put ⟨tm0, df⟩ (some 45) (.slice av (q.length + 1) cv)) (some 46) (.pointer (some ⟨FB, 2, none⟩)))) _) w9 = _
              generalize Act.eval (Act.put (Act.put ⟨tm0, df⟩ (some 45) (.slice av (q.length + 1) cv)) (some 46) (.pointer (some ⟨FB, 2, none⟩))) = ev at *
              clear hI hor
              go_simp
            have ot : ∀ (e : TypeId), e ≠ 26 → e ≠ 48 → ∀ (k : Nat) (a : Array Value), y.heap[k]? = some (.cells a e) → (w9.setCell ⟨FB, 2, none⟩ (.slice av (q.length + 1) cv)).heap[k]? = some (.cells a e) := fun e he he2 k a ha => by
              have hk : ¬ k = FB := fun hk => by rw [hk, hFy] at ha; injection ha with ha; injection ha with _ ha _; exact he ha.symm
              rw [heap_set_other hk]
              exact (hg9.block k (Array.getElem?_eq_some_iff.mp ha).1 (fun e9 => he2 (own_ty hoy e9.symm ha))).trans ha
            have hkt : KeepT y (w9.setCell ⟨FB, 2, none⟩ (.slice av (q.length + 1) cv)) := fun k a t ha ht => ot t (by rcases ht with rfl | rfl <;> decide) (by rcases ht with rfl | rfl <;> decide) k a ha
            have HN : Hid (∃ q' : List Rv, q'.length = q.length + 1 ∧ (w9.setCell ⟨FB, 2, none⟩ (.slice av (q.length + 1) cv)).heap[FB]? = some (.cells #[.slice ia p.arity.length ic, .slice sa p.names.length sc, (.slice av (q.length + 1) cv)] 26) ∧ (w9.setCell ⟨FB, 2, none⟩ (.slice av (q.length + 1) cv)).ownsRow (FB + 1) 48 5 (.slice av (q.length + 1) cv) q'.length (rCells q') ∧ q'.map (·.1) = q.map (·.1) ++ [(⟨pr, ts, fo, bd, vs⟩ : Sc.Rule)] ∧ (∀ x, x ∈ q' → OwnR (w9.setCell ⟨FB, 2, none⟩ (.slice av (q.length + 1) cv)) x) ∧ Ow3 (w9.setCell ⟨FB, 2, none⟩ (.slice av (q.length + 1) cv)) (.slice ia p.arity.length ic) p.arity ∧ Ow9 (w9.setCell ⟨FB, 2, none⟩ (.slice av (q.length + 1) cv)) (.slice sa p.names.length sc) p.names ∧ Below w2.heap.size w2 (w9.setCell ⟨FB, 2, none⟩ (.slice av (q.length + 1) cv))) := by
              refine ⟨q ++ [((⟨pr, ts, fo, bd, vs⟩ : Sc.Rule), ((.slice xa xn xc), (.slice ya yn yc)))], by simp, ?_, ?_, by simp, fun x hx => ?_, own_type (ownsRow_below HI3q.out hI.below) (ot 3 (by decide) (by decide)), own_type (ownsRow_below HI9q.out hI.below) (ot 9 (by decide) (by decide)), hb9.setCell (p := ⟨FB, 2, none⟩) hF0 _⟩
              · rw [Lib.heap_setCell_same hF9]; rfl
              · refine rl_own_alone ?_ (fun g hg => heap_set_other (fun e => ?_)) (w := w9)
                · rw [List.length_append]
                  show w9.ownsRow (FB + 1) 48 5 (.slice av (q.length + 1) cv) (q.length + 1) (rCells (q ++ [((⟨pr, ts, fo, bd, vs⟩ : Sc.Rule), ((.slice xa xn xc), (.slice ya yn yc)))]))
                  rw [show rCells (q ++ [((⟨pr, ts, fo, bd, vs⟩ : Sc.Rule), ((.slice xa xn xc), (.slice ya yn yc)))]) = rCells q ++ rvCells ((⟨pr, ts, fo, bd, vs⟩ : Sc.Rule), ((.slice xa xn xc), (.slice ya yn yc))) by simp [rCells]]
                  exact ho9
                · have := (ho9.lt g hg).1
                  omega
              · rcases List.mem_append.mp hx with h | h
                · exact ((HQVq.out x h).keep (KeepT.of_below hI.below)).keep hkt
                · rw [List.mem_singleton.mp h]
                  exact hor.keep hkt
            have hst : ∀ t, t ∉ [40, 41, 42, 43, 44, 45, 46] → ((tm0.setIfInBounds 45 (.slice av (q.length + 1) cv)).setIfInBounds 46 (.pointer (some ⟨FB, 2, none⟩))).getD t undef = _ := fun t ht => by
              have h46 : t ≠ 46 := fun e => ht (by rw [e]; decide)
              have h45 : t ≠ 45 := fun e => ht (by rw [e]; decide)
              exact ((put_get_ne (a := (Act.put ⟨tm0, df⟩ (some 45) (.slice av (q.length + 1) cv))) h46).trans (put_get_ne (a := ⟨tm0, df⟩) h45)).trans (hI.still t ht)
            obtain rfl : df = [] := hI.defers
            clear hI e41 e44 hb' hor e8 hoy hFy hby hszF ho9 hg9 hown9 hF9 hb9 e46 e45 cF9 fF9 ot hkt
            generalize (w9.setCell ⟨FB, 2, none⟩ (.slice av (q.length + 1) cv)) = y9 at *
            have hs2 : ((tm0.setIfInBounds 45 (.slice av (q.length + 1) cv)).setIfInBounds 46 (.pointer (some ⟨FB, 2, none⟩))).size = 49 := by simp [hs49]
            show Exit.inBlock 1 (Exit.then _ _) Exit.normal ⟨(tm0.setIfInBounds 45 (.slice av (q.length + 1) cv)).setIfInBounds 46 (.pointer (some ⟨FB, 2, none⟩)), []⟩ y9
            generalize (tm0.setIfInBounds 45 (.slice av (q.length + 1) cv)).setIfInBounds 46 (.pointer (some ⟨FB, 2, none⟩)) = tm at *
            have hF8 := tmps_fold [40, 41, 42, 43, 44, 45, 46] tm _ (hs2.trans (by rfl)) hst
            clear hs2 hst hs49
            simp only [List.foldl_cons, List.foldl_nil] at hF8
            generalize tm.getD 40 undef = x40 at hF8
            generalize tm.getD 41 undef = x41 at hF8
            generalize tm.getD 42 undef = x42 at hF8
            generalize tm.getD 43 undef = x43 at hF8
            generalize tm.getD 44 undef = x44 at hF8
            generalize tm.getD 45 undef = x45 at hF8
            generalize tm.getD 46 undef = x46 at hF8
            simp only [List.setIfInBounds_toArray, List.set_cons_zero, List.set_cons_succ] at hF8
            subst hF8
            clear r0 r1 r2 r3 r4 cF2
            go_wp2_with fail
            go_roundw
            case rel =>
              obtain ⟨q', h1, h2, h3, h4, h5, h6, h7, h8⟩ := HN.out
              exact ⟨k + 1, q', _, hlt, by go_num, by omega, h2, h3, by rw [h4, HQM.out, HFI.out]; rfl, h5, h6, h7, h8⟩
            case measure => simp [intOf]; omega
        · obtain rfl : k = p.rules.length := by omega
          have g0 : wr.cell? ⟨FB, 0, none⟩ = some (.slice ia p.arity.length ic) := by rw [Lib.cell_of_heap HF.out]; rfl
          have g1 : wr.cell? ⟨FB, 1, none⟩ = some (.slice sa p.names.length sc) := by rw [Lib.cell_of_heap HF.out]; rfl
          have g2 : wr.cell? ⟨FB, 2, none⟩ = some (.slice au q.length cu) := by rw [Lib.cell_of_heap HF.out]; rfl
          have k0 := HZR.out
          have z0 : wr.cell? ⟨w.heap.size + 1, 0, none⟩ = some (.slice none 0 0) := by rw [Lib.cell_of_heap k0]; rfl
          have y0 := Lib.frozen_of_heap k0 0
          have k1 : (wr.setCell ⟨w.heap.size + 1, 0, none⟩ (.slice ia p.arity.length ic)).heap[w.heap.size + 1]? = some (.cells #[.slice ia p.arity.length ic, .slice none 0 0, .slice none 0 0] 26) := by rw [Lib.heap_setCell_same k0]; rfl
          have z1 : (wr.setCell ⟨w.heap.size + 1, 0, none⟩ (.slice ia p.arity.length ic)).cell? ⟨w.heap.size + 1, 1, none⟩ = some (.slice none 0 0) := by rw [Lib.cell_of_heap k1]; rfl
          have y1 := Lib.frozen_of_heap k1 1
          have k2 : ((wr.setCell ⟨w.heap.size + 1, 0, none⟩ (.slice ia p.arity.length ic)).setCell ⟨w.heap.size + 1, 1, none⟩ (.slice sa p.names.length sc)).heap[w.heap.size + 1]? = some (.cells #[.slice ia p.arity.length ic, .slice sa p.names.length sc, .slice none 0 0] 26) := by rw [Lib.heap_setCell_same k1]; rfl
          have z2 : ((wr.setCell ⟨w.heap.size + 1, 0, none⟩ (.slice ia p.arity.length ic)).setCell ⟨w.heap.size + 1, 1, none⟩ (.slice sa p.names.length sc)).cell? ⟨w.heap.size + 1, 2, none⟩ = some (.slice none 0 0) := by rw [Lib.cell_of_heap k2]; rfl
          have y2 := Lib.frozen_of_heap k2 2
          have k3 : (((wr.setCell ⟨w.heap.size + 1, 0, none⟩ (.slice ia p.arity.length ic)).setCell ⟨w.heap.size + 1, 1, none⟩ (.slice sa p.names.length sc)).setCell ⟨w.heap.size + 1, 2, none⟩ (.slice au q.length cu)).heap[w.heap.size + 1]? = some (.cells #[.slice ia p.arity.length ic, .slice sa p.names.length sc, .slice au q.length cu] 26) := by rw [Lib.heap_setCell_same k2]; rfl
          have d0 : (((wr.setCell ⟨w.heap.size + 1, 0, none⟩ (.slice ia p.arity.length ic)).setCell ⟨w.heap.size + 1, 1, none⟩ (.slice sa p.names.length sc)).setCell ⟨w.heap.size + 1, 2, none⟩ (.slice au q.length cu)).cell? ⟨w.heap.size + 1, 0, none⟩ = some (.slice ia p.arity.length ic) := by rw [Lib.cell_of_heap k3]; rfl
          have d1 : (((wr.setCell ⟨w.heap.size + 1, 0, none⟩ (.slice ia p.arity.length ic)).setCell ⟨w.heap.size + 1, 1, none⟩ (.slice sa p.names.length sc)).setCell ⟨w.heap.size + 1, 2, none⟩ (.slice au q.length cu)).cell? ⟨w.heap.size + 1, 1, none⟩ = some (.slice sa p.names.length sc) := by rw [Lib.cell_of_heap k3]; rfl
          have d2 : (((wr.setCell ⟨w.heap.size + 1, 0, none⟩ (.slice ia p.arity.length ic)).setCell ⟨w.heap.size + 1, 1, none⟩ (.slice sa p.names.length sc)).setCell ⟨w.heap.size + 1, 2, none⟩ (.slice au q.length cu)).cell? ⟨w.heap.size + 1, 2, none⟩ = some (.slice au q.length cu) := by rw [Lib.cell_of_heap k3]; rfl
          have HBB : Hid (Below w.heap.size w (((wr.setCell ⟨w.heap.size + 1, 0, none⟩ (.slice ia p.arity.length ic)).setCell ⟨w.heap.size + 1, 1, none⟩ (.slice sa p.names.length sc)).setCell ⟨w.heap.size + 1, 2, none⟩ (.slice au q.length cu))) := (((HBW.out.setCell (p := ⟨w.heap.size + 1, 0, none⟩) (Nat.le_succ _) (.slice ia p.arity.length ic)).setCell (p := ⟨w.heap.size + 1, 1, none⟩) (Nat.le_succ _) (.slice sa p.names.length sc)).setCell (p := ⟨w.heap.size + 1, 2, none⟩) (Nat.le_succ _) (.slice au q.length cu))
          have hZw := (Array.getElem?_eq_some_iff.mp HZ2.out).1
          have ot : ∀ (e : TypeId), e ≠ 26 → ∀ (k : Nat) (a : Array Value), wr.heap[k]? = some (.cells a e) → (((wr.setCell ⟨w.heap.size + 1, 0, none⟩ (.slice ia p.arity.length ic)).setCell ⟨w.heap.size + 1, 1, none⟩ (.slice sa p.names.length sc)).setCell ⟨w.heap.size + 1, 2, none⟩ (.slice au q.length cu)).heap[k]? = some (.cells a e) := fun e he k a ha => by
            have hk : ¬ k = w.heap.size + 1 := fun hk => by rw [hk, HZR.out] at ha; injection ha with ha; injection ha with _ ha _; exact he ha.symm
            rw [heap_set_other hk, heap_set_other hk, heap_set_other hk]
            exact ha
          have HPV : Hid (ProgV (((wr.setCell ⟨w.heap.size + 1, 0, none⟩ (.slice ia p.arity.length ic)).setCell ⟨w.heap.size + 1, 1, none⟩ (.slice sa p.names.length sc)).setCell ⟨w.heap.size + 1, 2, none⟩ (.slice au q.length cu)) (.slice ia p.arity.length ic) (.slice sa p.names.length sc) (.slice au q.length cu) (St.focus p q0)) := by
            refine ⟨own_ints (own_type HI3.out (ot 3 (by decide))), own_strs (own_type HI9.out (ot 9 (by decide))), ?_⟩
            have h9 := rules_toV (own_type HO.out (ot 48 (by decide))) (fun x hx => OwnR.toV (OwnR.keep (HQV.out x hx) (fun k a t ha ht => ot t (by rcases ht with rfl | rfl <;> decide) k a ha)))
            rw [HQM.out, List.take_length] at h9
            exact h9
          clear k0 k1 k2 k3 ot hZw
          go_wp2_with fail
          refine bodyPost_ret (v := .tuple #[progVal (.slice ia p.arity.length ic) (.slice sa p.names.length sc) (.slice au q.length cu), .int .i64 0]) (by simp [results, Try.results6, go_sem, d0, d1, d2]) rfl ⟨_, _, _, by rw [HNE.out], ?_, HBB.out⟩
          rw [HFO.out]
          exact HPV.out
  · have hnd : (St.needErr p pd == 0) = false := by simp [hne]
    have HFO : Hid (St.focOut p pd = ⟨[], [], []⟩) := by show _ = _; unfold St.focOut; rw [if_neg hne]
    have k0 := hZ2
    have z0 : w2.cell? ⟨w.heap.size + 1, 0, none⟩ = some (.slice none 0 0) := by rw [Lib.cell_of_heap k0]; rfl
    have y0 := Lib.frozen_of_heap k0 0
    have k1 : (w2.setCell ⟨w.heap.size + 1, 0, none⟩ (.slice none 0 0)).heap[w.heap.size + 1]? = some (.cells #[.slice none 0 0, .slice none 0 0, .slice none 0 0] 26) := by rw [Lib.heap_setCell_same k0]; rfl
    have z1 : (w2.setCell ⟨w.heap.size + 1, 0, none⟩ (.slice none 0 0)).cell? ⟨w.heap.size + 1, 1, none⟩ = some (.slice none 0 0) := by rw [Lib.cell_of_heap k1]; rfl
    have y1 := Lib.frozen_of_heap k1 1
    have k2 : ((w2.setCell ⟨w.heap.size + 1, 0, none⟩ (.slice none 0 0)).setCell ⟨w.heap.size + 1, 1, none⟩ (.slice none 0 0)).heap[w.heap.size + 1]? = some (.cells #[.slice none 0 0, .slice none 0 0, .slice none 0 0] 26) := by rw [Lib.heap_setCell_same k1]; rfl
    have z2 : ((w2.setCell ⟨w.heap.size + 1, 0, none⟩ (.slice none 0 0)).setCell ⟨w.heap.size + 1, 1, none⟩ (.slice none 0 0)).cell? ⟨w.heap.size + 1, 2, none⟩ = some (.slice none 0 0) := by rw [Lib.cell_of_heap k2]; rfl
    have y2 := Lib.frozen_of_heap k2 2
    have k3 : (((w2.setCell ⟨w.heap.size + 1, 0, none⟩ (.slice none 0 0)).setCell ⟨w.heap.size + 1, 1, none⟩ (.slice none 0 0)).setCell ⟨w.heap.size + 1, 2, none⟩ (.slice none 0 0)).heap[w.heap.size + 1]? = some (.cells #[.slice none 0 0, .slice none 0 0, .slice none 0 0] 26) := by rw [Lib.heap_setCell_same k2]; rfl
    have d0 : (((w2.setCell ⟨w.heap.size + 1, 0, none⟩ (.slice none 0 0)).setCell ⟨w.heap.size + 1, 1, none⟩ (.slice none 0 0)).setCell ⟨w.heap.size + 1, 2, none⟩ (.slice none 0 0)).cell? ⟨w.heap.size + 1, 0, none⟩ = some (.slice none 0 0) := by rw [Lib.cell_of_heap k3]; rfl
    have d1 : (((w2.setCell ⟨w.heap.size + 1, 0, none⟩ (.slice none 0 0)).setCell ⟨w.heap.size + 1, 1, none⟩ (.slice none 0 0)).setCell ⟨w.heap.size + 1, 2, none⟩ (.slice none 0 0)).cell? ⟨w.heap.size + 1, 1, none⟩ = some (.slice none 0 0) := by rw [Lib.cell_of_heap k3]; rfl
    have d2 : (((w2.setCell ⟨w.heap.size + 1, 0, none⟩ (.slice none 0 0)).setCell ⟨w.heap.size + 1, 1, none⟩ (.slice none 0 0)).setCell ⟨w.heap.size + 1, 2, none⟩ (.slice none 0 0)).cell? ⟨w.heap.size + 1, 2, none⟩ = some (.slice none 0 0) := by rw [Lib.cell_of_heap k3]; rfl
    have HBB : Hid (Below w.heap.size w (((w2.setCell ⟨w.heap.size + 1, 0, none⟩ (.slice none 0 0)).setCell ⟨w.heap.size + 1, 1, none⟩ (.slice none 0 0)).setCell ⟨w.heap.size + 1, 2, none⟩ (.slice none 0 0))) := (((hbw2.setCell (p := ⟨w.heap.size + 1, 0, none⟩) (Nat.le_succ _) (.slice none 0 0)).setCell (p := ⟨w.heap.size + 1, 1, none⟩) (Nat.le_succ _) (.slice none 0 0)).setCell (p := ⟨w.heap.size + 1, 2, none⟩) (Nat.le_succ _) (.slice none 0 0))
    clear k0 k1 k2 k3 hne
    go_wp2_with fail
    refine bodyPost_ret (v := .tuple #[progVal (.slice none 0 0) (.slice none 0 0) (.slice none 0 0), .int .i64 (St.needErr p pd)]) (by simp [results, Try.results6, go_sem, d0, d1, d2]) rfl ⟨_, _, _, rfl, ?_, HBB.out⟩
    rw [HFO.out]
    exact ⟨⟨none, 0, rfl, .inl rfl⟩, ⟨none, 0, rfl, .inl rfl⟩, ⟨none, 0, rfl, .inl rfl⟩⟩

end Go.Proofs.Ythenjegmigeieaa

/- A focus of a right program is right, and its own focus. -/
namespace Go.Proofs.Ythenjegmigeieaa
open Go.RowKit

theorem first_of_all {α : Type} {f : α → Int} : ∀ {l : List α}, (∀ x, x ∈ l → f x = 0) → Sc.first f l = 0 := by
  intro l
  induction l with
  | nil => intro _; rfl
  | cons x r ih =>
    intro h
    unfold Sc.first
    rw [if_pos (h x (List.mem_cons_self))]
    exact ih fun y hy => h y (List.mem_cons_of_mem _ hy)
namespace St
theorem check_focus {p : Sc.Prog} (k : Nat) (h : Sc.check p = 0) : Sc.check (focus p k) = 0 := by
  unfold Sc.check at h
  split at h
  · omega
  · rename_i h1
    split at h
    · omega
    · rename_i h2
      obtain ⟨h3, h4⟩ := thn_zero_iff h
      have hl : (focus p k).rules.length ≤ p.rules.length := List.length_filter_le _ _
      have ha : (focus p k).arity = p.arity := rfl
      have hn : (focus p k).names = p.names := rfl
      unfold Sc.check
      rw [ha, hn, if_neg (by omega), if_neg h2, h3]
      unfold Sc.thn
      rw [if_pos rfl]
      exact first_of_all fun r hr => first_zero h4 r (List.mem_filter.mp hr).1
theorem focOut_in {p : Sc.Prog} {k : Int} (h : needErr p k = 0) : focOut p k = focus p k.toNat := if_pos h
theorem needErr_foc {p : Sc.Prog} {k : Int} (h : needErr p k = 0) : needErr (focOut p k) k = 0 := by
  obtain ⟨hc, hi⟩ := needErr_cases p k h
  rw [focOut_in h]
  exact (needErr_in (check_focus k.toNat hc) hi).1
theorem focOut_foc {p : Sc.Prog} {k : Int} (h : needErr p k = 0) : focOut (focOut p k) k = focOut p k := by
  obtain ⟨hc, hi⟩ := needErr_cases p k h
  have hk : k.toNat < p.arity.length := by
    have h2 : 0 ≤ k ∧ k < (p.arity.length : Int) := by simpa [isIn] using hi
    omega
  rw [focOut_in (needErr_foc h), focOut_in h]
  exact focus_focus hk (back_in (check_in hc).2.2)
theorem levOut_least {p : Sc.Prog} {o : List Int} (h : levErr p = 0) (hf : fits p o) (i : Nat) : (levOut p).getD i 0 ≤ o.getD i 0 := by
  unfold levErr at h
  split at h
  · rename_i hc
    split at h
    · rename_i hfl
      rw [(levErr_flat hc hfl).2]
      exact least hf i
    · omega
  · rename_i hc
    exact absurd h hc
theorem levErr_fits {p : Sc.Prog} {o : List Int} (hc : Sc.check p = 0) (hf : fits p o) : levErr p = 0 :=
  (levErr_flat hc (flat_of_fits (edges_in (check_in hc).2.2) hf)).1
theorem levOut_fits {p : Sc.Prog} (h : levErr p = 0) : fits p (levOut p) := by
  unfold levErr at h
  split at h
  · rename_i hc
    split at h
    · rename_i hfl
      rw [(levErr_flat hc hfl).2]
      exact fits_level (edges_in (check_in hc).2.2) hfl
    · omega
  · rename_i hc
    exact absurd h hc
end St
end Go.Proofs.Ythenjegmigeieaa

/- fits: are numbers such as levels must be? -/
namespace Go.Proofs.Ythenjegmigeieaa
open Go.RowKit

namespace St
def litFit (o : List Int) (r : Sc.Rule) (x : Sc.Lit) : Bool := !hang x || decide (o.getD x.pred.toNat 0 + strict r x ≤ o.getD r.pred.toNat 0)
def fitsB (p : Sc.Prog) (o : List Int) : Bool := decide (o.length = p.arity.length) && (o.all (fun n => decide (0 ≤ n)) && p.rules.all fun r => r.body.all (litFit o r))
theorem fitsB_iff (p : Sc.Prog) (o : List Int) : fitsB p o = true ↔ fits p o := by
  unfold fitsB fits
  rw [Bool.and_eq_true, Bool.and_eq_true, decide_eq_true_eq]
  refine and_congr Iff.rfl (and_congr ?_ ?_)
  · rw [List.all_eq_true]
    constructor
    · intro h i
      rw [List.getD_eq_getElem?_getD]
      cases hi : o[i]? with
      | none => exact Int.le_refl _
      | some v => exact of_decide_eq_true (h v (List.mem_of_getElem? hi))
    · intro h v hv
      obtain ⟨i, hi, rfl⟩ := List.mem_iff_getElem.mp hv
      have := h i
      rw [List.getD_eq_getElem?_getD, List.getElem?_eq_getElem hi] at this
      exact decide_eq_true this
  · rw [List.all_eq_true]
    constructor
    · intro h e he
      obtain ⟨r, hr, h2⟩ := List.mem_flatMap.mp he
      obtain ⟨x, hx, rfl⟩ := List.mem_map.mp h2
      obtain ⟨hx1, hx2⟩ := List.mem_filter.mp hx
      have := List.all_eq_true.mp (h r hr) x hx1
      unfold litFit at this
      rw [hx2] at this
      exact of_decide_eq_true (by simpa using this)
    · intro h r hr
      rw [List.all_eq_true]
      intro x hx
      unfold litFit
      cases hh : hang x with
      | false => rfl
      | true =>
        have := h (r.pred.toNat, x.pred.toNat, strict r x) (List.mem_flatMap.mpr ⟨r, hr, List.mem_map.mpr ⟨x, List.mem_filter.mpr ⟨hx, hh⟩, rfl⟩⟩)
        simpa using this
end St
theorem allDrop {α : Type} (f : α → Bool) (d : α) (l : List α) (k : Nat) (h : k < l.length) : (l.drop k).all f = (f (l.getD k d) && (l.drop (k + 1)).all f) := by
  rw [List.drop_eq_getElem_cons h, List.all_cons, List.getD_eq_getElem?_getD, List.getElem?_eq_getElem h]
  rfl
theorem allEnd {α : Type} (f : α → Bool) (l : List α) : (l.drop l.length).all f = true := by rw [List.drop_length]; rfl

theorem blw_drewN (w : World) (n : Nat) : Below w.heap.size w (w.drewN n) := ⟨rfl, rfl, rfl, Nat.le_refl _, fun _ _ => rfl⟩
set_option maxRecDepth 100000 in
set_option maxHeartbeats 4000000 in
theorem fits_any (p : Sc.Prog) (o : List Int) (va vn vr vo : Value) (w : World) (hP : ProgV w va vn vr p) (hO : IntsV w vo o) (hol : o.length ≤ 9223372036854775807) (hc : Sc.check p = 0) :
    Calls Try.prog 9 #[progVal va vn vr, vo] w fun e w' => e = .returned (.bool (St.fitsB p o)) ∧ Below w.heap.size w w' := by
  obtain ⟨a0, n0, rfl, _⟩ := id hP.ar
  obtain ⟨a1, n1, rfl, _⟩ := id hP.nm
  obtain ⟨a2, n2, rfl, hA2⟩ := id hP.rl
  obtain ⟨ao, co, rfl, hOA⟩ := hO
  obtain ⟨hn, hr, hR⟩ := St.check_in hc
  have HK : Hid _ := St.check_kinds hc
  have HR : Hid _ := hR
  have HA2 : Hid _ := hA2
  have HOA : Hid _ := hOA
  have b0 := (Below.refl w.heap.size w).alloc (Nat.le_refl _) (.cells #[.slice a0 p.arity.length n0, .slice a1 p.names.length n1, .slice a2 p.rules.length n2] 26)
  have hX := heap_alloc_new w (.cells #[.slice a0 p.arity.length n0, .slice a1 p.names.length n1, .slice a2 p.rules.length n2] 26)
  have HB0 : Hid _ := b0
  have HX : Hid _ := hX
  clear b0 hX hP hR hA2 hc hOA
  by_cases hl : o.length = p.arity.length
  · have hld : ((o.length : Int) == (p.arity.length : Int)) = true := by rw [hl]; simp
    have hon : o.length ≤ 10 := by omega
    have HE : Hid (St.fitsB p o = (o.all (fun n => decide (0 ≤ n)) && p.rules.all fun r => r.body.all (St.litFit o r))) := by
      show _ = _
      unfold St.fitsB
      rw [decide_eq_true hl]
      rfl
    have HLN : Hid _ := hl
    clear hl
    go_enter Try.func9, Try.ntmps9
    go_wp2_with fail
    generalize w.alloc (.cells #[.slice a0 p.arity.length n0, .slice a1 p.names.length n1, .slice a2 p.rules.length n2] 26) = w1 at *
    go_loop [5] (fun i5 => ∃ k : Nat, k ≤ o.length ∧ i5 = .int .i64 k ∧ Hid (o.all (fun n => decide (0 ≤ n)) = (o.drop k).all (fun n => decide (0 ≤ n)))) (fun i5 => o.length - (intOf i5).toNat)
    case atStart => exact ⟨0, Nat.zero_le _, rfl, rfl⟩
    case round =>
      obtain ⟨k, hk, rfl, HI⟩ := hrel
      by_cases hlt : k < o.length
      · obtain ⟨b, off, rfl, q0⟩ := ints_at HOA.out k hlt
        have c0 := cell_below HB0.out q0
        have HD : Hid ((o.drop k).all (fun n => decide (0 ≤ n)) = (decide (0 ≤ Sc.intD o k) && (o.drop (k + 1)).all (fun n => decide (0 ≤ n)))) := allDrop _ 0 o k hlt
        clear q0
        generalize Sc.intD o k = v at *
        by_cases hv : v < 0
        · have hvd : decide (v < 0) = true := decide_eq_true hv
          have HF : Hid (decide (0 ≤ v) = false) := decide_eq_false (by omega)
          clear hv
          go_wp2_with fail
          go_ret
          exact ⟨by rw [HE.out, HI.out, HD.out, HF.out]; rfl, HB0.out⟩
        · have hvd : decide (v < 0) = false := decide_eq_false hv
          have HF : Hid (decide (0 ≤ v) = true) := decide_eq_true (by omega)
          clear hv
          go_wp2_with fail
          go_round
          case rel => exact ⟨k + 1, hlt, by go_num, by show _ = _; rw [HI.out, HD.out, HF.out]; rfl⟩
          case measure => simp [intOf]; omega
      · obtain rfl : k = o.length := by omega
        have HE2 : Hid (St.fitsB p o = p.rules.all fun r => r.body.all (St.litFit o r)) := by show _ = _; rw [HE.out, HI.out, allEnd]; rfl
        clear HI HE
        have c2 : w1.cell? ⟨w.heap.size, 2, none⟩ = some (.slice a2 p.rules.length n2) := by rw [Lib.cell_of_heap HX.out]; rfl
        have hdd : decide (o.length < o.length) = false := decide_eq_false (Nat.lt_irrefl _)
        go_wp2_with fail
        clear c2
        go_loopw [6] (fun i6 wr => ∃ i : Nat, i ≤ p.rules.length ∧ i6 = .int .i64 i ∧ Hid (Below w1.heap.size w1 wr) ∧ Hid (St.fitsB p o = (p.rules.drop i).all fun r => r.body.all (St.litFit o r))) (fun i6 _ => p.rules.length - (intOf i6).toNat)
        case atStart => exact ⟨0, Nat.zero_le _, rfl, Below.refl _ _, HE2.out⟩
        case round =>
          obtain ⟨i, hi, rfl, HBW, HF⟩ := hrel
          have hXr := (HBW.out.block _ (Array.getElem?_eq_some_iff.mp HX.out).1).trans HX.out
          have c2 : wr.cell? ⟨w.heap.size, 2, none⟩ = some (.slice a2 p.rules.length n2) := by rw [Lib.cell_of_heap hXr]; rfl
          have HBR : Hid (Below w.heap.size w wr) := HB0.out.trans (HBW.out.mono HB0.out.size)
          clear hXr
          by_cases hil : i < p.rules.length
          · obtain ⟨b, off, rfl, p0, ⟨vt, p1, hT⟩, p2, ⟨vb, p3, hLL⟩, p4⟩ := prules_at HA2.out i hil
            obtain ⟨at_, ct, rfl, _⟩ := hT
            obtain ⟨ab, cb, rfl, hLL⟩ := hLL
            have HLL : Hid _ := hLL
            have HRI : Hid (St.RuleIn p.arity.length (Sc.ruleD p.rules i)) := HR.out _ (ruleD_mem hil)
            have HKI : Hid _ := HK.out _ (ruleD_mem hil)
            have HD : Hid ((p.rules.drop i).all (fun r => r.body.all (St.litFit o r)) = ((Sc.ruleD p.rules i).body.all (St.litFit o (Sc.ruleD p.rules i)) && (p.rules.drop (i + 1)).all fun r => r.body.all (St.litFit o r))) := allDrop _ _ p.rules i hil
            have q0 := cell_below HBR.out p0
            have q1 := cell_below HBR.out p1
            have q2 := cell_below HBR.out p2
            have q3 := cell_below HBR.out p3
            have q4 := cell_below HBR.out p4
            clear p0 p1 p2 p3 p4 hLL
            generalize Sc.ruleD p.rules i = r at *
            obtain ⟨pd, ts, fo, bd, vs⟩ := r
            obtain ⟨pr, rfl⟩ : ∃ pr : Nat, pd = pr := ⟨pd.toNat, by have := HRI.out.h0; dsimp only at this; omega⟩
            dsimp only at *
            have hpn : pr < o.length := by have := HRI.out.h1; dsimp only at this; rw [HLN.out]; omega
            have hfo : 0 ≤ fo := HKI.out.1
            have hbd : bd.length ≤ 4 := HRI.out.hl
            go_wp2_with fail
            have b5 := (Below.refl wr.heap.size wr).alloc (Nat.le_refl _) (.cells #[.int .i64 pr, .slice at_ ts.length ct, .int .i64 fo, .slice ab bd.length cb, .int .i64 vs] 48)
            have HQ : Hid _ := heap_alloc_new wr (.cells #[.int .i64 pr, .slice at_ ts.length ct, .int .i64 fo, .slice ab bd.length cb, .int .i64 vs] 48)
            have HB5 : Hid _ := HBR.out.trans (b5.mono HBR.out.size)
            have HBW5 : Hid _ := HBW.out.trans (b5.mono HBW.out.size)
            clear q0 q1 q2 q3 q4 c2 b5
            generalize wr.alloc (.cells #[.int .i64 pr, .slice at_ ts.length ct, .int .i64 fo, .slice ab bd.length cb, .int .i64 vs] 48) = wq at *
            generalize wr.heap.size = QB at *
            go_loopw [8] (fun i8 wx => ∃ j : Nat, j ≤ bd.length ∧ i8 = .int .i64 j ∧ Hid (Below wq.heap.size wq wx) ∧ Hid (St.fitsB p o = ((bd.drop j).all (St.litFit o ⟨pr, ts, fo, bd, vs⟩) && (p.rules.drop (i + 1)).all fun r => r.body.all (St.litFit o r)))) (fun i8 _ => bd.length - (intOf i8).toNat)
            case atStart => exact ⟨0, Nat.zero_le _, rfl, Below.refl _ _, by show _ = _; rw [HF.out, HD.out]; rfl⟩
            case round =>
              obtain ⟨wx, hwx⟩ : ∃ wx, wx = wr := ⟨_, rfl⟩
              obtain ⟨j, hj, rfl, HBX, HG⟩ := hrel
              have hQr := (HBX.out.block _ (Array.getElem?_eq_some_iff.mp HQ.out).1).trans HQ.out
              have e0 : wr.cell? ⟨QB, 0, none⟩ = some (.int .i64 pr) := by rw [Lib.cell_of_heap hQr]; rfl
              have e2 : wr.cell? ⟨QB, 2, none⟩ = some (.int .i64 fo) := by rw [Lib.cell_of_heap hQr]; rfl
              have e3 : wr.cell? ⟨QB, 3, none⟩ = some (.slice ab bd.length cb) := by rw [Lib.cell_of_heap hQr]; rfl
              have HBY : Hid (Below w.heap.size w wr) := HB5.out.trans (HBX.out.mono HB5.out.size)
              have HBZ : Hid (Below w1.heap.size w1 wr) := HBW5.out.trans (HBX.out.mono HBW5.out.size)
              clear hQr hwx
              by_cases hjl : j < bd.length
              · obtain ⟨b', off', rfl, p0, p1, p2, lv, p3, hT⟩ := plits_at HLL.out j hjl
                obtain ⟨al, cl, rfl, _, _⟩ := hT
                have q0 := cell_below HBY.out p0
                have q1 := cell_below HBY.out p1
                have q2 := cell_below HBY.out p2
                have q3 := cell_below HBY.out p3
                have HKL : Hid _ := HKI.out.2 _ (litD_mem hjl)
                have HBL : Hid _ := HRI.out.hb _ (litD_mem hjl)
                have HDL : Hid ((bd.drop j).all (St.litFit o ⟨pr, ts, fo, bd, vs⟩) = (St.litFit o ⟨pr, ts, fo, bd, vs⟩ (Sc.litD bd j) && (bd.drop (j + 1)).all (St.litFit o ⟨pr, ts, fo, bd, vs⟩))) := allDrop _ _ bd j hjl
                clear p0 p1 p2 p3
                dsimp only at *
                generalize Sc.litD bd j = x at *
                obtain ⟨kd, op, xp, lt⟩ := x
                dsimp only at *
                have HB9 : Hid _ := HBX.out.trans (((Below.refl wr.heap.size wr).alloc (Nat.le_refl _) (.cells #[.int .i64 kd, .int .i64 op, .int .i64 xp, .slice al lt.length cl] 52)).mono HBX.out.size)
                have HR9 : Hid _ := HBY.out.trans (((Below.refl wr.heap.size wr).alloc (Nat.le_refl _) (.cells #[.int .i64 kd, .int .i64 op, .int .i64 xp, .slice al lt.length cl] 52)).mono HBY.out.size)
                by_cases hk12 : kd = 1 ∨ kd = 2
                · have hh : St.hang ⟨kd, op, xp, lt⟩ = true := decide_eq_true hk12
                  have hxp := HBL.out hh
                  obtain ⟨q, rfl⟩ : ∃ q : Nat, xp = q := ⟨xp.toNat, by have h9 : 0 ≤ xp := hxp.1; omega⟩
                  have hqn : q < o.length := by have h9 : (q : Int) < (p.arity.length : Int) := hxp.2; rw [HLN.out]; omega
                  obtain ⟨bo, oo, rfl, z0⟩ := ints_at HOA.out pr hpn
                  obtain ⟨bo', oo', e9, z1⟩ := ints_at HOA.out q hqn
                  injection e9 with e9
                  injection e9 with e91 e92
                  subst e91 e92
                  have e0' := cell_below ((Below.refl wr.heap.size wr).alloc (Nat.le_refl _) (.cells #[.int .i64 kd, .int .i64 op, .int .i64 q, .slice al lt.length cl] 52)) e0
                  have e2' := cell_below ((Below.refl wr.heap.size wr).alloc (Nat.le_refl _) (.cells #[.int .i64 kd, .int .i64 op, .int .i64 q, .slice al lt.length cl] 52)) e2
                  have r0 := cell_below HR9.out z0
                  have r1 := cell_below HR9.out z1
                  have HLF : Hid (St.litFit o ⟨pr, ts, fo, bd, vs⟩ ⟨kd, op, q, lt⟩ = decide (Sc.intD o q + (if kd = 2 ∨ fo ≠ 0 then 1 else 0) ≤ Sc.intD o pr)) := by
                    show _ = _
                    unfold St.litFit
                    rw [hh]
                    rfl
                  clear z0 z1 hh hxp
                  generalize Sc.intD o pr = A at *
                  generalize Sc.intD o q = Bv at *
                  rcases hk12 with rfl | rfl
                  · by_cases hA : A < Bv
                    · have hAd : decide (A < Bv) = true := decide_eq_true hA
                      have HT : Hid (decide (Bv + (if (1 : Int) = 2 ∨ fo ≠ 0 then 1 else 0) ≤ A) = false) := decide_eq_false (by split <;> omega)
                      clear hA
                      go_wp2_with fail
                      go_quiet (fail)
                      go_wp2_with fail
                      go_ret
                      exact ⟨by rw [HG.out, HDL.out, HLF.out, HT.out]; rfl, HR9.out.trans ((blw_drewN _ _).mono HR9.out.size)⟩
                    · by_cases hAB : A = Bv
                      · by_cases hfz : fo = 0
                        · have hAd : decide (A < Bv) = false := decide_eq_false hA
                          subst hAB
                          have hAe : (A == A) = true := by simp
                          have hfd : (fo == 0) = true := by simpa using hfz
                          have HT : Hid (decide (A + (if (1 : Int) = 2 ∨ fo ≠ 0 then 1 else 0) ≤ A) = true) := decide_eq_true (by rw [if_neg (by rintro (h | h); omega; exact h hfz)]; omega)
                          clear hA
                          clear hfz
                          go_wp2_with fail
                          go_quiet (fail)
                          go_wp2_with fail
                          go_roundw
                          case rel => exact ⟨j + 1, hjl, by go_num, HB9.out.trans ((blw_drewN _ _).mono HB9.out.size), by show _ = _; rw [HG.out, HDL.out, HLF.out, HT.out]; rfl⟩
                          case measure => simp [intOf]; omega
                        · have hAd : decide (A < Bv) = false := decide_eq_false hA
                          subst hAB
                          have hAe : (A == A) = true := by simp
                          have hfd : (fo == 0) = false := by simpa using hfz
                          have HT : Hid (decide (A + (if (1 : Int) = 2 ∨ fo ≠ 0 then 1 else 0) ≤ A) = false) := decide_eq_false (by rw [if_pos (.inr hfz)]; omega)
                          clear hA
                          clear hfz
                          go_wp2_with fail
                          go_quiet (fail)
                          go_wp2_with fail
                          go_ret
                          exact ⟨by rw [HG.out, HDL.out, HLF.out, HT.out]; rfl, HR9.out.trans ((blw_drewN _ _).mono HR9.out.size)⟩
                      · have hAd : decide (A < Bv) = false := decide_eq_false hA
                        have hAe : (A == Bv) = false := by simpa using hAB
                        have HT : Hid (decide (Bv + (if (1 : Int) = 2 ∨ fo ≠ 0 then 1 else 0) ≤ A) = true) := decide_eq_true (by split <;> omega)
                        clear hA
                        clear hAB
                        go_wp2_with fail
                        go_quiet (fail)
                        go_wp2_with fail
                        go_roundw
                        case rel => exact ⟨j + 1, hjl, by go_num, HB9.out.trans ((blw_drewN _ _).mono HB9.out.size), by show _ = _; rw [HG.out, HDL.out, HLF.out, HT.out]; rfl⟩
                        case measure => simp [intOf]; omega
                  · by_cases hA : A < Bv
                    · have hAd : decide (A < Bv) = true := decide_eq_true hA
                      have HT : Hid (decide (Bv + (if (2 : Int) = 2 ∨ fo ≠ 0 then 1 else 0) ≤ A) = false) := decide_eq_false (by split <;> omega)
                      clear hA
                      go_wp2_with fail
                      go_quiet (fail)
                      go_wp2_with fail
                      go_ret
                      exact ⟨by rw [HG.out, HDL.out, HLF.out, HT.out]; rfl, HR9.out.trans ((blw_drewN _ _).mono HR9.out.size)⟩
                    · by_cases hAB : A = Bv
                      · have hAd : decide (A < Bv) = false := decide_eq_false hA
                        subst hAB
                        have hAe : (A == A) = true := by simp
                        have HT : Hid (decide (A + (if (2 : Int) = 2 ∨ fo ≠ 0 then 1 else 0) ≤ A) = false) := decide_eq_false (by rw [if_pos (.inl rfl)]; omega)
                        clear hA
                        go_wp2_with fail
                        go_quiet (fail)
                        go_wp2_with fail
                        go_ret
                        exact ⟨by rw [HG.out, HDL.out, HLF.out, HT.out]; rfl, HR9.out.trans ((blw_drewN _ _).mono HR9.out.size)⟩
                      · have hAd : decide (A < Bv) = false := decide_eq_false hA
                        have hAe : (A == Bv) = false := by simpa using hAB
                        have HT : Hid (decide (Bv + (if (2 : Int) = 2 ∨ fo ≠ 0 then 1 else 0) ≤ A) = true) := decide_eq_true (by split <;> omega)
                        clear hA
                        clear hAB
                        go_wp2_with fail
                        go_quiet (fail)
                        go_wp2_with fail
                        go_roundw
                        case rel => exact ⟨j + 1, hjl, by go_num, HB9.out.trans ((blw_drewN _ _).mono HB9.out.size), by show _ = _; rw [HG.out, HDL.out, HLF.out, HT.out]; rfl⟩
                        case measure => simp [intOf]; omega
                · have hk1 : (kd == 1) = false := by simpa using (fun h => hk12 (.inl h))
                  have hk2 : (kd == 2) = false := by simpa using (fun h => hk12 (.inr h))
                  have hn1 : (kd != 1) = true := by simpa using (fun h => hk12 (.inl h))
                  have hn2 : (kd != 2) = true := by simpa using (fun h => hk12 (.inr h))
                  have HLF : Hid (St.litFit o ⟨pr, ts, fo, bd, vs⟩ ⟨kd, op, xp, lt⟩ = true) := by
                    show _ = _
                    unfold St.litFit St.hang
                    rw [decide_eq_false hk12]
                    rfl
                  clear hk12
                  go_wp2_with fail
                  go_roundw
                  case rel => exact ⟨j + 1, hjl, by go_num, HB9.out, by show _ = _; rw [HG.out, HDL.out, HLF.out]; rfl⟩
                  case measure => simp [intOf]; omega
              · obtain rfl : j = bd.length := by omega
                have hdd3 : decide (bd.length < bd.length) = false := decide_eq_false (Nat.lt_irrefl _)
                go_wp2_with fail
                go_roundw
                case rel => exact ⟨i + 1, hil, by go_num, HBZ.out, by show _ = _; rw [HG.out, allEnd]; rfl⟩
                case measure => simp [intOf]; omega
          · obtain rfl : i = p.rules.length := by omega
            have hdd2 : decide (p.rules.length < p.rules.length) = false := decide_eq_false (Nat.lt_irrefl _)
            go_wp2_with fail
            go_ret
            exact ⟨by rw [HF.out, allEnd]; rfl, HBR.out⟩
  · have hld : ((o.length : Int) == (p.arity.length : Int)) = false := by simpa using (fun h => hl (by omega))
    have HE : Hid (St.fitsB p o = false) := by
      show _ = _
      unfold St.fitsB
      rw [decide_eq_false hl]
      rfl
    clear hl
    go_enter Try.func9, Try.ntmps9
    go_wp2_with fail
    go_ret
    exact ⟨by rw [HE.out]; rfl, HB0.out⟩
end Go.Proofs.Ythenjegmigeieaa

/- The small program of what must be in any case. -/
namespace Go.Proofs.Ythenjegmigeieaa
open Go.RowKit

def smallQ : Sc.Prog := ⟨[2, 2], [[113], [112]],
  [⟨1, [⟨0, 0⟩, ⟨1, 0⟩], 0, [⟨1, 0, 0, [⟨0, 0⟩, ⟨1, 0⟩]⟩], 2⟩,
   ⟨1, [⟨0, 0⟩, ⟨2, 0⟩], 0, [⟨1, 0, 1, [⟨0, 0⟩, ⟨1, 0⟩]⟩, ⟨1, 0, 0, [⟨1, 0⟩, ⟨2, 0⟩]⟩], 3⟩]⟩

/-- Objects laid one behind the other. -/
def laidAll (w : World) : List Obj → World
  | [] => w
  | o :: os => laidAll (w.alloc o) os
theorem laidAll_below : ∀ (os : List Obj) (w : World), Below w.heap.size w (laidAll w os) := by
  intro os
  induction os with
  | nil => intro w; exact Below.refl _ _
  | cons o os ih =>
    intro w
    have b1 : Below w.heap.size w (w.alloc o) := (Below.refl _ _).alloc (Nat.le_refl _) o
    exact b1.trans ((ih (w.alloc o)).mono b1.size)
theorem laidAll_at : ∀ (os : List Obj) (w : World) (k : Nat) (o : Obj), os[k]? = some o → (laidAll w os).heap[w.heap.size + k]? = some o := by
  intro os
  induction os with
  | nil => intro w k o h; simp at h
  | cons x os ih =>
    intro w k o h
    cases k with
    | zero =>
      have hx : x = o := by simpa using h
      subst hx
      have hn := heap_alloc_new w x
      exact ((laidAll_below os (w.alloc x)).block _ (heap_lt hn)).trans hn
    | succ k =>
      have := ih (w.alloc x) k o (by simpa using h)
      have hs : (w.alloc x).heap.size = w.heap.size + 1 := by simp
      rw [hs] at this
      rw [show w.heap.size + (k + 1) = w.heap.size + 1 + k by omega]
      exact this
theorem laidAll_cell (os : List Obj) (w : World) (k : Nat) (c : Array Value) (t : Nat) (i : Nat) (v : Value) (h : os[k]? = some (.cells c t)) (hv : c[i]? = some v) :
    (laidAll w os).cell? ⟨w.heap.size + k, i, none⟩ = some v := by
  rw [Lib.cell_of_heap (laidAll_at os w k _ h)]; exact hv

abbrev slc (n k l : Nat) : Value := .slice (some ⟨n + k, 0, none⟩) l l
abbrev num (i : Int) : Value := .int .i64 i
def smallO (n : Nat) : List Obj :=
  [.cells #[slc n 4 2, slc n 5 2, slc n 13 2] 26,
   .cells #[num 0, num 0] 57, .cells #[num 1, num 0] 57, .cells #[num 2, num 0] 57,
   .cells #[num 2, num 2] 3,
   .cells #[.string ⟨#[113]⟩, .string ⟨#[112]⟩] 9,
   .cells #[num 0, num 0, num 1, num 0] 57,
   .cells #[num 0, num 0, num 1, num 0] 57,
   .cells #[num 1, num 0, num 0, slc n 7 2] 52,
   .cells #[num 0, num 0, num 2, num 0] 57,
   .cells #[num 0, num 0, num 1, num 0] 57,
   .cells #[num 1, num 0, num 2, num 0] 57,
   .cells #[num 1, num 0, num 1, slc n 10 2, num 1, num 0, num 0, slc n 11 2] 52,
   .cells #[num 1, slc n 6 2, num 0, slc n 8 1, num 2, num 1, slc n 9 2, num 0, slc n 12 2, num 3] 48]

theorem small_terms (w : World) (os : List Obj) (k : Nat) (a b : Int) (h : os[k]? = some (.cells #[num a, num 0, num b, num 0] 57)) :
    PTermsV (laidAll w os) (slc w.heap.size k 2) [⟨a, 0⟩, ⟨b, 0⟩] := by
  refine ⟨_, _, rfl, Nat.le_refl _, .inr ⟨_, 0, rfl, fun i hi => ?_⟩⟩
  match i, hi with
  | 0, _ => exact ⟨laidAll_cell os w k _ _ 0 _ h rfl, laidAll_cell os w k _ _ 1 _ h rfl⟩
  | 1, _ => exact ⟨laidAll_cell os w k _ _ 2 _ h rfl, laidAll_cell os w k _ _ 3 _ h rfl⟩

theorem small_prog (w : World) : ProgV (laidAll w (smallO w.heap.size)) (slc w.heap.size 4 2) (slc w.heap.size 5 2) (slc w.heap.size 13 2) smallQ := by
  have c : ∀ (k : Nat) (c : Array Value) (t i : Nat) (v : Value), (smallO w.heap.size)[k]? = some (.cells c t) → c[i]? = some v → (laidAll w (smallO w.heap.size)).cell? ⟨w.heap.size + k, i, none⟩ = some v :=
    fun k c t i v => laidAll_cell _ w k c t i v
  refine ⟨?_, ?_, ?_⟩
  · refine ⟨_, _, rfl, .inr ⟨_, 0, rfl, fun i hi => ?_⟩⟩
    match i, hi with
    | 0, _ => exact c 4 _ _ 0 _ rfl rfl
    | 1, _ => exact c 4 _ _ 1 _ rfl rfl
  · refine ⟨_, _, rfl, .inr ⟨_, 0, rfl, fun i hi => ?_⟩⟩
    match i, hi with
    | 0, _ => exact c 5 _ _ 0 _ rfl rfl
    | 1, _ => exact c 5 _ _ 1 _ rfl rfl
  · refine ⟨_, _, rfl, .inr ⟨_, 0, rfl, fun i hi => ?_⟩⟩
    match i, hi with
    | 0, _ =>
      refine ⟨c 13 _ _ 0 _ rfl rfl, ⟨_, c 13 _ _ 1 _ rfl rfl, small_terms w _ 6 0 1 rfl⟩, c 13 _ _ 2 _ rfl rfl, ⟨_, c 13 _ _ 3 _ rfl rfl, ?_⟩, c 13 _ _ 4 _ rfl rfl⟩
      refine ⟨_, _, rfl, .inr ⟨_, 0, rfl, fun j hj => ?_⟩⟩
      match j, hj with
      | 0, _ => exact ⟨c 8 _ _ 0 _ rfl rfl, c 8 _ _ 1 _ rfl rfl, c 8 _ _ 2 _ rfl rfl, _, c 8 _ _ 3 _ rfl rfl, small_terms w _ 7 0 1 rfl⟩
    | 1, _ =>
      refine ⟨c 13 _ _ 5 _ rfl rfl, ⟨_, c 13 _ _ 6 _ rfl rfl, small_terms w _ 9 0 2 rfl⟩, c 13 _ _ 7 _ rfl rfl, ⟨_, c 13 _ _ 8 _ rfl rfl, ?_⟩, c 13 _ _ 9 _ rfl rfl⟩
      refine ⟨_, _, rfl, .inr ⟨_, 0, rfl, fun j hj => ?_⟩⟩
      match j, hj with
      | 0, _ => exact ⟨c 12 _ _ 0 _ rfl rfl, c 12 _ _ 1 _ rfl rfl, c 12 _ _ 2 _ rfl rfl, _, c 12 _ _ 3 _ rfl rfl, small_terms w _ 10 0 1 rfl⟩
      | 1, _ => exact ⟨c 12 _ _ 4 _ rfl rfl, c 12 _ _ 5 _ rfl rfl, c 12 _ _ 6 _ rfl rfl, _, c 12 _ _ 7 _ rfl rfl, small_terms w _ 11 1 2 rfl⟩

theorem smallQ_check : Sc.check smallQ = 0 := by kernel_rfl
theorem smallQ_levErr : St.levErr smallQ = 0 := by kernel_rfl
theorem smallQ_needErr : St.needErr smallQ 1 = 0 := by kernel_rfl

set_option maxRecDepth 100000 in
set_option maxHeartbeats 2000000 in
theorem small_any (w : World) : Calls Try.prog 10 #[] w fun e w' => ∃ ua un ur, e = .returned (progVal ua un ur) ∧ ProgV w' ua un ur smallQ ∧ Below w.heap.size w w' := by
  have HS : Hid (ProgV (laidAll w (smallO w.heap.size)) (slc w.heap.size 4 2) (slc w.heap.size 5 2) (slc w.heap.size 13 2) smallQ ∧ Below w.heap.size w (laidAll w (smallO w.heap.size))) := ⟨small_prog w, laidAll_below _ w⟩
  have h0 : (laidAll w (smallO w.heap.size)).heap[w.heap.size]? = _ := laidAll_at (smallO w.heap.size) w 0 _ rfl
  have d0 : (laidAll w (smallO w.heap.size)).cell? ⟨w.heap.size, 0, none⟩ = some (slc w.heap.size 4 2) := by rw [Lib.cell_of_heap h0]; rfl
  have d1 : (laidAll w (smallO w.heap.size)).cell? ⟨w.heap.size, 1, none⟩ = some (slc w.heap.size 5 2) := by rw [Lib.cell_of_heap h0]; rfl
  have d2 : (laidAll w (smallO w.heap.size)).cell? ⟨w.heap.size, 2, none⟩ = some (slc w.heap.size 13 2) := by rw [Lib.cell_of_heap h0]; rfl
  have HD : Hid (_ ∧ _ ∧ _) := ⟨d0, d1, d2⟩
  clear h0 d0 d1 d2
  go_enter Try.func10, Try.ntmps10
  go_wp2_with fail
  change bodyPost _ _ _ _ _ (laidAll w (smallO w.heap.size))
  obtain ⟨d0, d1, d2⟩ := HD.out
  generalize laidAll w (smallO w.heap.size) = w2 at *
  refine bodyPost_ret (v := progVal (slc w.heap.size 4 2) (slc w.heap.size 5 2) (slc w.heap.size 13 2)) (by simp [results, Try.results10, go_sem, d0, d1, d2]) rfl ⟨_, _, _, rfl, HS.out.1, HS.out.2⟩
end Go.Proofs.Ythenjegmigeieaa

/- The document's check of terms. -/
namespace Go.Proofs.Ythenjegmigeieaa
open Go.RowKit

theorem btw_any (n a b : Int) (w : World) : Calls Try.prog 19 #[.int .i64 n, .int .i64 a, .int .i64 b] w fun e w' => e = .returned (.bool (Tr.between n a b)) ∧ w' = w := between_any n a b w
set_option maxRecDepth 100000 in
set_option maxHeartbeats 400000 in
theorem refNum_any (n : Int) (w : World) : Calls Try.prog 40 #[.int .i64 n] w fun e w' => e = .returned (.bool (Sc.isNum n)) ∧ w' = w := by
  go_enter Try.func40, Try.ntmps40
  go_wp2_with fail
  refine (btw_any _ _ _ _).mono ?_
  rintro e w1 ⟨rfl, rfl⟩
  go_wp2_with fail
  go_ret
  exact ⟨rfl, rfl⟩

set_option maxRecDepth 100000 in
set_option maxHeartbeats 1000000 in
theorem rpTerms_some (l : List Sc.Term) (vars : Int) (w : World) (n b off cap : Nat) (hv : 0 ≤ vars ∧ vars ≤ 8) (hn : l.length = n) (hmax : n ≤ 9223372036854775807) (hA : ∀ i, i < n → PTermIn w b (off + i * 2) (Sc.termD l i)) :
    Calls Try.prog 31 #[.slice (some ⟨b, off, none⟩) n cap, .int .i64 vars] w fun e w' => e = .returned (.int .i64 (Sc.termsErr vars l)) ∧ w' = w := by
  have HN : Hid (l.length = n) := hn
  clear hn
  go_enter Try.func31, Try.ntmps31
  go_wp2_with fail
  obtain ⟨hv0, hv8⟩ := hv
  go_loopw [5] (fun i wr => ∃ k : Nat, k ≤ n ∧ i = .int .i64 k ∧ Sc.termsErr vars l = Sc.first (Sc.termErr vars) (l.drop k) ∧ wr = w) (fun i _ => n - (intOf i).toNat)
  case atStart => exact ⟨0, Nat.zero_le _, rfl, rfl, rfl⟩
  case round =>
    obtain ⟨k, hk, rfl, hall, rfl⟩ := hrel
    have HA : Hid (Sc.termsErr vars l = Sc.first (Sc.termErr vars) (l.drop k)) := hall
    clear hall
    by_cases hlt : k < n
    · obtain ⟨a0, a1⟩ := hA k hlt
      have HD : Hid (Sc.termsErr vars l = Sc.thn (Sc.termErr vars (Sc.termD l k)) (Sc.first (Sc.termErr vars) (l.drop (k + 1)))) := HA.out.trans (Sc.first_drop _ _ _ k (by rw [HN.out]; exact hlt))
      clear hA HA
      generalize Sc.termD l k = t at *
      go_wp2_with fail
      refine (btw_any _ _ _ _).mono ?_
      rintro e w2 ⟨he, rfl⟩
      cases h1 : Tr.between t.var (-1) (vars - 1)
      · rw [h1] at he
        subst he
        have HV : Hid (Sc.termsErr vars l = 5) := by show _ = _; rw [HD.out, Sc.termErr, h1]; rfl
        clear HD
        go_wp2_with fail
        go_ret
        exact ⟨by rw [HV.out]; rfl, rfl⟩
      · rw [h1] at he
        subst he
        have HT : Hid (Sc.termErr vars t = if !Sc.isNum t.n || (decide (0 ≤ t.var) && t.n != 0) then 3 else 0) := by show _ = _; rw [Sc.termErr, h1]; rfl
        clear h1
        go_wp2_with fail
        refine (refNum_any t.n _).mono ?_
        rintro e w3 ⟨he, rfl⟩
        cases hnum : Sc.isNum t.n
        · rw [hnum] at he
          subst he
          have HV : Hid (Sc.termsErr vars l = 3) := by show _ = _; rw [HD.out, HT.out, hnum]; rfl
          clear HD HT
          go_wp2_with fail
          go_ret
          exact ⟨by rw [HV.out]; rfl, rfl⟩
        · rw [hnum] at he
          subst he
          by_cases h5 : 0 ≤ t.var
          · have g5 : decide (0 ≤ t.var) = true := decide_eq_true h5
            cases g6 : (t.n != 0)
            · have HV : Hid (Sc.termsErr vars l = Sc.first (Sc.termErr vars) (l.drop (k + 1))) := by show _ = _; rw [HD.out, HT.out, hnum, g5, g6]; rfl
              clear HD HT
              go_wp2_with fail
              go_roundw
              case rel => exact ⟨k + 1, by omega, by go_num, HV.out, by trivial⟩
              case measure => simp [intOf]; omega
            · have HV : Hid (Sc.termsErr vars l = 3) := by show _ = _; rw [HD.out, HT.out, hnum, g5, g6]; rfl
              clear HD HT
              go_wp2_with fail
              go_ret
              exact ⟨by rw [HV.out]; rfl, rfl⟩
          · have g5 : decide (0 ≤ t.var) = false := decide_eq_false h5
            have HV : Hid (Sc.termsErr vars l = Sc.first (Sc.termErr vars) (l.drop (k + 1))) := by show _ = _; rw [HD.out, HT.out, hnum, g5]; rfl
            clear HD HT
            go_wp2_with fail
            go_roundw
            case rel => exact ⟨k + 1, by omega, by go_num, HV.out, by trivial⟩
            case measure => simp [intOf]; omega
    · have HV : Hid (Sc.termsErr vars l = 0) := by show _ = _; rw [HA.out, List.drop_of_length_le (by rw [HN.out]; omega)]; rfl
      clear hA
      go_wp2_with fail
      go_ret
      exact ⟨by rw [HV.out]; rfl, rfl⟩

set_option maxRecDepth 100000 in
set_option maxHeartbeats 400000 in
theorem rpTerms_none (w : World) (vars : Int) (ao : Option Addr) (cap : Nat) : Calls Try.prog 31 #[.slice ao 0 cap, .int .i64 vars] w fun e w' => e = .returned (.int .i64 0) ∧ w' = w := by
  go_enter Try.func31, Try.ntmps31
  go_wp2_with fail
  refine wp_loop_rounds 1 ?_
  rw [rounds_succ]
  go_wp2_with fail
  go_ret
  exact ⟨rfl, rfl⟩
theorem rpTerms_any (l : List Sc.Term) (vars : Int) (v : Value) (w : World) (hv : 0 ≤ vars ∧ vars ≤ 8) (hmax : l.length ≤ 9223372036854775807) (hA : PTermsV w v l) :
    Calls Try.prog 31 #[v, .int .i64 vars] w fun e w' => e = .returned (.int .i64 (Sc.termsErr vars l)) ∧ w' = w := by
  obtain ⟨ao, cap, rfl, _, hA⟩ := hA
  rcases hA with rfl | ⟨b, off, rfl, hA⟩
  · exact rpTerms_none w vars ao cap
  · exact rpTerms_some l vars w l.length b off cap hv rfl hmax hA

end Go.Proofs.Ythenjegmigeieaa

/- The document's IsSafe. -/
namespace Go.Proofs.Ythenjegmigeieaa
open Go.RowKit

/-- What stands while IsSafe goes on. -/
structure QInv (w : World) (rb : Obj) (R : Nat) (bs : List Bool) (wr : World) : Prop where
  bel : Below w.heap.size w wr
  box : wr.heap[w.heap.size]? = some rb
  row : wr.heap[R]? = some (.cells (bs.map Value.bool).toArray 4 (0, 0))
  r0 : w.heap.size < R
theorem QInv.below {w wr w2 : World} {rb : Obj} {R : Nat} {bs : List Bool} (h : QInv w rb R bs wr) (hb : Below wr.heap.size wr w2) : QInv w rb R bs w2 :=
  ⟨h.bel.trans (hb.mono h.bel.size), (hb.block _ (heap_lt h.box)).trans h.box, (hb.block _ (heap_lt h.row)).trans h.row, h.r0⟩
theorem QInv.set {w wr : World} {rb : Obj} {R : Nat} {bs : List Bool} (h : QInv w rb R bs wr) (k : Nat) : QInv w rb R (bs.set k true) (wr.setCell ⟨R, k, none⟩ (.bool true)) := by
  have h0 := h.r0
  refine ⟨h.bel.setCell (p := ⟨R, k, none⟩) (Nat.le_of_lt h0) _, ?_, ?_, h0⟩
  · rw [Below.heap_setCell _ _ _ _ (show ¬ w.heap.size = R by omega)]; exact h.box
  · rw [Lib.heap_setCell_same h.row]
    simp [List.map_set]
theorem QInv.at_ {w wr : World} {rb : Obj} {R : Nat} {bs : List Bool} (h : QInv w rb R bs wr) (i : Nat) (hi : i < bs.length) : wr.cell? ⟨R, i, none⟩ = some (.bool (bs.getD i false)) := by
  rw [Lib.cell_of_heap h.row]
  simp [List.getD_eq_getElem?_getD, hi]
theorem bind_one {bs : List Bool} {x : Sc.Lit} (h : x.kind = 1) : Sc.bindAll bs (x.terms.drop 0) = Sc.bindLit bs x := by
  unfold Sc.bindLit Sc.binds
  rw [if_pos h, List.drop_zero]
theorem bind_four {bs : List Bool} {x : Sc.Lit} (h : x.kind = 4) (h0 : Sc.known bs (Sc.termD x.terms 0) = true) (h1 : Sc.known bs (Sc.termD x.terms 1) = true) : Sc.bindAll bs (x.terms.drop 2) = Sc.bindLit bs x := by
  unfold Sc.bindLit Sc.binds
  rw [if_neg (by rw [h]; decide), if_pos ⟨h, h0, h1⟩]
theorem bind_not {bs : List Bool} {x : Sc.Lit} (h : ¬ x.kind = 1) (h4 : ¬ (x.kind = 4 ∧ Sc.known bs (Sc.termD x.terms 0) = true ∧ Sc.known bs (Sc.termD x.terms 1) = true)) : Sc.bindLit bs x = bs := by
  unfold Sc.bindLit Sc.binds
  rw [if_neg h, if_neg h4]
  rfl
theorem take_all (bs : List Bool) (l : List Sc.Term) (m : Nat) (h : m < l.length) : (l.take (m + 1)).all (Sc.known bs) = ((l.take m).all (Sc.known bs) && Sc.known bs (Sc.termD l m)) := by
  rw [List.take_succ_eq_append_getElem h, List.all_append]
  simp [Sc.termD, List.getD_eq_getElem?_getD, h]

set_option maxRecDepth 100000 in
set_option maxHeartbeats 4000000 in
theorem rpSafe_any (r : Sc.Rule) (vt vb : Value) (w : World) (hL : PLitsV w vb r.body) (hG : RuleGood r) :
    Calls Try.prog 32 #[pruleVal r vt vb] w fun e w' => e = .returned (.bool (Sc.safe r)) ∧ Below w.heap.size w w' := by
  obtain ⟨pred, ts, fold, body, vars⟩ := r
  obtain ⟨h0, h8, h4, hG⟩ := hG
  obtain ⟨nv, hnv⟩ : ∃ nv : Nat, vars = nv := ⟨vars.toNat, by simp only at h0; omega⟩
  subst hnv
  simp only [Int.toNat_natCast] at *
  obtain ⟨ab, cb, rfl, hL⟩ := hL
  have hmk := run_make_row' (P := Try.prog) 38 4 (.bool false) 1 Try.underlying38 (by kernel_rfl) rfl .i64 .i64 nv (by omega) (by omega)
  have hst : QInv w (.cells #[.int .i64 pred, vt, .int .i64 fold, .slice ab body.length cb, .int .i64 nv] 48) (w.heap.size + 1) (List.replicate nv false) ((w.alloc (.cells #[.int .i64 pred, vt, .int .i64 fold, .slice ab body.length cb, .int .i64 nv] 48)).alloc (.cells (madeCells #[Value.bool false] nv) 4)) := by
    have h := two_blocks (w := w) (o1 := (.cells #[.int .i64 pred, vt, .int .i64 fold, .slice ab body.length cb, .int .i64 nv] 48)) (o2 := .cells (madeCells #[Value.bool false] nv) 4) (Below.refl _ _)
    exact ⟨below_two w _ _, h.1, by rw [← made_bools]; exact h.2, by omega⟩
  have HS : Hid (Sc.safe ⟨pred, ts, fold, body, nv⟩ = (Sc.rounds body (body.length + 1) (List.replicate nv false)).all id) := by
    show _ = _
    rw [Sc.rounds_enough]
    rfl
  have hlen0 : (List.replicate nv false).length = nv := by simp
  go_enter Try.func32, Try.ntmps32
  go_wp2_with fail
  generalize (w.alloc (.cells #[.int .i64 pred, vt, .int .i64 fold, .slice ab body.length cb, .int .i64 nv] 48)).alloc (.cells (madeCells #[Value.bool false] nv) 4) = w0 at *
  generalize hR : w.heap.size + 1 = R at *
  clear hR
  generalize List.replicate nv false = bz at *
  generalize hrb : Obj.cells #[.int .i64 pred, vt, .int .i64 fold, .slice ab body.length cb, .int .i64 nv] 48 = rb at *
  have HRB : Hid _ := hrb
  clear hrb
  go_loopw [4] (fun i wr => ∃ (k : Nat) (bs : List Bool), k ≤ body.length + 1 ∧ i = .int .i64 k ∧ QInv w rb R bs wr ∧ bs.length = nv ∧ Sc.rounds body (body.length + 1 - k) bs = Sc.rounds body (body.length + 1) bz) (fun i _ => body.length + 1 - (intOf i).toNat)
  case atStart => exact ⟨0, bz, Nat.zero_le _, rfl, hst, hlen0, rfl⟩
  case round =>
    obtain ⟨k, bs0, hk, rfl, hI, hn0, hrd⟩ := hrel
    have HR : Hid _ := hrd
    clear hrd hst hlen0
    have cb3 : wr.cell? ⟨w.heap.size, 3, none⟩ = some (.slice ab body.length cb) := by rw [Lib.cell_of_heap (hI.box.trans (congrArg some HRB.out.symm))]; rfl
    by_cases hlt : k ≤ body.length
    · have gk : decide ((k : Int) ≤ (body.length : Int)) = true := decide_eq_true (by omega)
      have gk' : decide (k ≤ body.length) = true := decide_eq_true hlt
      go_wp2_with fail
      go_loopw [5] (fun i wq => ∃ (j : Nat) (bs : List Bool), j ≤ body.length ∧ i = .int .i64 j ∧ QInv w rb R bs wq ∧ bs.length = nv ∧ (body.drop j).foldl Sc.bindLit bs = Sc.round body bs0) (fun i _ => body.length - (intOf i).toNat)
      case atStart => exact ⟨0, bs0, Nat.zero_le _, rfl, hI, hn0, rfl⟩
      case round =>
        clear hI cb3 hn0
        obtain ⟨j, bs1, hj, rfl, hI, hn1, hfd⟩ := hrel
        have HFD : Hid _ := hfd
        clear hfd
        have cb3 : wr.cell? ⟨w.heap.size, 3, none⟩ = some (.slice ab body.length cb) := by rw [Lib.cell_of_heap (hI.box.trans (congrArg some HRB.out.symm))]; rfl
        by_cases hjl : j < body.length
        · obtain ⟨b, off, rfl, p0, p1, p2, v, p3, hT⟩ := plits_at hL j hjl
          have hT0 := hT
          obtain ⟨at_, ct, rfl, _, hTA⟩ := hT
          have HTA : Hid (PTermsAt w at_ (Sc.litD body j).terms) := hTA
          have q0 := cell_below hI.bel p0
          have q1 := cell_below hI.bel p1
          have q2 := cell_below hI.bel p2
          have q3 := cell_below hI.bel p3
          have hg := hG j hjl
          have HF2 : Hid ((body.drop (j + 1)).foldl Sc.bindLit (Sc.bindLit bs1 (Sc.litD body j)) = Sc.round body bs0) := (foldl_drop Sc.bindLit ⟨0, 0, 0, []⟩ body j hjl bs1).symm.trans HFD.out
          have hb1 : Below wr.heap.size wr (wr.alloc (.cells #[.int .i64 (Sc.litD body j).kind, .int .i64 (Sc.litD body j).op, .int .i64 (Sc.litD body j).pred, .slice at_ (Sc.litD body j).terms.length ct] 52)) := (Below.refl _ _).alloc (Nat.le_refl _) _
          have hlb := heap_alloc_new wr (.cells #[.int .i64 (Sc.litD body j).kind, .int .i64 (Sc.litD body j).op, .int .i64 (Sc.litD body j).pred, .slice at_ (Sc.litD body j).terms.length ct] 52)
          have hI3 := hI.below hb1
          have HNE : Hid (¬ wr.heap.size = R) := by have := heap_lt hI.row; show ¬ _; omega
          clear p0 p1 p2 p3 hb1 hI HFD hTA hT0
          generalize hx : Sc.litD body j = x at *
          clear hx
          go_upto_region 10 with fail
          generalize wr.alloc (.cells #[.int .i64 x.kind, .int .i64 x.op, .int .i64 x.pred, .slice at_ x.terms.length ct] 52) = wz at *
          generalize hLB : wr.heap.size = LB at *
          clear hLB q0 q1 q2 q3 cb3
          have l0 : wz.cell? ⟨LB, 0, none⟩ = some (.int .i64 x.kind) := by rw [Lib.cell_of_heap hlb]; rfl
          have l3 : wz.cell? ⟨LB, 3, none⟩ = some (.slice at_ x.terms.length ct) := by rw [Lib.cell_of_heap hlb]; rfl
          cases gk4 : (x.kind == 4)
          · have hk4 : ¬ x.kind = 4 := by simpa using gk4
            cases gk1 : (x.kind == 1)
            · have hk1 : ¬ x.kind = 1 := by simpa using gk1
              have HBN : Hid (Sc.bindLit bs1 x = bs1) := bind_not hk1 (fun h => hk4 h.1)
              go_wp2_with fail
              by_cases hz : x.terms.length = 0
              · have gz : decide ((0 : Int) < (x.terms.length : Int)) = false := decide_eq_false (by omega)
                have gz' : decide (0 < x.terms.length) = false := decide_eq_false (by omega)
                have HV : Hid ((body.drop (j + 1)).foldl Sc.bindLit bs1 = Sc.round body bs0) := by
                  show _ = _
                  rw [← HF2.out, HBN.out]
                refine wp_loop_rounds 1 ?_
                rw [rounds_succ]
                go_wp2_with fail
                go_roundw
                case rel => exact ⟨j + 1, _, by omega, by go_num, hI3, hn1, HV.out⟩
                case measure => simp [intOf]; omega
              · have gz : decide ((0 : Int) < (x.terms.length : Int)) = true := decide_eq_true (by omega)
                have gz' : decide (0 < x.terms.length) = true := decide_eq_true (by omega)
                have HV : Hid ((body.drop (j + 1)).foldl Sc.bindLit bs1 = Sc.round body bs0) := by
                  show _ = _
                  rw [← HF2.out, HBN.out]
                refine wp_loop_rounds 1 ?_
                rw [rounds_succ]
                go_wp2_with fail
                go_roundw
                case rel => exact ⟨j + 1, _, by omega, by go_num, hI3, hn1, HV.out⟩
                case measure => simp [intOf]; omega
            · have hk1 : x.kind = 1 := by simpa using gk1
              have HBB : Hid (Sc.bindAll bs1 (x.terms.drop 0) = Sc.bindLit bs1 x) := bind_one hk1
              have HLEN : Hid (0 ≤ x.terms.length) := Nat.zero_le _
              have hfit := hg.2.2
              clear hk1 hk4
              go_wp2_with fail
              go_loopw [9] (fun i wz => ∃ (m : Nat) (bs : List Bool), 0 ≤ m ∧ m ≤ x.terms.length ∧ i = .int .i64 m ∧ QInv w rb R bs wz ∧ wz.heap[LB]? = some (.cells #[.int .i64 x.kind, .int .i64 x.op, .int .i64 x.pred, .slice at_ x.terms.length ct] 52) ∧ bs.length = nv ∧ Sc.bindAll bs (x.terms.drop m) = Sc.bindLit bs1 x) (fun i _ => x.terms.length - (intOf i).toNat)
              case atStart => exact ⟨0, bs1, Nat.le_refl _, HLEN.out, rfl, hI3, hlb, hn1, HBB.out⟩
              case round =>
                clear hI3 hlb l0 l3
                obtain ⟨m, bs2, hfm, hm, rfl, hI, hlb, hn2, hbd⟩ := hrel
                have HBD : Hid _ := hbd
                clear hbd
                have l0 : wr.cell? ⟨LB, 0, none⟩ = some (.int .i64 x.kind) := by rw [Lib.cell_of_heap hlb]; rfl
                have l3 : wr.cell? ⟨LB, 3, none⟩ = some (.slice at_ x.terms.length ct) := by rw [Lib.cell_of_heap hlb]; rfl
                by_cases hml : m < x.terms.length
                · obtain ⟨b3, off3, rfl, hc⟩ := pterms_at HTA.out m hml
                  obtain ⟨r0, r1⟩ := hc m hml
                  have s0 := cell_below hI.bel r0
                  have s1 := cell_below hI.bel r1
                  have hvm := hg.2.1 _ (termD_mem hml)
                  have HB2 : Hid (Sc.bindAll (Sc.bind1 bs2 (Sc.termD x.terms m)) (x.terms.drop (m + 1)) = Sc.bindLit bs1 x) := (foldl_drop Sc.bind1 ⟨0, 0⟩ x.terms m hml bs2).symm.trans HBD.out
                  clear HBD r0 r1 hc
                  have hRlt := heap_lt hI.row
                  generalize hT0 : Sc.termD x.terms m = t0 at *
                  clear hT0
                  obtain ⟨var, nn⟩ := t0
                  have hvm : var < nv := hvm
                  by_cases h5 : 0 ≤ var
                  · have g5 : decide (0 ≤ var) = true := decide_eq_true h5
                    obtain ⟨kv, rfl⟩ : ∃ kv : Nat, var = kv := ⟨var.toNat, by omega⟩
                    have hkl : kv < nv := by omega
                    have hcR := hI.at_ kv (by omega)
                    have hfR := Lib.frozen_of_heap hI.row kv
                    have hI4 := hI.set kv
                    have hlb4 := (Below.heap_setCell wr ⟨R, kv, none⟩ (.bool true) LB HNE.out).trans hlb
                    have HV : Hid (Sc.bindAll (bs2.set kv true) (x.terms.drop (m + 1)) = Sc.bindLit bs1 x) := by
                      show _ = _
                      rw [← HB2.out]
                      simp [Sc.bind1]
                    have hn4 : (bs2.set kv true).length = nv := by rw [List.length_set]; exact hn2
                    clear HB2
                    go_wp2_with fail
                    go_roundw
                    case rel => exact ⟨m + 1, _, by omega, by omega, by go_num, hI4, hlb4, hn4, HV.out⟩
                    case measure => simp [intOf]; omega
                  · have g5 : decide (0 ≤ var) = false := decide_eq_false h5
                    have HV : Hid (Sc.bindAll bs2 (x.terms.drop (m + 1)) = Sc.bindLit bs1 x) := by
                      show _ = _
                      rw [← HB2.out]
                      simp [Sc.bind1, h5]
                    clear HB2
                    go_wp2_with fail
                    go_roundw
                    case rel => exact ⟨m + 1, _, by omega, by omega, by go_num, hI, hlb, hn2, HV.out⟩
                    case measure => simp [intOf]; omega
                · have hend : Sc.bindAll bs2 (x.terms.drop m) = bs2 := by rw [List.drop_of_length_le (by omega)]; rfl
                  have HV : Hid ((body.drop (j + 1)).foldl Sc.bindLit bs2 = Sc.round body bs0) := by
                    show _ = _
                    rw [← HF2.out, ← HBD.out, hend]
                  clear hend HBD
                  go_wp2_with fail
                  go_roundw
                  case rel => exact ⟨j + 1, _, by omega, by go_num, hI, hn2, HV.out⟩
                  case measure => simp [intOf]; omega
          · have hk4 : x.kind = 4 := by simpa using gk4
            have hl3 : x.terms.length = 3 := hg.1 hk4
            go_wp2_with fail
            go_loopw [7, 8] (fun f i wq => ∃ (m fv : Nat), m ≤ 2 ∧ i = .int .i64 m ∧ f = .int .i64 fv ∧ wq = wz ∧ fv = if (x.terms.take m).all (Sc.known bs1) then 2 else 3) (fun _ i _ => 2 - (intOf i).toNat)
            case atStart => exact ⟨0, 2, Nat.zero_le _, rfl, rfl, rfl, rfl⟩
            case round =>
              obtain ⟨m, fv, hm, rfl, rfl, rfl, hfv⟩ := hrel
              have HFV : Hid _ := hfv
              clear hfv
              by_cases hm2 : m < 2
              · have gm : decide ((m : Int) < 2) = true := decide_eq_true (by omega)
                have hml : m < x.terms.length := by omega
                obtain ⟨b3, off3, rfl, hc⟩ := pterms_at HTA.out m hml
                obtain ⟨r0, r1⟩ := hc m hml
                have s0 := cell_below hI3.bel r0
                have s1 := cell_below hI3.bel r1
                have hvm := hg.2.1 _ (termD_mem hml)
                have HTK : Hid ((x.terms.take (m + 1)).all (Sc.known bs1) = ((x.terms.take m).all (Sc.known bs1) && Sc.known bs1 (Sc.termD x.terms m))) := take_all _ _ _ hml
                clear r0 r1 hc
                generalize hT0 : Sc.termD x.terms m = t0 at *
                clear hT0
                obtain ⟨var, nn⟩ := t0
                have hvm : var < nv := hvm
                by_cases h5 : 0 ≤ var
                · have g5 : decide (0 ≤ var) = true := decide_eq_true h5
                  obtain ⟨kv, rfl⟩ : ∃ kv : Nat, var = kv := ⟨var.toNat, by omega⟩
                  have hkl : kv < nv := by omega
                  have hcR := hI3.at_ kv (by omega)
                  have hKN : Sc.known bs1 ⟨kv, nn⟩ = bs1.getD kv false := by
                    unfold Sc.known
                    have : decide ((kv : Int) < 0) = false := decide_eq_false (by omega)
                    simp [this]
                  rw [hKN] at HTK
                  clear hKN
                  generalize bs1.getD kv false = bb at *
                  cases bb
                  · have HV : Hid (3 = if (x.terms.take (m + 1)).all (Sc.known bs1) then 2 else 3) := by show _ = _; rw [HTK.out, Bool.and_false]; rfl
                    clear HTK
                    go_wp2_with fail
                    go_roundw
                    case rel => exact ⟨m + 1, 3, by omega, by go_num, by trivial, by trivial, HV.out⟩
                    case measure => simp [intOf]; omega
                  · have HV : Hid (fv = if (x.terms.take (m + 1)).all (Sc.known bs1) then 2 else 3) := by show _ = _; rw [HTK.out, Bool.and_true]; exact HFV.out
                    clear HTK
                    go_wp2_with fail
                    go_roundw
                    case rel => exact ⟨m + 1, fv, by omega, by go_num, by trivial, by trivial, HV.out⟩
                    case measure => simp [intOf]; omega
                · have g5 : decide (0 ≤ var) = false := decide_eq_false h5
                  have hKN : Sc.known bs1 ⟨var, nn⟩ = true := by
                    unfold Sc.known
                    have : decide (var < 0) = true := decide_eq_true (by omega)
                    simp [this]
                  have HV : Hid (fv = if (x.terms.take (m + 1)).all (Sc.known bs1) then 2 else 3) := by show _ = _; rw [HTK.out, hKN, Bool.and_true]; exact HFV.out
                  clear HTK hKN
                  go_wp2_with fail
                  go_roundw
                  case rel => exact ⟨m + 1, fv, by omega, by go_num, by trivial, by trivial, HV.out⟩
                  case measure => simp [intOf]; omega
              · have gm : decide ((m : Int) < 2) = false := decide_eq_false (by omega)
                obtain rfl : m = 2 := by omega
                have HTK : Hid ((x.terms.take 2).all (Sc.known bs1) = (Sc.known bs1 (Sc.termD x.terms 0) && Sc.known bs1 (Sc.termD x.terms 1))) := by
                  show _ = _
                  rw [take_all _ _ 1 (by omega), take_all _ _ 0 (by omega), List.take_zero]
                  simp
                cases hkn : (Sc.known bs1 (Sc.termD x.terms 0) && Sc.known bs1 (Sc.termD x.terms 1))
                · have hf : fv = 3 := by rw [HFV.out, HTK.out, hkn]; rfl
                  subst hf
                  have HBN : Hid (Sc.bindLit bs1 x = bs1) := bind_not (by rw [hk4]; decide) (fun h => by rw [h.2.1, h.2.2] at hkn; cases hkn)
                  have gz : decide ((3 : Int) < (x.terms.length : Int)) = false := decide_eq_false (by omega)
                  have gz' : decide (3 < x.terms.length) = false := decide_eq_false (by omega)
                  clear hk4 HFV HTK
                  go_wp2_with fail
                  have HV : Hid ((body.drop (j + 1)).foldl Sc.bindLit bs1 = Sc.round body bs0) := by
                    show _ = _
                    rw [← HF2.out, HBN.out]
                  refine wp_loop_rounds 1 ?_
                  rw [rounds_succ]
                  go_wp2_with fail
                  go_roundw
                  case rel => exact ⟨j + 1, _, by omega, by go_num, hI3, hn1, HV.out⟩
                  case measure => simp [intOf]; omega
                · have hf : fv = 2 := by rw [HFV.out, HTK.out, hkn]; rfl
                  subst hf
                  rw [Bool.and_eq_true] at hkn
                  have HBB : Hid (Sc.bindAll bs1 (x.terms.drop 2) = Sc.bindLit bs1 x) := bind_four hk4 hkn.1 hkn.2
                  have HLEN : Hid (2 ≤ x.terms.length) := by show _ ≤ _; omega
                  have hfit := hg.2.2
                  have gk1 : (x.kind == 1) = false := by rw [hk4]; rfl
                  clear hk4 hl3 hkn HFV HTK
                  go_wp2_with fail
                  go_loopw [9] (fun i wz => ∃ (m : Nat) (bs : List Bool), 2 ≤ m ∧ m ≤ x.terms.length ∧ i = .int .i64 m ∧ QInv w rb R bs wz ∧ wz.heap[LB]? = some (.cells #[.int .i64 x.kind, .int .i64 x.op, .int .i64 x.pred, .slice at_ x.terms.length ct] 52) ∧ bs.length = nv ∧ Sc.bindAll bs (x.terms.drop m) = Sc.bindLit bs1 x) (fun i _ => x.terms.length - (intOf i).toNat)
                  case atStart => exact ⟨2, bs1, Nat.le_refl _, HLEN.out, rfl, hI3, hlb, hn1, HBB.out⟩
                  case round =>
                    clear hI3 hlb l0 l3
                    obtain ⟨m, bs2, hfm, hm, rfl, hI, hlb, hn2, hbd⟩ := hrel
                    have HBD : Hid _ := hbd
                    clear hbd
                    have l0 : wr.cell? ⟨LB, 0, none⟩ = some (.int .i64 x.kind) := by rw [Lib.cell_of_heap hlb]; rfl
                    have l3 : wr.cell? ⟨LB, 3, none⟩ = some (.slice at_ x.terms.length ct) := by rw [Lib.cell_of_heap hlb]; rfl
                    by_cases hml : m < x.terms.length
                    · obtain ⟨b3, off3, rfl, hc⟩ := pterms_at HTA.out m hml
                      obtain ⟨r0, r1⟩ := hc m hml
                      have s0 := cell_below hI.bel r0
                      have s1 := cell_below hI.bel r1
                      have hvm := hg.2.1 _ (termD_mem hml)
                      have HB2 : Hid (Sc.bindAll (Sc.bind1 bs2 (Sc.termD x.terms m)) (x.terms.drop (m + 1)) = Sc.bindLit bs1 x) := (foldl_drop Sc.bind1 ⟨0, 0⟩ x.terms m hml bs2).symm.trans HBD.out
                      clear HBD r0 r1 hc
                      have hRlt := heap_lt hI.row
                      generalize hT0 : Sc.termD x.terms m = t0 at *
                      clear hT0
                      obtain ⟨var, nn⟩ := t0
                      have hvm : var < nv := hvm
                      by_cases h5 : 0 ≤ var
                      · have g5 : decide (0 ≤ var) = true := decide_eq_true h5
                        obtain ⟨kv, rfl⟩ : ∃ kv : Nat, var = kv := ⟨var.toNat, by omega⟩
                        have hkl : kv < nv := by omega
                        have hcR := hI.at_ kv (by omega)
                        have hfR := Lib.frozen_of_heap hI.row kv
                        have hI4 := hI.set kv
                        have hlb4 := (Below.heap_setCell wr ⟨R, kv, none⟩ (.bool true) LB HNE.out).trans hlb
                        have HV : Hid (Sc.bindAll (bs2.set kv true) (x.terms.drop (m + 1)) = Sc.bindLit bs1 x) := by
                          show _ = _
                          rw [← HB2.out]
                          simp [Sc.bind1]
                        have hn4 : (bs2.set kv true).length = nv := by rw [List.length_set]; exact hn2
                        clear HB2
                        go_wp2_with fail
                        go_roundw
                        case rel => exact ⟨m + 1, _, by omega, by omega, by go_num, hI4, hlb4, hn4, HV.out⟩
                        case measure => simp [intOf]; omega
                      · have g5 : decide (0 ≤ var) = false := decide_eq_false h5
                        have HV : Hid (Sc.bindAll bs2 (x.terms.drop (m + 1)) = Sc.bindLit bs1 x) := by
                          show _ = _
                          rw [← HB2.out]
                          simp [Sc.bind1, h5]
                        clear HB2
                        go_wp2_with fail
                        go_roundw
                        case rel => exact ⟨m + 1, _, by omega, by omega, by go_num, hI, hlb, hn2, HV.out⟩
                        case measure => simp [intOf]; omega
                    · have hend : Sc.bindAll bs2 (x.terms.drop m) = bs2 := by rw [List.drop_of_length_le (by omega)]; rfl
                      have HV : Hid ((body.drop (j + 1)).foldl Sc.bindLit bs2 = Sc.round body bs0) := by
                        show _ = _
                        rw [← HF2.out, ← HBD.out, hend]
                      clear hend HBD
                      go_wp2_with fail
                      go_roundw
                      case rel => exact ⟨j + 1, _, by omega, by go_num, hI, hn2, HV.out⟩
                      case measure => simp [intOf]; omega
        · have hend : (body.drop j).foldl Sc.bindLit bs1 = bs1 := by rw [List.drop_of_length_le (by omega)]; rfl
          have HV : Hid (Sc.rounds body (body.length + 1 - (k + 1)) bs1 = Sc.rounds body (body.length + 1) bz) := by
            show _ = _
            rw [← HR.out, rounds_step body _ k (by omega), ← HFD.out, hend]
          clear hend
          go_wp2_with fail
          go_roundw
          case rel => exact ⟨k + 1, _, by omega, by go_num, hI, hn1, HV.out⟩
          case measure => simp [intOf]; omega
    · have gk : decide ((k : Int) ≤ (body.length : Int)) = false := decide_eq_false (by omega)
      have gk' : decide (k ≤ body.length) = false := decide_eq_false hlt
      have HV : Hid (bs0 = Sc.rounds body (body.length + 1) bz) := by
        show _ = _
        have := HR.out
        rw [show k = body.length + 1 by omega, Nat.sub_self] at this
        exact this
      have cb4 : wr.cell? ⟨w.heap.size, 4, none⟩ = some (.int .i64 nv) := by rw [Lib.cell_of_heap (hI.box.trans (congrArg some HRB.out.symm))]; rfl
      clear HR
      go_wp2_with fail
      go_loopw [10] (fun i wq => ∃ m : Nat, m ≤ nv ∧ i = .int .i64 m ∧ wq = wr ∧ bs0.all id = (bs0.drop m).all id) (fun i _ => nv - (intOf i).toNat)
      case atStart => exact ⟨0, Nat.zero_le _, rfl, rfl, rfl⟩
      case round =>
        obtain ⟨m, hm, rfl, rfl, hall⟩ := hrel
        have HAL : Hid _ := hall
        clear hall
        by_cases hml : m < nv
        · have hcR := hI.at_ m (by omega)
          have hRlt := heap_lt hI.row
          have HD : Hid (bs0.all id = (bs0.getD m false && (bs0.drop (m + 1)).all id)) := HAL.out.trans (all_drop _ _ _ m (by omega))
          clear HAL
          generalize bs0.getD m false = bb at *
          cases bb
          · have HV2 : Hid (Sc.safe ⟨pred, ts, fold, body, nv⟩ = false) := by show _ = _; rw [HS.out, ← HV.out, HD.out]; rfl
            have hbel := hI.bel
            go_wp2_with fail
            go_ret
            exact ⟨by rw [HV2.out]; rfl, hbel⟩
          · have HV2 : Hid (bs0.all id = (bs0.drop (m + 1)).all id) := by show _ = _; rw [HD.out]; rfl
            clear HD
            go_wp2_with fail
            go_roundw
            case rel => exact ⟨m + 1, by omega, by go_num, by trivial, HV2.out⟩
            case measure => simp [intOf]; omega
        · have HV2 : Hid (Sc.safe ⟨pred, ts, fold, body, nv⟩ = true) := by show _ = _; rw [HS.out, ← HV.out, HAL.out, List.drop_of_length_le (by omega)]; rfl
          have hbel := hI.bel
          go_wp2_with fail
          go_ret
          exact ⟨by rw [HV2.out]; rfl, hbel⟩

end Go.Proofs.Ythenjegmigeieaa

